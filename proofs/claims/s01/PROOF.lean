import PyProof.Rows.All
import Wide.All
import OpenK.AllK
import Wide.FinOn
import PyProof.EqAt
import PyProof.EqKinds
import PyProof.TupleCall
import KE.BitLaws
import PyProof.SetScanFacts
import PySem.SetOps
import PyProof.Rows.SetFrom
import PyProof.CollectWalk
import PyProof.FactsBase
import PyProof.FactsTree
import PyProof.RangeIter
import PyProof.SetRoads
import PyProof.Rows.SortShell
import KE.KItemsList
import Open.SpecLaws
import KE.OsHead
import KE.OsGo
import PySem.Challenge.RW_valleyrounds_s01_answers
set_option Elab.async false
noncomputable section
-- CHANGE: your row's module here, as the last of these rows
set_option Elab.async false
set_option linter.all false
set_option maxRecDepth 100000
namespace L2
open PySem PySem.Spec PyProof.Rows
abbrev Key := Sum Int Str
def keyIs : Key → Value → Bool
  | .inl k, v => Value.isInt k v
  | .inr x, v => Value.isStrOf x v
def keyH (w : World) : Key → Int
  | .inl k => hashInt k
  | .inr x => hashStr w x
theorem keyIs_shape : ∀ {k : Key} {v : Value}, keyIs k v = true → (∃ i t, k = Sum.inl i ∧ v = Value.int i t) ∨ (∃ x t, k = Sum.inr x ∧ v = Value.str x t)
  | .inl i, v, h => by
    obtain ⟨t, e⟩ := Value.isInt_shape (k := i) (v := v) h
    exact .inl ⟨i, t, rfl, e⟩
  | .inr x, v, h => by
    obtain ⟨t, e⟩ := Value.isStrOf_shape (x := x) (v := v) h
    exact .inr ⟨x, t, rfl, e⟩
theorem key_ll (a b : Int) : decide ((Sum.inl a : Key) = Sum.inl b) = (a == b) := by
  by_cases e : a = b
  · subst e; simp
  · have h : ¬ (Sum.inl a : Key) = Sum.inl b := fun q => e (Sum.inl.inj q)
    rw [decide_eq_false h]
    exact (beq_eq_false_iff_ne.mpr e).symm
theorem key_rr (a b : Str) : decide ((Sum.inr a : Key) = Sum.inr b) = decide (a = b) := by
  by_cases e : a = b
  · subst e; simp
  · have h : ¬ (Sum.inr a : Key) = Sum.inr b := fun q => e (Sum.inr.inj q)
    rw [decide_eq_false h, decide_eq_false e]
theorem key_lr (a : Int) (b : Str) : decide ((Sum.inl a : Key) = Sum.inr b) = false := decide_eq_false (fun q => nomatch q)
theorem key_rl (a : Str) (b : Int) : decide ((Sum.inr a : Key) = Sum.inl b) = false := decide_eq_false (fun q => nomatch q)
def mixKind (prog : Program) (w : World) : PySem.KeyKind prog w Key where
  is := keyIs
  hash := keyH w
  inj := fun v a b ha hb => by
    rcases keyIs_shape ha with ⟨i, t, rfl, rfl⟩ | ⟨x, t, rfl, rfl⟩
    · rcases keyIs_shape hb with ⟨j, u, rfl, e⟩ | ⟨y, u, rfl, e⟩
      · injection e with e1 _; rw [e1]
      · exact nomatch e
    · rcases keyIs_shape hb with ⟨j, u, rfl, e⟩ | ⟨y, u, rfl, e⟩
      · exact nomatch e
      · injection e with e1 _; rw [e1]
  byValue := fun k v h => by
    rcases keyIs_shape h with ⟨i, t, rfl, rfl⟩ | ⟨x, t, rfl, rfl⟩ <;> rfl
  pyHash := fun hv h => by
    rcases keyIs_shape hv with ⟨i, t, rfl, rfl⟩ | ⟨x, t, rfl, rfl⟩
    · exact wpAny_pyHash_int h
    · exact wpAny_pyHash_str h
  eqBool := fun hu hv h => by
    rcases keyIs_shape hu with ⟨i, t, rfl, rfl⟩ | ⟨x, t, rfl, rfl⟩
    · rcases keyIs_shape hv with ⟨j, u, rfl, rfl⟩ | ⟨y, u, rfl, rfl⟩
      · rw [key_ll] at h; exact wpAny_eqBool_int h
      · rw [key_lr] at h; exact SeqAt.EqAt.int_str i t y u _ _ _ _ h
    · rcases keyIs_shape hv with ⟨j, u, rfl, rfl⟩ | ⟨y, u, rfl, rfl⟩
      · rw [key_rl] at h; exact SeqAt.EqAt.str_int x t j u _ _ _ _ h
      · rw [key_rr] at h; exact wpAny_eqBool_str h
  «strs» := fun k x t v h => by
    rcases keyIs_shape h with ⟨i, u, rfl, e⟩ | ⟨y, u, rfl, e⟩
    · exact nomatch e
    · injection e with e1 _
      subst e1
      cases v <;> rfl
end L2
namespace L2
open PySem PySem.Spec PyProof.Rows
inductive V where
  | non | bl (b : Bool) | int (i : Int) | str (x : Str) | byt (b : Array UInt8) | flt (b : UInt64) | ref (a : Addr) | ty (n : String)
  deriving DecidableEq
def RelV : V → Value → Prop
  | .non, u => u = Value.none
  | .bl b, u => u = Value.bool b
  | .int i, u => ∃ t, u = Value.int i t
  | .str x, u => ∃ t, u = Value.str x t
  | .byt b, u => ∃ t, u = Value.bytes b t
  | .flt b, u => ∃ t, u = Value.float b t
  | .ref a, u => u = Value.ref a
  | .ty n, u => u = Value.type n
abbrev Vals : List V → List Value → Prop := Paired RelV
theorem Vals.length {xs : List V} {us : List Value} (r : Vals xs us) : xs.length = us.length := Paired.length r
theorem Vals.get : ∀ {xs : List V} {us : List Value} {i : Nat} {x : V}, Vals xs us → xs[i]? = some x → ∃ u, us[i]? = some u ∧ RelV x u
  | _, _, _, _, .nil, e => by simp at e
  | _, _, 0, _, .cons r _, e => by simp at e; subst e; exact ⟨_, rfl, r⟩
  | _, _, i + 1, x, .cons _ t, e => by
    obtain ⟨u, h1, h2⟩ := Vals.get (i := i) (x := x) t (by simpa using e)
    exact ⟨u, by simpa using h1, h2⟩
theorem Vals.set {x : V} {u : Value} (r : RelV x u) : ∀ {xs : List V} {us : List Value} (i : Nat), Vals xs us → Vals (xs.set i x) (us.set i u)
  | _, _, _, .nil => .nil
  | _, _, 0, .cons _ t => .cons r t
  | _, _, i + 1, .cons q t => .cons q (Vals.set r i t)
theorem Vals.append : ∀ {xs ys : List V} {us ws : List Value}, Vals xs us → Vals ys ws → Vals (xs ++ ys) (us ++ ws)
  | _, _, _, _, .nil, s => s
  | _, _, _, _, .cons r t, s => .cons r (Vals.append t s)
theorem Vals.take : ∀ {xs : List V} {us : List Value} (n : Nat), Vals xs us → Vals (xs.take n) (us.take n)
  | _, _, 0, _ => .nil
  | _, _, _ + 1, .nil => .nil
  | _, _, n + 1, .cons r t => .cons r (Vals.take n t)
theorem Vals.drop : ∀ {xs : List V} {us : List Value} (n : Nat), Vals xs us → Vals (xs.drop n) (us.drop n)
  | _, _, 0, r => r
  | _, _, _ + 1, .nil => .nil
  | _, _, n + 1, .cons _ t => Vals.drop n t
def RelO : Option V → Option Value → Prop
  | some v, some u => RelV v u
  | none, none => True
  | _, _ => False
def KV {κ : Type} : List (κ × V) → List (κ × Value) → Prop := Paired fun (p : κ × V) (q : κ × Value) => p.1 = q.1 ∧ RelV p.2 q.2
def kV : Key → V
  | .inl i => .int i
  | .inr x => .str x
inductive HO where
  /-- a list -/
  | lst (xs : List V)
  /-- a tuple (never changes) -/
  | tup (xs : List V)
  /-- a dict whose keys are ints and texts; one whose keys are tuples of ints and texts (the empty one is both) -/
  | dK (kvs : List (Key × V)) | dT (kvs : List (List Key × V))
  /-- a set of ints: its members, its size -/
  | set (S : Int → Bool) (n : Nat)
  /-- an instance of the class at C, its dict at dx, its attributes -/
  | ins (C dx : Addr) (fs : List (Str × V))
  /-- the dict of the instance at x -/
  | own (x : Addr)
  /-- the dict of an exception -/
  | xd (fs : List (Str × V))
  /-- a bound method, f of x -/
  | met (f x : Addr)
  /-- a range object lo, lo + 1, .. below hi -/
  | rng (lo hi : Int)
  /-- a thing that is known to the object (the script; a dict while a loop walks it): read, never written while it is so -/
  | frz (o : Obj) (u : HO)
  /-- a code object's table -/
  | tbl (ps : Array Value)
  /-- any other thing, by what is true of its one object (a def of one's own: SetO a S n := HO.ext fun h => ..) -/
  | ext (φ : Heap → Prop)
abbrev Hp := Addr → Option HO
def upd (H : Hp) (a : Addr) (o : HO) : Hp := fun b => if b = a then some o else H b
theorem upd_same {H : Hp} {a : Addr} {o : HO} : upd H a o a = some o := by unfold upd; rw [if_pos rfl]
theorem upd_ne {H : Hp} {a b : Addr} {o : HO} (h : b ≠ a) : upd H a o b = H b := by unfold upd; rw [if_neg h]
theorem upd_upd {H : Hp} {a : Addr} {o u : HO} : upd (upd H a o) a u = upd H a u := by
  funext b; unfold upd; split <;> rfl
theorem ne_of {H : Hp} {a b : Addr} {o u : HO} (h : H a = some o) (h' : H b = some u) (d : o ≠ u) : a ≠ b := by
  intro e; subst e; rw [h] at h'; exact d (Option.some.inj h')
theorem ne_of_none {H : Hp} {a b : Addr} {o : HO} (h : H a = some o) (h' : H b = none) : a ≠ b := by
  intro e; subst e; rw [h] at h'; cases h'
section
variable (P : Program) (w : World)
def ObjOk (H : Hp) (h : Heap) (a : Addr) : HO → Prop
  | .lst xs => xs.length ≤ sizeLine ∧ ∃ (its : List Value) (n : Nat), Vals xs its ∧ h.get? a = some { cls := .type "list", data := .seq its.toArray n }
  | .tup xs => xs.length ≤ sizeLine ∧ ∃ its : List Value, Vals xs its ∧ IsTup h a its.toArray
  | .dK kvs => kvs.length ≤ sizeLine ∧ (a == sysModules) = false ∧ ∃ vs, KV kvs vs ∧ h.DictOf (mixKind P w) a vs
  | .dT kvs => kvs.length ≤ sizeLine ∧ (a == sysModules) = false ∧ ∃ xs : List (List Key × Addr × Value),
      Paired (fun (p : List Key × V) (q : List Key × Addr × Value) => p.1 = q.1 ∧ H q.2.1 = some (.tup (p.1.map kV)) ∧ RelV p.2 q.2.2) kvs xs ∧
      ∃ o es ep, h.get? a = some o ∧ o.ExactDict ∧ o.data = .dict es ep ∧ es.toList = xs.map (entryOfKey (tupleKind (mixKind P w))) ∧ (xs.map (·.1)).Nodup
  | .set S n => h.SetOf (intKind P w) a S n
  | .ins C dx fs => H dx = some (.own a) ∧ fs.length ≤ 1000 ∧ dx ≠ a ∧ h.get? a = some (PySem.W.instObj C dx) ∧
      ∃ mA, h.Ns1 dx mA ∧ (∀ f, RelO (fs.lookup f) (mA f)) ∧ PySem.Within mA (fs.map (·.1))
  | .own _ => ∃ o, h.get? a = some o
  | .xd fs => ∃ mA, h.Ns1 a mA ∧ ∀ f, RelO (fs.lookup f) (mA f)
  | .rng lo hi => ∃ t u v, h.get? a = some { cls := .type "range", data := .fields #[.int lo t, .int hi u, .int 1 v] }
  | .frz o u => h.get? a = some o ∧ ObjOk H h a u
  | .tbl ps => h.get? a = some { cls := .none, data := .fields ps }
  | .met f x => h.get? a = some (PySem.W.methodObj (.ref f) (.ref x))
  | .ext φ => φ h ∧ (∃ o, h.get? a = some o) ∧ ∀ h1 h2 : Heap, φ h1 → (∀ o, h1.get? a = some o → h2.get? a = some o) → φ h2
def HOk (H : Hp) (h : Heap) : Prop := ∀ a o, H a = some o → ObjOk P w H h a o
end
section
variable {P : Program} {w : World} {H H' : Hp} {h h' : Heap} {a : Addr} {o : HO}
theorem ObjOk.lt (x : ObjOk P w H h a o) : a < h.objs.size := by
  cases o with
  | lst xs => obtain ⟨_, _, _, _, e⟩ := x; exact Heap.lt_size e
  | tup xs => obtain ⟨_, _, _, p⟩ := x; exact p.lt
  | dK kvs => obtain ⟨_, _, _, _, o, _, _, e, _⟩ := x; exact Heap.lt_size e
  | dT kvs => obtain ⟨_, _, _, _, o, _, _, e, _⟩ := x; exact Heap.lt_size e
  | set S n => obtain ⟨o, _, _, _, e, _⟩ := x; exact Heap.lt_size e
  | ins C dx fs => obtain ⟨_, _, _, e, _⟩ := x; exact Heap.lt_size e
  | own y => obtain ⟨_, e⟩ := x; exact Heap.lt_size e
  | xd fs => obtain ⟨_, ⟨_, _, _, e, _⟩, _⟩ := x; exact Heap.lt_size e
  | rng lo hi => obtain ⟨_, _, _, e⟩ := x; exact Heap.lt_size e
  | frz ob u => obtain ⟨e, _⟩ := x; exact Heap.lt_size e
  | tbl ps => exact Heap.lt_size (show h.get? a = some _ from x)
  | met f y => exact Heap.lt_size (show h.get? a = some _ from x)
  | ext φ => obtain ⟨_, ⟨_, e⟩, _⟩ := x; exact Heap.lt_size e
theorem Paired.mapP {α β : Type} {F G : α → β → Prop} : ∀ {l₁ : List α} {l₂ : List β}, Paired F l₁ l₂ → (∀ a b, F a b → G a b) → Paired G l₁ l₂
  | _, _, .nil, _ => .nil
  | _, _, .cons r t, f => .cons (f _ _ r) (Paired.mapP t f)
theorem ObjOk.stay (x : ObjOk P w H h a o) (k : ∀ b u, (b = a ∨ H b = some (.own a)) → h.get? b = some u → h'.get? b = some u)
    (ho : ∀ b, H b = some (.own a) → H' b = some (.own a)) (ht : ∀ b xs, H b = some (.tup xs) → H' b = some (.tup xs)) : ObjOk P w H' h' a o := by
  induction o with
  | lst xs => obtain ⟨z, its, n, r, e⟩ := x; exact ⟨z, its, n, r, k _ _ (.inl rfl) e⟩
  | tup xs => obtain ⟨z, its, r, ob, e, c⟩ := x; exact ⟨z, its, r, ob, k _ _ (.inl rfl) e, c⟩
  | dK kvs => obtain ⟨z, y, vs, r, ob, es, ep, e, c⟩ := x; exact ⟨z, y, vs, r, ob, es, ep, k _ _ (.inl rfl) e, c⟩
  | dT kvs =>
    obtain ⟨z, y, xs, r, ob, es, ep, e, c⟩ := x
    exact ⟨z, y, xs, Paired.mapP r fun p q z => ⟨z.1, ht _ _ z.2.1, z.2.2⟩, ob, es, ep, k _ _ (.inl rfl) e, c⟩
  | set S n => obtain ⟨ob, es, ep, t, e, c⟩ := x; exact ⟨ob, es, ep, t, k _ _ (.inl rfl) e, c⟩
  | ins C dx fs =>
    obtain ⟨d, z, ne, e, mA, ⟨od, es, ep, e2, c⟩, r⟩ := x
    exact ⟨ho _ d, z, ne, k _ _ (.inl rfl) e, mA, ⟨od, es, ep, k _ _ (.inr d) e2, c⟩, r⟩
  | own y => obtain ⟨ob, e⟩ := x; exact ⟨ob, k _ _ (.inl rfl) e⟩
  | xd fs => obtain ⟨mA, ⟨od, es, ep, e, c⟩, r⟩ := x; exact ⟨mA, ⟨od, es, ep, k _ _ (.inl rfl) e, c⟩, r⟩
  | rng lo hi => obtain ⟨t, u, v, e⟩ := x; exact ⟨t, u, v, k _ _ (.inl rfl) e⟩
  | frz ob u ih => obtain ⟨e, q⟩ := x; exact ⟨k _ _ (.inl rfl) e, ih q⟩
  | tbl ps =>
    have e : h.get? a = some { cls := .none, data := .fields ps } := x
    show h'.get? a = some { cls := .none, data := .fields ps }
    exact k a _ (.inl rfl) e
  | met f y =>
    have e : h.get? a = some (PySem.W.methodObj (.ref f) (.ref y)) := x
    show h'.get? a = some (PySem.W.methodObj (.ref f) (.ref y))
    exact k a _ (.inl rfl) e
  | ext φ => obtain ⟨p, ⟨o, e⟩, st⟩ := x; exact ⟨st _ _ p fun o q => k _ _ (.inl rfl) q, ⟨o, k _ _ (.inl rfl) e⟩, st⟩
theorem HOk.lt (x : HOk P w H h) (e : H a = some o) : a < h.objs.size := (x a o e).lt
theorem HOk.fresh (x : HOk P w H h) (e : h.objs.size ≤ a) : H a = none := by
  cases q : H a with
  | none => rfl
  | some u => exact absurd (Nat.lt_of_lt_of_le (x.lt q) e) (Nat.lt_irrefl _)
theorem HOk.kept (x : HOk P w H h) (k : ∀ b u, h.get? b = some u → h'.get? b = some u) : HOk P w H h' := fun a o e =>
  (x a o e).stay (fun b u _ q => k b u q) (fun _ q => q) fun _ _ q => q
theorem HOk.laid (x : HOk P w H h) (k : ∀ b u, h.get? b = some u → h'.get? b = some u) (hp : h.objs.size ≤ a) (new : ObjOk P w (upd H a o) h' a o) : HOk P w (upd H a o) h' := fun b u e => by
  have hn := x.fresh hp
  by_cases hb : b = a
  · subst hb; rw [upd_same] at e; cases e; exact new
  · rw [upd_ne hb] at e
    exact (x b u e).stay (fun c v _ q => k c v q) (fun c q => by rw [upd_ne (ne_of_none q hn)]; exact q) fun c xs q => by rw [upd_ne (ne_of_none q hn)]; exact q
end
def Rd (H : Hp) (a : Addr) (u : HO) : Prop := H a = some u ∨ ∃ o, H a = some (.frz o u)
theorem Rd.ok {P : Program} {w : World} {H : Hp} {h : Heap} {a : Addr} {u : HO} (r : Rd H a u) (x : HOk P w H h) : ObjOk P w H h a u := by
  rcases r with r | ⟨o, r⟩
  · exact x a u r
  · obtain ⟨_, q⟩ := x a _ r
    exact q
def Mut : Option HO → Prop
  | some (.lst _) => True
  | some (.dK _) => True
  | some (.dT _) => True
  | some (.set _ _) => True
  | some (.ins _ _ _) => True
  | some (.ext _) => True
  | _ => False
section
variable {P : Program} {w : World} {H : Hp} {h h' : Heap} {x e : Addr} {o' : HO}
theorem HOk.write (ok : HOk P w H h) (mu : Mut (H x)) (he : e = x ∨ H e = some (.own x)) (k : ∀ b u, b ≠ e → h.get? b = some u → h'.get? b = some u) (heo : ∃ u, h'.get? e = some u)
    (new : ObjOk P w (upd H x o') h' x o') : HOk P w (upd H x o') h' := fun b u q => by
  have nown : ∀ c y, H c = some (.own y) → c ≠ x := fun c y r z => by subst z; rw [r] at mu; exact mu
  have ntup : ∀ c xs, H c = some (.tup xs) → c ≠ x := fun c xs r z => by subst z; rw [r] at mu; exact mu
  by_cases hb : b = x
  · subst hb; rw [upd_same] at q; cases q; exact new
  · rw [upd_ne hb] at q
    by_cases hbe : b = e
    · have q' : H b = some (.own x) := by
        rcases he with z | z
        · exact absurd (hbe.trans z) hb
        · rw [hbe]; exact z
      rw [q] at q'; cases q'
      obtain ⟨v, hv⟩ := heo
      exact ⟨v, by rw [hbe]; exact hv⟩
    · refine (ok b u q).stay (fun c v hc r => k c v ?_ r) (fun c r => by rw [upd_ne (nown c b r)]; exact r) fun c xs r => by rw [upd_ne (ntup c xs r)]; exact r
      rcases hc with rfl | hc
      · exact hbe
      · rintro rfl
        rcases he with z | z
        · exact nown c b hc z
        · rw [hc] at z; cases z; exact hb rfl
end
structure Un (fs ex : List Addr) (H H' : Hp) (h h' : Heap) : Prop where
  keep : ∀ b o, h.get? b = some o → H b = none → b ∉ fs → b ∉ ex → h'.get? b = some o
  slot : ∀ b o, h.get? b = some o → H b = none → b ∈ fs → b ∉ ex → ∃ sl, h'.get? b = some { o with slots := sl }
  free : ∀ b o, h.get? b = some o → H b = none → b ∉ ex → H' b = none
  there : ∀ b o, h.get? b = some o → b ∉ ex → ∃ o', h'.get? b = some o'
  tups : ∀ b xs, H b = some (.tup xs) → H' b = some (.tup xs)
  frzs : ∀ b o u, H b = some (.frz o u) → H' b = some (.frz o u)
  tbls : ∀ b ps, H b = some (.tbl ps) → ∃ more, H' b = some (.tbl (ps ++ more))
section
variable {fs fs' ex ex' : List Addr} {H H1 H2 : Hp} {h h1 h2 h' : Heap} {a x e : Addr} {o : HO}
theorem Un.any (u : Un fs ex H H1 h h1) {b : Addr} {ob : Obj} (q : h.get? b = some ob) (n : H b = none) (hx : b ∉ ex) : ∃ sl, h1.get? b = some { ob with slots := sl } := by
  by_cases hb : b ∈ fs
  · exact u.slot b ob q n hb hx
  · exact ⟨ob.slots, u.keep b ob q n hb hx⟩
theorem Un.kept (k : ∀ b u, h.get? b = some u → h'.get? b = some u) : Un fs ex H H h h' :=
  ⟨fun b ob q _ _ _ => k b ob q, fun b ob q _ _ _ => ⟨ob.slots, k b ob q⟩, fun _ _ _ n _ => n, fun b ob q _ => ⟨ob, k b ob q⟩, fun _ _ q => q, fun _ _ _ q => q, fun _ ps q => ⟨#[], by rw [q]; simp⟩⟩
theorem Un.refl : Un fs ex H H h h := Un.kept fun _ _ q => q
theorem Un.laid (k : ∀ b u, h.get? b = some u → h'.get? b = some u) (hp : h.objs.size ≤ a) (hn : H a = none) : Un fs ex H (upd H a o) h h' where
  keep := fun b u q _ _ _ => k b u q
  slot := fun b u q _ _ _ => ⟨u.slots, k b u q⟩
  free := fun b u q n _ => by rw [upd_ne (Nat.ne_of_lt (Nat.lt_of_lt_of_le (Heap.lt_size q) hp))]; exact n
  there := fun b u q _ => ⟨u, k b u q⟩
  tups := fun b xs q => by rw [upd_ne (ne_of_none q hn)]; exact q
  frzs := fun b u xs q => by rw [upd_ne (ne_of_none q hn)]; exact q
  tbls := fun b ps q => ⟨#[], by rw [upd_ne (ne_of_none q hn), q]; simp⟩
theorem Un.write (mu : Mut (H x)) (he : e = x ∨ H e = some (.own x)) (k : ∀ b u, b ≠ e → h.get? b = some u → h'.get? b = some u) (heo : ∃ u, h'.get? e = some u) : Un fs ex H (upd H x o) h h' := by
  have hx : ∀ b, H b = none → b ≠ x := fun b n z => by subst z; rw [n] at mu; exact mu
  have hb : ∀ b, H b = none → b ≠ e := fun b n z => by
    subst z
    rcases he with r | r
    · exact hx b n r
    · rw [n] at r; cases r
  have hm : ∀ b u, H b = some u → ¬ Mut (some u) → b ≠ x := fun b u q nm z => by subst z; rw [q] at mu; exact nm mu
  refine ⟨fun b u q n _ _ => k b u (hb b n) q, fun b u q n _ _ => ⟨u.slots, k b u (hb b n) q⟩, fun b u q n _ => by rw [upd_ne (hx b n)]; exact n, fun b u q _ => ?_,
    fun b xs q => by rw [upd_ne (hm b _ q fun z => z)]; exact q, fun b u xs q => by rw [upd_ne (hm b _ q fun z => z)]; exact q, fun b ps q => ⟨#[], by rw [upd_ne (hm b _ q fun z => z), q]; simp⟩⟩
  by_cases hbe : b = e
  · subst hbe; exact heo
  · exact ⟨u, k b u hbe q⟩
end
def trk (h : Heap) (H : Hp) : List Addr := (List.range h.objs.size).filter fun a => (H a).isSome
def hidT (h : Heap) (H : Hp) : Heap := PySem.W.hideAll h (trk h H)
theorem hidT_size (h : Heap) (H : Hp) : (hidT h H).objs.size = h.objs.size := PySem.W.hideAll_size _ _
theorem hidT_get {h : Heap} {H : Hp} {b : Addr} {o : Obj} (e : h.get? b = some o) (n : H b = none) : (hidT h H).get? b = some o :=
  PySem.W.hideAll_get _ e fun hm => by
    have q : (H b).isSome = true := (List.mem_filter.mp hm).2
    rw [n] at q; simp at q
theorem of_hidT {h : Heap} {H : Hp} {b : Addr} {o : Obj} (e : (hidT h H).get? b = some o) : h.get? b = some o ∧ H b = none := by
  have e' : h.get? b = some o := PySem.W.of_hideAll (trk h H) e
  refine ⟨e', ?_⟩
  cases q : H b with
  | none => rfl
  | some x =>
    have hm : b ∈ trk h H := List.mem_filter.mpr ⟨List.mem_range.mpr (Heap.lt_size e'), by simp [q]⟩
    have z : (hidT h H).get? b = none := PySem.W.hideAll_none (trk h H) hm
    rw [z] at e; cases e
end L2
namespace L2
open PySem PySem.Spec PyProof.Rows
structure Mod (K : PySem.W.Frag) (mg : Str → Option Value) (base : Heap) : Prop where
  kin : K.In base
  glob : base.Ns mainGlobals mg
  blt : ∃ mb, base.Ns builtinsNs mb ∧ ∀ x : Str, x ≠ "__name__" → mb x = bootBuiltins x
  nolimit : base.NoLimit
structure Cx where
  prog : Program
  w : World
  K : PySem.W.Frag
  mg : Str → Option Value
  base : Heap
  A : Around
  N : List Str
  s_0 : Shared
  H_0 : Hp
  env : Env
  outer : List Env
  stack : List Env
  ex : List Addr
  fn : Str → Bool
  calm : Bool
  pn : List (Addr × Obj)
  xe : Value → Shared → Prop
def frs (l : List Env) : List Addr := l.filterMap (·.frame)
abbrev Cx.fs (X : Cx) : List Addr := frs X.outer
def Vis (sc : Scope) (x : Str) : Prop := sc.names.lookup x = some .local ∨ sc.names.lookup x = some .cell ∨ sc.names.lookup x = some .free
def Loc (sc : Scope) (x : Str) : Prop := sc.names.lookup x = some .local ∨ sc.names.lookup x = some .cell
def Look (env : Env) (h : Heap) (m : Str → Option Value) (x : Str) (u : Value) : Prop :=
  (env.kindOf x = some .local ∧ m x = some u) ∨ ((env.kindOf x = some .cell ∨ env.kindOf x = some .free) ∧ ∃ c, env.cells.lookup x = some c ∧ h.IsCell c (some u))
structure Cx.Ok (X : Cx) : Prop where
  mod : Mod X.K X.mg X.base
  kind : X.env.scope.kind = .function
  glob : X.env.globals = mainGlobals
  blt : X.env.builtins = builtinsNs
  above : X.s_0.heap.objs.size ≤ X.env.locals
  inj : ∀ x y c, X.env.cells.lookup x = some c → X.env.cells.lookup y = some c → x = y
  has : ∀ x, (X.env.kindOf x = some .cell ∨ X.env.kindOf x = some .free) → ∃ c, X.env.cells.lookup x = some c
  cab : ∀ x c, X.fn x = true → X.env.cells.lookup x = some c → X.s_0.heap.objs.size ≤ c
  hd : X.calm = true → X.A.handled = none
  frames : X.A.frames = some X.stack
  stk : X.stack = X.outer ∨ (X.stack = X.env :: X.outer ∧ X.env.frame = some X.env.locals)
  exf : ∀ b ∈ X.ex, b ≠ X.env.locals ∧ ∀ x c, X.env.cells.lookup x = some c → c ≠ b
  bs : ∀ b o, X.base.get? b = some o → X.s_0.heap.get? b = some o ∧ X.H_0 b = none
  bsz : X.base.objs.size ≤ X.s_0.heap.objs.size
  noex : ∀ b o, X.base.get? b = some o → b ∉ X.ex
  exfs : ∀ b ∈ X.ex, b ∉ X.fs
  funs : X.s_0.heap.FunFrames X.base X.outer
  frf : ∀ b ∈ X.fs, X.H_0 b = none
structure Inv (X : Cx) (pins : List (Addr × Obj)) (σ : List (Option V)) (H : Hp) (s : Shared) : Prop where
  ok : X.Ok
  os : s.os = X.s_0.os
  bare : AllBare s.gens
  base : Un X.fs X.ex X.H_0 H X.s_0.heap s.heap
  loc : ∃ m, s.heap.Ns X.env.locals m ∧ ∀ (i : Nat) (x : Str) (v : V), X.N[i]? = some x → σ[i]? = some (some v) → Vis X.env.scope x → ∃ u, RelV v u ∧ Look X.env s.heap m x u
  cell : ∀ x c, X.env.cells.lookup x = some c → ∃ v, s.heap.IsCell c v
  free : H X.env.locals = none
  freeC : ∀ x c, X.env.cells.lookup x = some c → H c = none
  pin : ∀ p ∈ X.pn ++ pins, s.heap.get? p.1 = some p.2 ∧ H p.1 = none ∧ p.1 ≠ X.env.locals ∧ p.1 ∉ X.fs ∧ ∀ v, p.2.data ≠ .cell v
  hok : HOk X.prog X.w H s.heap
  len : σ.length = X.N.length
section
variable {X : Cx} {pins : List (Addr × Obj)} {σ : List (Option V)} {H H' : Hp} {s : Shared} {h' : Heap}
theorem Cx.Ok.nofr (ok : X.Ok) {b : Addr} {o : Obj} (e : X.base.get? b = some o) : b ∉ X.fs := fun hb => by
  have := (ok.funs.mem hb).1
  rw [e] at this; cases this
theorem Inv.bs (I : Inv X pins σ H s) : ∀ b o, X.base.get? b = some o → s.heap.get? b = some o ∧ H b = none := fun b o e =>
  ⟨I.base.keep b o (I.ok.bs b o e).1 (I.ok.bs b o e).2 (I.ok.nofr e) (I.ok.noex b o e), I.base.free b o (I.ok.bs b o e).1 (I.ok.bs b o e).2 (I.ok.noex b o e)⟩
theorem Inv.bk (I : Inv X pins σ H s) : ∀ b o, X.base.get? b = some o → s.heap.get? b = some o := fun b o e => (I.bs b o e).1
theorem Inv.mod (I : Inv X pins σ H s) : Mod X.K X.mg X.base := I.ok.mod
theorem Inv.kIn (I : Inv X pins σ H s) : X.K.In s.heap := I.ok.mod.kin.keeps I.bk
theorem Inv.fr (I : Inv X pins σ H s) : ∃ m, Fr X.base X.env.locals s.heap m :=
  let ⟨m, hn, _⟩ := I.loc
  ⟨m, hn, I.bk, Nat.le_trans I.ok.bsz I.ok.above⟩
theorem Inv.lt (I : Inv X pins σ H s) : X.env.locals < s.heap.objs.size := let ⟨_, hn, _⟩ := I.loc; hn.lt
theorem Inv.sz (I : Inv X pins σ H s) : X.s_0.heap.objs.size ≤ s.heap.objs.size := Nat.le_trans I.ok.above (Nat.le_of_lt I.lt)
theorem Inv.nofs (I : Inv X pins σ H s) {a : Addr} (h : s.heap.objs.size ≤ a) : a ∉ X.fs := fun hb => by
  obtain ⟨_, o, ho, _⟩ := I.ok.funs.mem hb
  exact absurd (Nat.lt_of_lt_of_le (Heap.lt_size ho) (Nat.le_trans I.sz h)) (Nat.lt_irrefl _)
theorem Inv.cne (I : Inv X pins σ H s) : ∀ x c, X.env.cells.lookup x = some c → c ≠ X.env.locals := fun x c e z => by
  obtain ⟨v, o, ho, hd⟩ := I.cell x c e
  obtain ⟨m, ⟨o', es, ep, ho', hd', _⟩, _⟩ := I.loc
  rw [z, ho'] at ho; cases ho; rw [hd'] at hd; cases hd
theorem Inv.funs (I : Inv X pins σ H s) : s.heap.FunFrames X.base X.outer := by
  have all : ∀ (l : List Env), (∀ b ∈ frs l, b ∈ X.fs) → X.s_0.heap.FunFrames X.base l → s.heap.FunFrames X.base l := by
    intro l
    induction l with
    | nil => intro _ _; trivial
    | cons env r ih =>
      intro hs hl
      obtain ⟨hk, ⟨L, o, hf, hn, ho, hd⟩, hr⟩ := hl
      have hL : L ∈ X.fs := hs L (by unfold frs; rw [List.filterMap_cons, hf]; exact List.mem_cons_self)
      obtain ⟨sl, e⟩ := I.base.slot L o ho (I.ok.frf L hL) hL fun z => I.ok.exfs L z hL
      exact ⟨hk, ⟨L, _, hf, hn, e, hd⟩, ih (fun b hb => hs b (by unfold frs; rw [List.filterMap_cons, hf]; exact List.mem_cons_of_mem _ hb)) hr⟩
  exact all X.outer (fun _ hb => hb) I.ok.funs
theorem Inv.stack (I : Inv X pins σ H s) : s.heap.FunFrames X.base X.stack := by
  rcases I.ok.stk with e | ⟨e, hf⟩
  · rw [e]; exact I.funs
  · rw [e]
    obtain ⟨m, hn, _⟩ := I.loc
    refine .cons (by rw [I.ok.kind]; decide) hf hn ?_ I.funs
    exact Heap.get?_none_of_le (Nat.le_trans I.ok.bsz I.ok.above)
theorem Inv.stkSub (I : Inv X pins σ H s) : ∀ b ∈ frs X.stack, b ∈ X.env.locals :: X.fs := fun b hb => by
  rcases I.ok.stk with e | ⟨e, hf⟩
  · rw [e] at hb; exact List.mem_cons_of_mem _ hb
  · rw [e] at hb
    unfold frs at hb
    rw [List.filterMap_cons, hf] at hb
    exact hb
theorem Inv.stkFree (I : Inv X pins σ H s) : ∀ b ∈ frs X.stack, H b = none := fun b hb => by
  rcases List.mem_cons.mp (I.stkSub b hb) with e | hb
  · rw [e]; exact I.free
  · obtain ⟨_, o, ho, _⟩ := I.ok.funs.mem hb
    exact I.base.free b o ho (I.ok.frf b hb) fun z => I.ok.exfs b z hb
theorem Inv.step {g' : Array GenState} {t' : Nat} {d' : Drawn} {ch : List Addr} (I : Inv X pins σ H s)
    (hch : ∀ b ∈ ch, (b ∈ X.ex ∨ X.s_0.heap.objs.size ≤ b) ∧ b ≠ X.env.locals ∧ (∀ x c, X.env.cells.lookup x = some c → c ≠ b) ∧ ∀ p ∈ X.pn ++ pins, p.1 ≠ b)
    (keep : ∀ b o, b ≠ X.env.locals → b ∉ X.fs → b ∉ ch → s.heap.get? b = some o → H b = none → h'.get? b = some o)
    (slot : ∀ b o, b ≠ X.env.locals → b ∈ X.fs → b ∉ ch → s.heap.get? b = some o → H b = none → ∃ sl, h'.get? b = some { o with slots := sl }) (free : ∀ b o, b ∉ ch → s.heap.get? b = some o → H b = none → H' b = none)
    (there : ∀ b o, b ∉ ch → s.heap.get? b = some o → ∃ o', h'.get? b = some o')
    (tups : ∀ b xs, H b = some (.tup xs) → H' b = some (.tup xs)) (frzs : ∀ b o u, H b = some (.frz o u) → H' b = some (.frz o u)) (tbls : ∀ b ps, H b = some (.tbl ps) → ∃ more, H' b = some (.tbl (ps ++ more)))
    (ns : ∀ m, s.heap.Ns X.env.locals m → h'.Ns X.env.locals m) (hok : HOk X.prog X.w H' h') (hg : AllBare g') :
    Inv X pins σ H' { s with heap := h', gens := g', drawn := d', toks := t' } := by
  have neL : ∀ b o, X.s_0.heap.get? b = some o → b ≠ X.env.locals := fun b o e => Nat.ne_of_lt (Nat.lt_of_lt_of_le (Heap.lt_size e) I.ok.above)
  have neC : ∀ b o, X.s_0.heap.get? b = some o → b ∉ X.ex → b ∉ ch := fun b o e hx hb => by
    rcases (hch b hb).1 with z | z
    · exact hx z
    · exact absurd (Nat.lt_of_lt_of_le (Heap.lt_size e) z) (Nat.lt_irrefl _)
  have cellK : ∀ x c, X.env.cells.lookup x = some c → ∀ v, s.heap.IsCell c v → h'.IsCell c v := fun x c e v ⟨o, ho, hd⟩ => by
    have nch : c ∉ ch := fun z => (hch c z).2.2.1 x c e rfl
    by_cases hc : c ∈ X.fs
    · obtain ⟨sl, q⟩ := slot c o (I.cne x c e) hc nch ho (I.freeC x c e)
      exact ⟨_, q, hd⟩
    · exact ⟨o, keep c o (I.cne x c e) hc nch ho (I.freeC x c e), hd⟩
  refine ⟨I.ok, I.os, hg, ⟨fun b o e n hb hx => ?_, fun b o e n hb hx => ?_, fun b o e n hx => ?_, fun b o e hx => ?_, fun b xs e => tups b xs (I.base.tups b xs e), fun b o xs e => frzs b o xs (I.base.frzs b o xs e), fun b ps e => ?_⟩, ?_, fun x c e => ?_, ?_, fun x c e => ?_, fun p hp => ?_, hok, I.len⟩
  · exact keep b o (neL b o e) hb (neC b o e hx) (I.base.keep b o e n hb hx) (I.base.free b o e n hx)
  · obtain ⟨sl, e1⟩ := I.base.slot b o e n hb hx
    obtain ⟨sl', e2⟩ := slot b _ (neL b o e) hb (neC b o e hx) e1 (I.base.free b o e n hx)
    exact ⟨sl', e2⟩
  · obtain ⟨o', e1⟩ := I.base.there b o e hx
    exact free b o' (neC b o e hx) e1 (I.base.free b o e n hx)
  · obtain ⟨o', e1⟩ := I.base.there b o e hx
    exact there b o' (neC b o e hx) e1
  · obtain ⟨m1, e1⟩ := I.base.tbls b ps e
    obtain ⟨m2, e2⟩ := tbls b _ e1
    exact ⟨m1 ++ m2, by rw [e2, Array.append_assoc]⟩
  · obtain ⟨m, hn, hl⟩ := I.loc
    refine ⟨m, ns m hn, fun i x v e1 e2 e3 => ?_⟩
    obtain ⟨u, r, l⟩ := hl i x v e1 e2 e3
    refine ⟨u, r, ?_⟩
    rcases l with l | ⟨k, c, e, z⟩
    · exact .inl l
    · exact .inr ⟨k, c, e, cellK x c e _ z⟩
  · obtain ⟨v, z⟩ := I.cell x c e
    exact ⟨v, cellK x c e v z⟩
  · obtain ⟨m, ⟨o, _, _, ho, _⟩, _⟩ := I.loc
    exact free _ o (fun z => (hch _ z).2.1 rfl) ho I.free
  · obtain ⟨v, o, ho, hd⟩ := I.cell x c e
    exact free c o (fun z => (hch c z).2.2.1 x c e rfl) ho (I.freeC x c e)
  · obtain ⟨e, n, ne, nf, d⟩ := I.pin p hp
    have nch : p.1 ∉ ch := fun z => (hch p.1 z).2.2.2 p hp rfl
    exact ⟨keep p.1 p.2 ne nf nch e n, free p.1 p.2 nch e n, ne, nf, d⟩
theorem Inv.un {t' : Nat} (I : Inv X pins σ H s) (u : Un X.fs [] H H' s.heap h') (hok : HOk X.prog X.w H' h') : Inv X pins σ H' { s with heap := h', toks := t' } := by
  obtain ⟨m, ⟨o, es, ep, ho, r⟩, _⟩ := id I.loc
  obtain ⟨sl, hL⟩ := u.any ho I.free (by simp)
  exact I.step (g' := s.gens) (d' := s.drawn) (ch := []) (fun _ z => nomatch z) (fun b o _ hb _ e n => u.keep b o e n hb (by simp)) (fun b o _ hb _ e n => u.slot b o e n hb (by simp)) (fun b o _ e n => u.free b o e n (by simp)) (fun b o _ e => u.there b o e (by simp)) u.tups u.frzs u.tbls (fun m' hm => by
    obtain ⟨o', es', ep', ho', r'⟩ := hm
    rw [ho] at ho'; cases ho'
    exact ⟨_, es', ep', hL, r'⟩) hok I.bare
theorem Inv.call {g' : Array GenState} {t' : Nat} {d' : Drawn} {ch : List Addr} (I : Inv X pins σ H s) (u : Un (frs X.stack) ch H H' s.heap h') (hok : HOk X.prog X.w H' h') (hg : AllBare g')
    (hch : ∀ b ∈ ch, (b ∈ X.ex ∨ X.s_0.heap.objs.size ≤ b) ∧ b ≠ X.env.locals ∧ (∀ x c, X.env.cells.lookup x = some c → c ≠ b) ∧ ∀ p ∈ X.pn ++ pins, p.1 ≠ b) :
    Inv X pins σ H' { s with heap := h', gens := g', drawn := d', toks := t' } := by
  obtain ⟨m, ⟨o, es, ep, ho, r⟩, _⟩ := id I.loc
  obtain ⟨sl, hL⟩ := u.any ho I.free fun z => (hch _ z).2.1 rfl
  exact I.step (ch := ch) hch (fun b o hL hb hc e n => u.keep b o e n (fun z => (List.mem_cons.mp (I.stkSub b z)).elim hL hb) hc) (fun b o _ _ hc e n => u.any e n hc) (fun b o hc e n => u.free b o e n hc) (fun b o hc e => u.there b o e hc) u.tups u.frzs u.tbls (fun m' hm => by
    obtain ⟨o', es', ep', ho', r'⟩ := hm
    rw [ho] at ho'; cases ho'
    exact ⟨_, es', ep', hL, r'⟩) hok hg
theorem Inv.turned {t' : Nat} {it : Addr} (I : Inv X pins σ H s) (k : ∀ b o, b ≠ it → s.heap.get? b = some o → h'.get? b = some o) (hn : H it = none) (hL : it ≠ X.env.locals)
    (h1 : it ∈ X.ex ∨ X.s_0.heap.objs.size ≤ it) (h2 : ∀ x c, X.env.cells.lookup x = some c → c ≠ it) (h3 : ∀ p ∈ X.pn ++ pins, p.1 ≠ it) : Inv X pins σ H { s with heap := h', toks := t' } := by
  have nit : ∀ b u, H b = some u → b ≠ it := fun b u e z => by rw [z, hn] at e; cases e
  refine I.step (g' := s.gens) (d' := s.drawn) (ch := [it]) (fun b hb => ?_) (fun b o _ _ hc e _ => k b o (fun z => hc (by simp [z])) e) (fun b o _ _ hc e _ => ⟨o.slots, k b o (fun z => hc (by simp [z])) e⟩) (fun _ _ _ _ n => n)
    (fun b o hc e => ⟨o, k b o (fun z => hc (by simp [z])) e⟩) (fun _ _ e => e) (fun _ _ _ e => e) (fun b ps e => ⟨#[], by rw [e]; simp⟩) (fun m hm => ?_) (fun b u e => ?_) I.bare
  · have e : b = it := by simpa using hb
    subst e
    exact ⟨h1, hL, h2, h3⟩
  · obtain ⟨o, es, ep, ho, r⟩ := hm
    exact ⟨o, es, ep, k _ o (Ne.symm hL) ho, r⟩
  · refine (I.hok b u e).stay (fun c v hc q => k c v ?_ q) (fun _ q => q) fun _ _ q => q
    rcases hc with z | z
    · rw [z]; exact nit b u e
    · exact nit c _ z
theorem Inv.tok (I : Inv X pins σ H s) (t : Nat) : Inv X pins σ H { s with toks := t } := I.un (h' := s.heap) (t' := t) Un.refl I.hok
theorem Inv.kept {t' : Nat} (I : Inv X pins σ H s) (k : ∀ b u, s.heap.get? b = some u → h'.get? b = some u) : Inv X pins σ H { s with heap := h', toks := t' } := I.un (Un.kept k) (I.hok.kept k)
theorem Inv.laid {a : Addr} {o : HO} {t' : Nat} (I : Inv X pins σ H s) (k : ∀ b u, s.heap.get? b = some u → h'.get? b = some u) (hp : s.heap.objs.size ≤ a) (new : ObjOk X.prog X.w (upd H a o) h' a o) :
    Inv X pins σ (upd H a o) { s with heap := h', toks := t' } := I.un (Un.laid k hp (I.hok.fresh hp)) (I.hok.laid k hp new)
theorem Inv.write {x e : Addr} {o : HO} {t' : Nat} (I : Inv X pins σ H s) (mu : Mut (H x)) (he : e = x ∨ H e = some (.own x)) (k : ∀ b u, b ≠ e → s.heap.get? b = some u → h'.get? b = some u) (heo : ∃ u, h'.get? e = some u)
    (new : ObjOk X.prog X.w (upd H x o) h' x o) : Inv X pins σ (upd H x o) { s with heap := h', toks := t' } := I.un (Un.write mu he k heo) (I.hok.write mu he k heo new)
theorem Inv.weak {σ' : List (Option V)} (I : Inv X pins σ H s) (hl : σ'.length = σ.length) (w : ∀ (i : Nat) v, σ'[i]? = some (some v) → σ[i]? = some (some v)) : Inv X pins σ' H s :=
  ⟨I.ok, I.os, I.bare, I.base, let ⟨m, hn, hl'⟩ := I.loc; ⟨m, hn, fun i x v e1 e2 e3 => hl' i x v e1 (w i v e2) e3⟩, I.cell, I.free, I.freeC, I.pin, I.hok, hl.trans I.len⟩
theorem Inv.pins_of {pins' : List (Addr × Obj)} (I : Inv X pins σ H s) (h : ∀ p ∈ pins', s.heap.get? p.1 = some p.2 ∧ H p.1 = none ∧ p.1 ≠ X.env.locals ∧ p.1 ∉ X.fs ∧ ∀ v, p.2.data ≠ .cell v) : Inv X pins' σ H s :=
  ⟨I.ok, I.os, I.bare, I.base, I.loc, I.cell, I.free, I.freeC, fun p hp => (List.mem_append.mp hp).elim (fun z => I.pin p (List.mem_append_left _ z)) (h p), I.hok, I.len⟩
theorem nodup_ix {N : List Str} (hN : N.Nodup) {i j : Nat} {x : Str} (a : N[i]? = some x) (b : N[j]? = some x) : i = j := by
  obtain ⟨h1, e1⟩ := List.getElem?_eq_some_iff.mp a
  obtain ⟨h2, e2⟩ := List.getElem?_eq_some_iff.mp b
  exact (List.getElem_inj hN).mp (e1.trans e2.symm)
theorem store_ok2 {M : Model} {A : Around} {E : Value → Shared → Prop} {i : Nat} {x : Str} {v : V} {u : Value} {Q : Unit → Shared → Prop} (I : Inv X pins σ H s) (hN : X.N.Nodup) (hi : X.N[i]? = some x) (hx : Loc X.env.scope x) (r : RelV v u)
    (h : ∀ s', Inv X pins (σ.set i (some v)) H s' → (∃ a, Heap.SameBut a s.heap s'.heap ∧ (a = X.env.locals ∨ X.env.cells.lookup x = some a)) → Q () s') (hf : X.fn x = true ∨ X.env.scope.names.lookup x = some .local := by first | exact .inl rfl | exact .inr rfl | assumption) : wpAny M A (storeName X.env x u) Q E s := by
  obtain ⟨m, hn, hl⟩ := id I.loc
  have hcls : (X.env.scope.kind == .class || (X.env.scope.kind == .module && X.env.locals != X.env.globals)) = false := by rw [I.ok.kind]; rfl
  have hiσ : i < σ.length := by rw [I.len]; exact (List.getElem?_eq_some_iff.mp hi).1
  have cne := I.cne
  have tracked : ∀ {a : Addr} {h' : Heap}, (∃ o, s.heap.get? a = some o ∧ H a = none) → Heap.SameBut a s.heap h' → HOk X.prog X.w H h' := fun {a h'} ha hs b ob e => by
    obtain ⟨_, _, hfree⟩ := ha
    refine (I.hok b ob e).stay (fun c w' hc q => (hs.2 c ?_).trans q) (fun _ q => q) fun _ _ q => q
    rintro rfl
    rcases hc with rfl | hc
    · rw [hfree] at e; cases e
    · rw [hfree] at hc; cases hc
  rcases hx with hk | hk
  · refine wpAny_storeName_local hk hn (fun h' hn' hs => ?_) hcls
    obtain ⟨oL, _, _, hoL, _⟩ := id hn
    refine h _ ⟨I.ok, I.os, I.bare, ⟨fun b o e n hb hx => ?_, fun b o e n hb hx => ?_, I.base.free, fun b o e hx => ?_, I.base.tups, I.base.frzs, I.base.tbls⟩, ⟨_, hn', fun j y v' e1 e2 e3 => ?_⟩, fun y c e => ?_, I.free, I.freeC, fun p hp => ?_, tracked ⟨oL, hoL, I.free⟩ hs, by simpa using I.len⟩ ⟨_, hs, .inl rfl⟩
    · exact (hs.2 b (Nat.ne_of_lt (Nat.lt_of_lt_of_le (Heap.lt_size e) I.ok.above))).trans (I.base.keep b o e n hb hx)
    · obtain ⟨sl, e1⟩ := I.base.slot b o e n hb hx
      exact ⟨sl, (hs.2 b (Nat.ne_of_lt (Nat.lt_of_lt_of_le (Heap.lt_size e) I.ok.above))).trans e1⟩
    · obtain ⟨o', e1⟩ := I.base.there b o e hx
      exact ⟨o', (hs.2 b (Nat.ne_of_lt (Nat.lt_of_lt_of_le (Heap.lt_size e) I.ok.above))).trans e1⟩
    · by_cases hj : j = i
      · subst hj
        rw [hi] at e1; cases e1
        rw [List.getElem?_set_self hiσ] at e2
        cases e2
        exact ⟨u, r, .inl ⟨hk, by simp⟩⟩
      · rw [List.getElem?_set_ne (Ne.symm hj)] at e2
        obtain ⟨u', r', q⟩ := hl j y v' e1 e2 e3
        refine ⟨u', r', ?_⟩
        rcases q with ⟨k, e⟩ | ⟨k, c, e, z⟩
        · refine .inl ⟨k, ?_⟩
          have : y ≠ x := fun e => hj (nodup_ix hN e1 (e ▸ hi))
          simp [this, e]
        · exact .inr ⟨k, c, e, z.sameBut hs (cne y c e)⟩
    · obtain ⟨w', z⟩ := I.cell y c e
      exact ⟨w', z.sameBut hs (cne y c e)⟩
    · obtain ⟨e, n, ne, nf, d⟩ := I.pin p hp
      exact ⟨(hs.2 p.1 ne).trans e, n, ne, nf, d⟩
  · have hfn : X.fn x = true := by
      rcases hf with z | z
      · exact z
      · rw [z] at hk; cases hk
    obtain ⟨c, hc⟩ := I.ok.has x (.inl hk)
    obtain ⟨w', z⟩ := I.cell x c hc
    refine wpAny_storeName_cell I.ok.kind hk hc z (fun h' hc' hs => ?_)
    obtain ⟨oc, hoc, hocd⟩ := id z
    refine h { s with heap := h' } ⟨I.ok, I.os, I.bare, ⟨fun b o e n hb hx => ?_, fun b o e n hb hx => ?_, I.base.free, fun b o e hx => ?_, I.base.tups, I.base.frzs, I.base.tbls⟩, ⟨m, hn.sameBut hs (Ne.symm (cne x c hc)), fun j y v' e1 e2 e3 => ?_⟩, fun y c' e => ?_, I.free, I.freeC, fun p hp => ?_, tracked ⟨oc, hoc, I.freeC x c hc⟩ hs, by simpa using I.len⟩ ⟨c, hs, .inr hc⟩
    · exact (hs.2 b (Nat.ne_of_lt (Nat.lt_of_lt_of_le (Heap.lt_size e) (I.ok.cab x c hfn hc)))).trans (I.base.keep b o e n hb hx)
    · obtain ⟨sl, e1⟩ := I.base.slot b o e n hb hx
      exact ⟨sl, (hs.2 b (Nat.ne_of_lt (Nat.lt_of_lt_of_le (Heap.lt_size e) (I.ok.cab x c hfn hc)))).trans e1⟩
    · obtain ⟨o', e1⟩ := I.base.there b o e hx
      exact ⟨o', (hs.2 b (Nat.ne_of_lt (Nat.lt_of_lt_of_le (Heap.lt_size e) (I.ok.cab x c hfn hc)))).trans e1⟩
    · by_cases hj : j = i
      · subst hj
        rw [hi] at e1; cases e1
        rw [List.getElem?_set_self hiσ] at e2
        cases e2
        exact ⟨u, r, .inr ⟨.inl hk, c, hc, hc'⟩⟩
      · rw [List.getElem?_set_ne (Ne.symm hj)] at e2
        obtain ⟨u', r', q⟩ := hl j y v' e1 e2 e3
        refine ⟨u', r', ?_⟩
        rcases q with q | ⟨k, c', e, z'⟩
        · exact .inl q
        · refine .inr ⟨k, c', e, z'.sameBut hs ?_⟩
          rintro rfl
          exact hj (nodup_ix hN e1 (I.ok.inj _ _ _ e hc ▸ hi))
    · by_cases hcc : c' = c
      · subst hcc; exact ⟨_, hc'⟩
      · obtain ⟨w2, z2⟩ := I.cell y c' e
        exact ⟨w2, z2.sameBut hs hcc⟩
    · obtain ⟨e, n, ne, nf, d⟩ := I.pin p hp
      refine ⟨(hs.2 p.1 ?_).trans e, n, ne, nf, d⟩
      intro q
      rw [q, hoc] at e
      have q' : oc = p.2 := Option.some.inj e
      exact d w' (by rw [← q']; exact hocd)
theorem store_ok {M : Model} {A : Around} {E : Value → Shared → Prop} {i : Nat} {x : Str} {v : V} {u : Value} {Q : Unit → Shared → Prop} (I : Inv X pins σ H s) (hN : X.N.Nodup) (hi : X.N[i]? = some x) (hx : Loc X.env.scope x) (r : RelV v u)
    (h : ∀ s', Inv X pins (σ.set i (some v)) H s' → Q () s') (hf : X.fn x = true ∨ X.env.scope.names.lookup x = some .local := by first | exact .inl rfl | exact .inr rfl | assumption) : wpAny M A (storeName X.env x u) Q E s :=
  store_ok2 I hN hi hx r (fun s' I' _ => h s' I') hf
theorem Inv.call' {s' : Shared} {ch : List Addr} (I : Inv X pins σ H s) (ho : s'.os = s.os) (u : Un (frs X.stack) ch H H' s.heap s'.heap) (hok : HOk X.prog X.w H' s'.heap) (hg : AllBare s'.gens)
    (hch : ∀ b ∈ ch, (b ∈ X.ex ∨ X.s_0.heap.objs.size ≤ b) ∧ b ≠ X.env.locals ∧ (∀ x c, X.env.cells.lookup x = some c → c ≠ b) ∧ ∀ p ∈ X.pn ++ pins, p.1 ≠ b) : Inv X pins σ H' s' := by
  obtain ⟨h', g', d', t', o'⟩ := s'
  have e : o' = s.os := ho
  subst e
  exact I.call (g' := g') (t' := t') (d' := d') u hok hg hch
end
abbrev XK := Value → Option Addr → Hp → Prop
abbrev St := List (Option V)
abbrev VK := V → Hp → Prop
abbrev TE := St → Hp → VK → Prop
abbrev TT := St → Hp → (Bool → Hp → Prop) → Prop
abbrev TA := St → Hp → (List V → Hp → Prop) → Prop
structure Ends where
  nx : St → Hp → Prop
  rt : VK
  bk : St → Hp → Prop := fun _ _ => False
  ct : St → Hp → Prop := fun _ _ => False
abbrev TS := Ends → St → Hp → Prop
def EP (X : Cx) (pins : List (Addr × Obj)) (σ : St) (Q : VK) (u : Value) (s' : Shared) : Prop := ∃ v H', Inv X pins σ H' s' ∧ RelV v u ∧ Q v H'
def TP (X : Cx) (pins : List (Addr × Obj)) (σ : St) (Q : Bool → Hp → Prop) (b : Bool) (s' : Shared) : Prop := ∃ H', Inv X pins σ H' s' ∧ Q b H'
def AP (X : Cx) (pins : List (Addr × Obj)) (σ : St) (Q : List V → Hp → Prop) (us : List Value) (s' : Shared) : Prop := ∃ vs H', Inv X pins σ H' s' ∧ Vals vs us ∧ Q vs H'
def SP (X : Cx) (pins : List (Addr × Obj)) (D : Ends) (f : Flow) (s' : Shared) : Prop :=
  match f with
  | .next => ∃ σ' H', Inv X pins σ' H' s' ∧ D.nx σ' H'
  | .brk => ∃ σ' H', Inv X pins σ' H' s' ∧ D.bk σ' H'
  | .cont => ∃ σ' H', Inv X pins σ' H' s' ∧ D.ct σ' H'
  | .ret u => ∃ v σ' H', Inv X pins σ' H' s' ∧ RelV v u ∧ D.rt v H'
def PE (X : Cx) (e : Expr) (t : TE) : Prop :=
  ∀ (pins : List (Addr × Obj)) (s : Shared) (σ : St) (H : Hp) (Q : VK), Inv X pins σ H s → t σ H Q → wpAny (model X.prog X.w) X.A (eval e X.env) (EP X pins σ Q) X.xe s
def PT (X : Cx) (e : Expr) (t : TT) : Prop :=
  ∀ (pins : List (Addr × Obj)) (s : Shared) (σ : St) (H : Hp) (Q : Bool → Hp → Prop), Inv X pins σ H s → t σ H Q → wpAny (model X.prog X.w) X.A (isTrue e X.env (eval e X.env)) (TP X pins σ Q) X.xe s
def PW (X : Cx) (e : Expr) (t : TT) : Prop :=
  ∀ (whole : Sem Value) (pins : List (Addr × Obj)) (s : Shared) (σ : St) (H : Hp) (Q : Bool → Hp → Prop), Inv X pins σ H s → t σ H Q → wpAny (model X.prog X.w) X.A (isTrue e X.env whole) (TP X pins σ Q) X.xe s
theorem PW.pt {X : Cx} {e : Expr} {t : TT} (h : PW X e t) : PT X e t := h _
def PA (X : Cx) (es : List Expr) (t : TA) : Prop :=
  ∀ (pos : Pos) (pins : List (Addr × Obj)) (s : Shared) (σ : St) (H : Hp) (Q : List V → Hp → Prop), Inv X pins σ H s → t σ H Q → wpAny (model X.prog X.w) X.A (spliced (backTo pos (starEach es X.env))) (AP X pins σ Q) X.xe s
def PS (X : Cx) (st : Stmt) (t : TS) : Prop :=
  ∀ (pins : List (Addr × Obj)) (s : Shared) (σ : St) (H : Hp) (D : Ends), Inv X pins σ H s → t D σ H → wpAny (model X.prog X.w) X.A (exec st X.env) (SP X pins D) X.xe s
def PSs (X : Cx) (st : List Stmt) (t : TS) : Prop :=
  ∀ (pins : List (Addr × Obj)) (s : Shared) (σ : St) (H : Hp) (D : Ends), Inv X pins σ H s → t D σ H → wpAny (model X.prog X.w) X.A (execs st X.env) (SP X pins D) X.xe s
theorem thn {α : Type} {t : Sem α} {Q Q' : α → Shared → Prop} {M : Model} {A : Around} {E : Value → Shared → Prop} {s : Shared} (h : wpAny M A t Q E s) (hQ : ∀ a s, Q a s → Q' a s) : wpAny M A t Q' E s := wpAny_mono h hQ fun _ _ x => x
end L2
namespace L2
open PySem PySem.Spec PyProof.Rows
section
variable {X : Cx}
theorem bin {a b : Expr} {ta tb : TE} (ha : PE X a ta) (hb : PE X b tb) {pins : List (Addr × Obj)} {s : Shared} {σ : St} {H : Hp} {R : V → V → Hp → Prop} (I : Inv X pins σ H s) (h : ta σ H fun x H1 => tb σ H1 fun y H2 => R x y H2)
    {α : Type} {Q : α → Shared → Prop} {f : Value → Value → Sem α}
    (hf : ∀ v u s2 x y H2, Inv X pins σ H2 s2 → RelV x v → RelV y u → R x y H2 → wpAny (model X.prog X.w) X.A (f v u) Q X.xe s2) :
    wpAny (model X.prog X.w) X.A (eval a X.env) (fun v s₁ => wpAny (model X.prog X.w) X.A (eval b X.env) (fun u s₂ => wpAny (model X.prog X.w) X.A (f v u) Q X.xe s₂) X.xe s₁) X.xe s := by
  refine thn (ha pins s σ H _ I h) fun v s1 ⟨x, H1, I1, r1, q1⟩ => ?_
  refine thn (hb pins s1 σ H1 _ I1 q1) fun u s2 ⟨y, H2, I2, r2, q2⟩ => ?_
  exact hf v u s2 x y H2 I2 r1 r2 q2
def tVar (i : Nat) : TE := fun σ H Q => ∃ v, σ[i]? = some (some v) ∧ Q v H
def tC (v : V) : TE := fun _ H Q => Q v H
theorem pe_var {i : Nat} {x : Str} {pos : Pos} (hN : X.N[i]? = some x) (hv : Vis X.env.scope x) (hd : (x == ("__debug__" : Str)) = false := by decide) (hcd : (x == ("__classdict__" : Str)) = false := by decide) : PE X (.Name x pos) (tVar i) := by
  intro pins s σ H Q I h
  obtain ⟨v, e, h⟩ := h
  obtain ⟨m, hn, hl⟩ := I.loc
  obtain ⟨u, r, l⟩ := hl i x v hN e hv
  have fin : EP X pins σ Q u s := ⟨v, H, I, r, h⟩
  rcases l with ⟨hk, hm⟩ | ⟨hk, c, hc, hcell⟩
  · exact wpAny_Name (wpAny_loadName_local I.ok.kind hk hn hm fin) hd
  · rcases hk with hk | hk
    · exact wpAny_Name (wpAny_loadName_cell I.ok.kind hk hc hcell fin) hd
    · exact wpAny_Name (wpAny_loadName_free I.ok.kind hk hc hcell fin hcd) hd
theorem pe_int {i j pos} : PE X (.Constant (.int i) j pos) (tC (.int i)) := fun _ _ _ H _ I h => wpAny_Constant_int ⟨.int i, H, I.tok _, ⟨_, rfl⟩, h⟩
def Gl (X : Cx) (x : Str) : Prop := X.env.kindOf x = some .globalImplicit
theorem ld_glob {E : Value → Shared → Prop} {pins : List (Addr × Obj)} {s : Shared} {σ : St} {H : Hp} {x : Str} {u : Value} {pos : Pos} {Q : Value → Shared → Prop} (I : Inv X pins σ H s) (hg : Gl X x) (hm : X.mg x = some u) (h : Q u s)
    (hd : (x == ("__debug__" : Str)) = false := by decide) : wpAny (model X.prog X.w) X.A (eval (.Name x pos) X.env) Q E s :=
  Calls.Name_function_global I.ok.kind hg (Calls.loadGlobal_global (by rw [I.ok.glob]; exact I.mod.glob.keeps I.bk) hm h) hd
theorem ld_blt {E : Value → Shared → Prop} {pins : List (Addr × Obj)} {s : Shared} {σ : St} {H : Hp} {x : Str} {u : Value} {pos : Pos} {Q : Value → Shared → Prop} (I : Inv X pins σ H s) (hg : Gl X x) (hm : X.mg x = none) (hv : bootBuiltins x = some u) (h : Q u s)
    (hn : x ≠ "__name__" := by decide) (hd : (x == ("__debug__" : Str)) = false := by decide) : wpAny (model X.prog X.w) X.A (eval (.Name x pos) X.env) Q E s := by
  obtain ⟨mb, h1, h2⟩ := I.mod.blt
  exact Calls.Name_function_global I.ok.kind hg (Calls.loadGlobal_builtin (by rw [I.ok.glob]; exact I.mod.glob.keeps I.bk) hm (by rw [I.ok.blt]; exact h1.keeps I.bk) ((h2 x hn).trans hv) h) hd
theorem pe_glob {x : Str} {v : V} {u : Value} {pos : Pos} (hg : Gl X x) (hm : X.mg x = some u) (r : RelV v u) (hd : (x == ("__debug__" : Str)) = false := by decide) : PE X (.Name x pos) (tC v) :=
  fun _ _ _ H _ I h => ld_glob I hg hm ⟨v, H, I, r, h⟩ hd
variable {a b : Expr} {ta tb : TE} {pos : Pos}
def PC (X : Cx) (op : CmpOp) (a b : Expr) (t : TE) : Prop :=
  ∀ (pins : List (Addr × Obj)) (s : Shared) (σ : St) (H : Hp) (Q : VK), Inv X pins σ H s → t σ H Q →
    wpAny (model X.prog X.w) X.A (eval a X.env) (fun v s₁ => wpAny (model X.prog X.w) X.A (eval b X.env) (fun u s₂ => wpAny (model X.prog X.w) X.A (compareOp op v u) (EP X pins σ Q) X.xe s₂) X.xe s₁) X.xe s
def tB (t : TE) : TT := fun σ H Q => t σ H fun x H1 => ∃ c, x = .bl c ∧ Q c H1
theorem pt_cmp {op : CmpOp} {t : TE} (h : PC X op a b t) (h1 : behindInMarks op b = false := by first | exact nobehind _ (by decide) (by decide) | rfl) : PT X (.Compare a [op] [b] pos) (tB t) := by
  intro pins s σ H Q I hw
  refine wpAny_isTrue_Compare1 (thn (h pins s σ H _ I hw) fun v s1 h1 => thn h1 fun u s2 h2 => thn h2 fun c s3 ⟨x, H1, I1, r1, q1⟩ => ?_) h1
  obtain ⟨d, rfl, q⟩ := q1
  cases r1
  exact wpAny_truthy_bool ⟨H1, I1, q⟩
theorem pt_val {e : Expr} {t : TE} (h : PE X e t) (he : ∀ whole, isTrue e X.env whole = (do let v ← whole; standAt e.pos; holding [v] (truthy v)) := by intro _; rfl) : PT X e (tB t) := by
  intro pins s σ H Q I hw
  refine isTrue_plain (thn (h pins s σ H _ I hw) fun v s1 ⟨x, H1, I1, r1, q1⟩ => ?_) (he _)
  obtain ⟨d, rfl, q⟩ := q1
  cases r1
  exact wpAny_truthy_bool ⟨H1, I1, q⟩
variable {tA tB' : TT} {rest : List Expr}
def tOr (t u : TT) : TT := fun σ H Q => t σ H fun c H1 => if c = true then Q true H1 else u σ H1 Q
def tNot (t : TT) : TT := fun σ H Q => t σ H fun c H1 => Q (!c) H1
theorem pw_or1 (ha : PT X a tA) : PW X (.BoolOp .Or [a] pos) tA := by
  intro wh pins s σ H Q I h
  refine isTrue_or (thn (ha pins s σ H Q I h) fun c s1 e => ?_)
  cases c with
  | false => exact isTrue_or_nil e
  | true => exact e
theorem pw_or (ha : PT X a tA) (hb : PW X (.BoolOp .Or (b :: rest) pos) tB') : PW X (.BoolOp .Or (a :: b :: rest) pos) (tOr tA tB') := by
  intro wh pins s σ H Q I h
  refine isTrue_or (thn (ha pins s σ H _ I h) fun c s1 ⟨H1, I1, q1⟩ => ?_)
  cases c with
  | true => exact ⟨H1, I1, q1⟩
  | false => exact hb wh pins s1 σ H1 Q I1 q1
theorem pt_not (ha : PT X a tA) : PT X (.UnaryOp .Not a pos) (tNot tA) := by
  intro pins s σ H Q I h
  exact isTrue_not (ha pins s σ H (fun c H1 => Q (!c) H1) I h)
end
end L2
namespace L2
open PySem PySem.Spec PyProof.Rows
def SqL (K : PySem.W.Frag) (H : Hp) (a : Addr) (xs : List V) : Prop :=
  Rd H a (.lst xs) ∨
    ∃ (o : Obj) (its : Array Value) (n : Nat), K.lookup a = some o ∧ o.cls = .type "list" ∧ o.dict = none ∧ o.data = .seq its n ∧ its.size ≤ sizeLine ∧ Vals xs its.toList
def SqT (K : PySem.W.Frag) (H : Hp) (a : Addr) (xs : List V) : Prop :=
  Rd H a (.tup xs) ∨
    ∃ (o : Obj) (its : Array Value) (n : Nat), K.lookup a = some o ∧ o.cls = .type "tuple" ∧ o.data = .seq its n ∧ its.size ≤ sizeLine ∧ Vals xs its.toList
def absV : Value → Option V
  | .none => some .non
  | .bool b => some (.bl b)
  | .int i _ => some (.int i)
  | .str x _ => some (.str x)
  | .bytes b _ => some (.byt b)
  | .float b _ => some (.flt b)
  | .ref a => some (.ref a)
  | .type n => some (.ty n)
  | _ => none
theorem RelV.abs {x : V} {u : Value} (r : RelV x u) : absV u = some x := by
  cases x with
  | non => cases r; rfl
  | bl _ => cases r; rfl
  | int _ => obtain ⟨t, rfl⟩ := r; rfl
  | str _ => obtain ⟨t, rfl⟩ := r; rfl
  | byt _ => obtain ⟨t, rfl⟩ := r; rfl
  | flt _ => obtain ⟨t, rfl⟩ := r; rfl
  | ref _ => cases r; rfl
  | ty _ => cases r; rfl
theorem RelV.inj {x y : V} {u : Value} (r : RelV x u) (q : RelV y u) : x = y := Option.some.inj (r.abs.symm.trans q.abs)
theorem Vals.inj : ∀ {xs ys : List V} {us : List Value}, Vals xs us → Vals ys us → xs = ys
  | _, _, _, .nil, .nil => rfl
  | _, _, _, .cons r t, .cons r' t' => by rw [r.inj r', Vals.inj t t']
section
variable {X : Cx} {pins : List (Addr × Obj)} {σ : St} {H : Hp} {s : Shared} {a : Addr} {xs ys : List V}
theorem SqL.of {K : PySem.W.Frag} (h : H a = some (.lst xs)) : SqL K H a xs := .inl (.inl h)
theorem SqT.of {K : PySem.W.Frag} (h : H a = some (.tup xs)) : SqT K H a xs := .inl (.inl h)
theorem Inv.list (I : Inv X pins σ H s) (h : SqL X.K H a xs) : ∃ its : List Value, Vals xs its ∧ PlainL s.heap a its.toArray ∧ xs.length ≤ sizeLine := by
  rcases h with h | ⟨o, its, n, hk, hc, hd, hs, hz, r⟩
  · obtain ⟨z, its, n, r, e⟩ := h.ok I.hok
    exact ⟨its, r, ⟨_, n, e, rfl, rfl, rfl⟩, z⟩
  · refine ⟨its.toList, r, ⟨o, n, I.kIn a o hk, hc, hd, by simpa using hs⟩, ?_⟩
    have e := r.length
    simp only [Array.length_toList] at e
    omega
theorem Inv.tuple (I : Inv X pins σ H s) (h : SqT X.K H a xs) : ∃ its : List Value, Vals xs its ∧ IsTup s.heap a its.toArray ∧ xs.length ≤ sizeLine := by
  rcases h with h | ⟨o, its, n, hk, hc, hs, hz, r⟩
  · obtain ⟨z, its, r, p⟩ := h.ok I.hok
    exact ⟨its, r, p, z⟩
  · refine ⟨its.toList, r, ⟨o, I.kIn a o hk, hc, n, by simpa using hs⟩, ?_⟩
    have e := r.length
    simp only [Array.length_toList] at e
    omega
theorem Inv.list_inj (I : Inv X pins σ H s) (h : SqL X.K H a xs) (h' : SqL X.K H a ys) : xs = ys := by
  obtain ⟨its, r, ⟨o, n, e, _, _, d⟩, _⟩ := I.list h
  obtain ⟨its', r', ⟨o', n', e', _, _, d'⟩, _⟩ := I.list h'
  rw [e] at e'; cases e'
  rw [d] at d'
  injection d' with d1 _
  have : its = its' := by simpa using congrArg Array.toList d1
  subst this
  exact r.inj r'
end
abbrev Cx.wish (X : Cx) (E : Value → Shared → Prop) : Cx := { X with xe := E }
abbrev Cx.nox (X : Cx) : Cx := X.wish fun _ _ => False
theorem Cx.Ok.wish {X : Cx} (ok : X.Ok) (E : Value → Shared → Prop) : (X.wish E).Ok :=
  ⟨ok.mod, ok.kind, ok.glob, ok.blt, ok.above, ok.inj, ok.has, ok.cab, ok.hd, ok.frames, ok.stk, ok.exf, ok.bs, ok.bsz, ok.noex, ok.exfs, ok.funs, ok.frf⟩
theorem Cx.Ok.unwish {X : Cx} {E : Value → Shared → Prop} (ok : (X.wish E).Ok) : X.Ok :=
  ⟨ok.mod, ok.kind, ok.glob, ok.blt, ok.above, ok.inj, ok.has, ok.cab, ok.hd, ok.frames, ok.stk, ok.exf, ok.bs, ok.bsz, ok.noex, ok.exfs, ok.funs, ok.frf⟩
section
variable {X : Cx} {pins : List (Addr × Obj)} {σ : St} {H : Hp} {s : Shared} {E : Value → Shared → Prop}
theorem Inv.wish (I : Inv X pins σ H s) (E : Value → Shared → Prop) : Inv (X.wish E) pins σ H s := ⟨I.ok.wish E, I.os, I.bare, I.base, I.loc, I.cell, I.free, I.freeC, I.pin, I.hok, I.len⟩
theorem Inv.unwish (I : Inv (X.wish E) pins σ H s) : Inv X pins σ H s := ⟨I.ok.unwish, I.os, I.bare, I.base, I.loc, I.cell, I.free, I.freeC, I.pin, I.hok, I.len⟩
theorem SP.unwish {D : Ends} {f : Flow} {s' : Shared} (h : SP (X.wish E) pins D f s') : SP X pins D f s' := by
  cases f with
  | next => obtain ⟨σ', H', I, q⟩ := h; exact ⟨σ', H', I.unwish, q⟩
  | brk => obtain ⟨σ', H', I, q⟩ := h; exact ⟨σ', H', I.unwish, q⟩
  | cont => obtain ⟨σ', H', I, q⟩ := h; exact ⟨σ', H', I.unwish, q⟩
  | ret u => obtain ⟨v, σ', H', I, r, q⟩ := h; exact ⟨v, σ', H', I.unwish, r, q⟩
theorem PSs.nox {st : List Stmt} {t : TS} (h : PSs X.nox st t) : PSs X st t := fun pins s σ H D I hw =>
  wpAny_mono (h pins s σ H D (I.wish _) hw) (fun _ _ q => q.unwish) fun _ _ z => False.elim z
end
section
variable {X : Cx} {st : Stmt} {rest : List Stmt} {t u : TS} {e : Expr} {te : TE} {pos : Pos}
def tNext : TS := fun D σ H => D.nx σ H
def tSeq (t u : TS) : TS := fun D σ H => t { D with nx := u D } σ H
theorem pss_nil : PSs X [] tNext := fun _ _ σ H _ I h => wpAny_execs_nil ⟨σ, H, I, h⟩
theorem pss_cons (h1 : PS X st t) (h2 : PSs X rest u) : PSs X (st :: rest) (tSeq t u) := by
  intro pins s σ H D I h
  refine wpAny_execs_cons (thn (h1 pins s σ H { D with nx := u D } I h) fun f s1 q => ?_)
  cases f with
  | next =>
    obtain ⟨σ', H', I', q⟩ := q
    exact h2 pins s1 σ' H' D I' q
  | ret v => exact q
  | brk => exact q
  | cont => exact q
theorem pss_one (h1 : PS X st t) : PSs X [st] t := by
  intro pins s σ H D I h
  refine wpAny_execs_cons (thn (h1 pins s σ H D I h) fun f s1 q => ?_)
  cases f with
  | next => exact wpAny_execs_nil q
  | ret v => exact q
  | brk => exact q
  | cont => exact q
theorem Inv.quiet {pins : List (Addr × Obj)} {σ : St} {H : Hp} {s : Shared} (I : Inv X pins σ H s) : interactive X.env = false := by simp [interactive, I.ok.kind]
def tDrop (te : TE) : TS := fun D σ H => te σ H fun _ H1 => D.nx σ H1
theorem ps_expr (he : PE X e te) (hs : swapsWith e none pos.line X.env = pure false := by rfl) : PS X (.Expr e pos) (tDrop te) := by
  intro pins s σ H D I h
  exact wpAny_Expr_any (thn (he pins s σ H _ I h) fun v s1 ⟨x, H1, I1, r1, q1⟩ => ⟨σ, H1, I1, q1⟩) I.quiet hs
def tRet (te : TE) : TS := fun D σ H => te σ H D.rt
theorem ps_ret (he : PE X e te) : PS X (.Return (some e) pos) (tRet te) := by
  intro pins s σ H D I h
  exact wpAny_Return_some (thn (he pins s σ H _ I h) fun v s1 ⟨x, H1, I1, r1, q1⟩ => ⟨x, σ, H1, I1, r1, q1⟩)
def tIfS (c : TT) (t u : TS) : TS := fun D σ H => c σ H fun b H1 => if b = true then t D σ H1 else u D σ H1
theorem ps_if {c : Expr} {a b : List Stmt} {tc : TT} (hc : PT X c tc) (ha : PSs X a t) (hb : PSs X b u) : PS X (.If c a b pos) (tIfS tc t u) := by
  intro pins s σ H D I h
  refine wpAny_If (thn (hc pins s σ H _ I h) fun d s1 ⟨H1, I1, q1⟩ => ?_)
  cases d with
  | true => exact ha pins s1 σ H1 D I1 q1
  | false => exact hb pins s1 σ H1 D I1 q1
end
abbrev TG := V → St → Hp → (St → Hp → Prop) → Prop
def PG (X : Cx) (target : Expr) (t : TG) : Prop :=
  ∀ (pins : List (Addr × Obj)) (s : Shared) (σ : St) (H : Hp) (v : V) (u : Value) (Q : St → Hp → Prop), Inv X pins σ H s → RelV v u → t v σ H Q →
    wpAny (model X.prog X.w) X.A (assign target X.env u) (fun _ s' => ∃ σ' H', Inv X pins σ' H' s' ∧ Q σ' H') X.xe s
abbrev TSet := V → V → V → Hp → (Hp → Prop) → Prop
def PSet (X : Cx) (t : TSet) : Prop :=
  ∀ (pins : List (Addr × Obj)) (s : Shared) (σ : St) (H : Hp) (o i v : V) (ov iv u : Value) (Q : Hp → Prop), Inv X pins σ H s → RelV o ov → RelV i iv → RelV v u → t o i v H Q →
    wpAny (model X.prog X.w) X.A (setItem ov iv u) (fun _ s' => ∃ H', Inv X pins σ H' s' ∧ Q H') X.xe s
section
variable {X : Cx} {pos : Pos}
def gName (i : Nat) : TG := fun v σ H Q => Q (σ.set i (some v)) H
theorem pg_name {i : Nat} {x : Str} (hN : X.N.Nodup) (hi : X.N[i]? = some x) (hx : Loc X.env.scope x) (hf : X.fn x = true ∨ X.env.scope.names.lookup x = some .local := by first | exact .inl rfl | exact .inr rfl | assumption) : PG X (.Name x pos) (gName i) := by
  intro pins s σ H v u Q I r h
  exact wpAny_assign_Name (store_ok I hN hi hx r (fun s' I' => ⟨_, H, I', h⟩) hf)
def gSub (to ti : TE) (t : TSet) : TG := fun v σ H Q => to σ H fun o H1 => ti σ H1 fun i H2 => t o i v H2 fun H3 => Q σ H3
theorem pg_sub {o i : Expr} {to ti : TE} {t : TSet} (ho : PE X o to) (hi : PE X i ti) (hs : PSet X t)
    (ha : ∀ v, assign (.Subscript o i pos) X.env v = (do
      let ov ← holding [v] (eval o X.env)
      let iv ← holding [v, ov] (eval i X.env)
      standAt pos
      holding [v, ov, iv] (setItem ov iv v)
      release [v, ov, iv] []) := by intro _; rfl) : PG X (.Subscript o i pos) (gSub to ti t) := by
  intro pins s σ H v u Q I r h
  rw [ha]
  refine wpAny_bind (wpAny_holding (thn (ho pins s σ H _ I h) fun ov s1 ⟨x, H1, I1, r1, q1⟩ => ?_))
  refine wpAny_bind (wpAny_holding (thn (hi pins s1 σ H1 _ I1 q1) fun iv s2 ⟨y, H2, I2, r2, q2⟩ => ?_))
  refine wpAny_bind (wpAny_standAt (wpAny_bind (wpAny_holding (thn (hs pins s2 σ H2 x y v ov iv u _ I2 r1 r2 r q2) fun _ s3 ⟨H3, I3, q3⟩ => ?_))))
  exact wpAny_release ⟨σ, H3, I3, q3⟩
def tAsg (te : TE) (g : TG) : TS := fun D σ H => te σ H fun x H1 => g x σ H1 D.nx
theorem ps_asg {tg e : Expr} {te : TE} {g : TG} (he : PE X e te) (hg : PG X tg g) (hs : swapsWithSole [tg] e pos.line X.env = pure false := by rfl) (hw : swappedStores [tg] e X.env = pure none := by rfl)
    (h1 : (assignEach [tg] X.env).map (·.2) = [assign tg X.env] := by rfl) : PS X (.Assign [tg] e pos) (tAsg te g) := by
  intro pins s σ H D I h
  refine wpAny_Assign_stores (thn (he pins s σ H _ I h) fun v s1 ⟨x, H1, I1, r1, q1⟩ => ?_) hs hw
  rw [h1]
  exact thn (hg pins s1 σ H1 x v _ I1 r1 q1) fun _ s2 q => q
theorem ps_set {i : Nat} {x : Str} {e : Expr} {te : TE} {pos' : Pos} (hN : X.N.Nodup) (hi : X.N[i]? = some x) (hx : Loc X.env.scope x) (he : PE X e te) (hs : swapsWith e (some (.Name x pos')) pos.line X.env = pure false := by rfl) (hf : X.fn x = true ∨ X.env.scope.names.lookup x = some .local := by first | exact .inl rfl | exact .inr rfl | assumption) :
    PS X (.Assign [.Name x pos'] e pos) (tAsg te (gName i)) := by
  intro pins s σ H D I h
  refine wpAny_Assign_Name (thn (he pins s σ H _ I h) fun v s1 ⟨y, H1, I1, r1, q1⟩ => ?_) hs
  exact store_ok I1 hN hi hx r1 (fun s2 I2 => ⟨_, H1, I2, q1⟩) hf
end
section
variable {X : Cx} {pos : Pos}
def tWhile (c : TT) (tb : TS) : TS := fun D σ H => ∃ W : Nat → St → Hp → Prop, (∃ m, W m σ H) ∧ ∀ m σ H, W m σ H →
  c σ H fun b H1 => if b = true then ∃ N : St → Hp → Prop, (∀ σ' H', N σ' H' → ∃ m', m' < m ∧ W m' σ' H') ∧ tb { D with nx := N, ct := N, bk := D.nx } σ H1 else D.nx σ H1
theorem ps_while {c : Expr} {body : List Stmt} {tc : TT} {tb : TS} (hp : PassesOwn (model X.prog X.w) X.A X.env X.xe) (hc : PT X c tc) (hb : PSs X body tb) : PS X (.While c body [] pos) (tWhile tc tb) := by
  intro pins s σ H D I h
  obtain ⟨W, ⟨m0, w0⟩, turn⟩ := h
  refine wpAny_While (codeAny_whileLoop (fun n s' => ∃ σ' H', Inv X pins σ' H' s' ∧ W n σ' H') ?_ m0 ⟨σ, H, I, w0⟩)
  rintro n s1 ⟨σ1, H1, I1, w1⟩
  refine wpAny_passesOwn hp (thn (hc pins s1 σ1 H1 _ I1 (turn n σ1 H1 w1)) fun b s2 ⟨H2, I2, q2⟩ => ?_)
  cases b with
  | true =>
    obtain ⟨N, hN, q2⟩ := q2
    rw [if_pos rfl]
    refine wpAny_passesOwn hp (thn (hb pins s2 σ1 H2 _ I2 q2) fun f s3 q3 => ?_)
    cases f with
    | next =>
      obtain ⟨σ3, H3, I3, n3⟩ := q3
      obtain ⟨m', hm, w3⟩ := hN σ3 H3 n3
      exact ⟨m', hm, σ3, H3, I3, w3⟩
    | cont =>
      obtain ⟨σ3, H3, I3, n3⟩ := q3
      obtain ⟨m', hm, w3⟩ := hN σ3 H3 n3
      exact ⟨m', hm, σ3, H3, I3, w3⟩
    | brk => exact q3
    | ret v => exact q3
  | false =>
    rw [if_neg Bool.false_ne_true]
    exact wpAny_execs_nil ⟨σ1, H2, I2, q2⟩
end
structure It where
  go : Nat → Hp → Prop
  yld : Nat → Hp → V → Hp → Prop
  stop : Nat → Hp → Prop
def FpOk (X : Cx) (pins : List (Addr × Obj)) (H : Hp) (b : Addr) : Prop :=
  H b = none ∧ b ≠ X.env.locals ∧ b ∉ X.fs ∧ (b ∈ X.ex ∨ X.s_0.heap.objs.size ≤ b) ∧ (∀ x c, X.env.cells.lookup x = some c → c ≠ b) ∧ ∀ p ∈ X.pn ++ pins, p.1 ≠ b
theorem Inv.fpOk {X : Cx} {pins : List (Addr × Obj)} {σ : St} {H H' : Hp} {s : Shared} {b : Addr} (I : Inv X pins σ H s) (hb : s.heap.objs.size ≤ b) (hn : H' b = none) : FpOk X pins H' b := by
  refine ⟨hn, Nat.ne_of_gt (Nat.lt_of_lt_of_le I.lt hb), I.nofs hb, .inr (Nat.le_trans I.sz hb), fun x c e z => ?_, fun p hp z => ?_⟩
  · obtain ⟨v, q⟩ := I.cell x c e
    exact absurd (Nat.lt_of_lt_of_le q.lt (by rw [z]; exact hb)) (Nat.lt_irrefl _)
  · exact absurd (Nat.lt_of_lt_of_le (Heap.lt_size (I.pin p hp).1) (by rw [z]; exact hb)) (Nat.lt_irrefl _)
structure Turn (P : Program) (w : World) (K : PySem.W.Frag) (tg : Expr) (J : It) (fp : List Addr) (it : Addr) (tn : Nat → Heap → Prop) : Prop where
  mem : it ∈ fp
  obj : ∀ i h, tn i h → ∀ b ∈ fp, ∃ o, h.get? b = some o ∧ ∀ v, o.data ≠ .cell v
  keep : ∀ i h h', tn i h → (∀ b ∈ fp, ∀ o, h.get? b = some o → h'.get? b = some o) → tn i h'
  item : ∀ (X : Cx), X.prog = P → X.w = w → X.K = K → X.calm = true → ∀ (i : Nat) (pins : List (Addr × Obj)) (s : Shared) (σ : St) (H : Hp) (E : Value → Shared → Prop), Inv X pins σ H s → (∀ b ∈ fp, FpOk X pins H b) → tn i s.heap → J.go i H →
    wpAny (model P w) X.A (pyNext (.ref it)) (fun r s1 => ∃ u, r = some u ∧
      wpAny (model P w) X.A (letOwnedTupleGo tg (.ref it) u) (fun _ s2 => ∃ x H', Inv X pins σ H' s2 ∧ RelV x u ∧ J.yld i H x H' ∧ tn (i + 1) s2.heap ∧ ∀ b ∈ fp, H' b = none) E s1) E s
  done : ∀ (X : Cx), X.prog = P → X.w = w → X.K = K → X.calm = true → ∀ (i : Nat) (pins : List (Addr × Obj)) (s : Shared) (σ : St) (H : Hp) (E : Value → Shared → Prop), Inv X pins σ H s → (∀ b ∈ fp, FpOk X pins H b) → tn i s.heap → J.stop i H →
    wpAny (model P w) X.A (pyNext (.ref it)) (fun r s1 => r = none ∧ Inv X pins σ H s1) E s
  self : ∀ (A : Around) (i : Nat) (s : Shared) (Q : Value → Shared → Prop) (E : Value → Shared → Prop), tn i s.heap → Q (.ref it) s → wpAny (model P w) A (pyIter (.ref it)) Q E s
abbrev TI := St → Hp → (It → Hp → Prop) → Prop
def PIE (X : Cx) (pins : List (Addr × Obj)) (σ : St) (tg : Expr) (R : It → Hp → Prop) (itv : Value) (s2 : Shared) : Prop :=
  ∃ (it : Addr) (fp : List Addr) (tn : Nat → Heap → Prop) (J : It) (H' : Hp), itv = .ref it ∧ Inv X pins σ H' s2 ∧ Turn X.prog X.w X.K tg J fp it tn ∧ tn 0 s2.heap ∧ (∀ b ∈ fp, FpOk X pins H' b) ∧ R J H'
def PI (X : Cx) (tg iter : Expr) (wi : TI) : Prop :=
  ∀ (pins : List (Addr × Obj)) (s : Shared) (σ : St) (H : Hp) (R : It → Hp → Prop), Inv X pins σ H s → wi σ H R →
    wpAny (model X.prog X.w) X.A (eval iter X.env) (fun v s1 => wpAny (model X.prog X.w) X.A (pyIter v) (PIE X pins σ tg R) X.xe s1) X.xe s
theorem go_of {M : Model} {A : Around} {E : Value → Shared → Prop} {s : Shared} {tg : Expr} {it : Addr} {u : Value} {o : Obj} {n : String} {vs : Array Value} {Q : Unit → Shared → Prop} (ho : s.heap.get? it = some o) (hc : o.cls = .type n) (hd : o.data = .fields vs)
    (hn : ["enumerate", "zip", "dict_itemiterator", "dict_reverseitemiterator", "odict_iterator", "itertools.zip_longest", "itertools.pairwise"].contains n = false) (hQ : Q () s) : wpAny M A (letOwnedTupleGo tg (.ref it) u) Q E s := by
  unfold letOwnedTupleGo
  cases tg <;> first
    | exact wpAny_pure hQ
    | (cases u <;> first
        | exact wpAny_pure hQ
        | (refine wpAny_bind (wpAny_load ho ?_)
           rw [hc, hd]
           show wpAny M A (if (["enumerate", "zip", "dict_itemiterator", "dict_reverseitemiterator", "odict_iterator", "itertools.zip_longest", "itertools.pairwise"].contains n && vs[0]? == some (rawInt _)) = true then _ else _) Q E s
           rw [if_neg (by intro h; rw [hn, Bool.false_and] at h; cases h)]
           exact wpAny_pure hQ))
def Itl (K : PySem.W.Frag) (a : Addr) : It :=
  ⟨fun i H => ∃ xs x, SqL K H a xs ∧ xs[i]? = some x, fun i H x H' => H' = H ∧ ∀ xs, SqL K H a xs → xs[i]? = some x, fun i H => ∃ xs, SqL K H a xs ∧ xs.length ≤ i⟩
def Itr (lo : Int) (n : Nat) : It := ⟨fun i _ => i < n, fun i H x H' => H' = H ∧ x = .int (lo + i), fun i _ => n ≤ i⟩
theorem turn_list {P : Program} {w : World} {K : PySem.W.Frag} {tg : Expr} (a it : Addr) : Turn P w K tg (Itl K a) [it] it (fun i h => h.IsListIter it a i) where
  mem := by simp
  obj := fun i h st b hb => by
    have e : b = it := by simpa using hb
    subst e
    obtain ⟨o, e, c, d⟩ := st
    exact ⟨o, e, fun v z => by rw [d] at z; cases z⟩
  keep := fun i h h' st k => st.at fun o e => k it (by simp) o e
  item := by
    intro X hP hw hK hc i pins s σ H E I hf st hg
    subst hP hw hK
    obtain ⟨xs, x, hq, hx⟩ := hg
    obtain ⟨its, rv, p, hz⟩ := I.list hq
    obtain ⟨u, hu, ru⟩ := rv.get hx
    obtain ⟨f0, f1, f2, f3, f4, f5⟩ := hf it (by simp)
    refine wpAny_pyNext_list_item st p.isList (x := u) (by simpa using hu) fun h' st' sb => ?_
    have I1 : Inv X pins σ H { s with heap := h' } := I.turned (t' := s.toks) (fun b o hb e => (sb.2 b hb).trans e) f0 f1 f3 f4 f5
    obtain ⟨o, e, c, d⟩ := id st'
    exact ⟨u, rfl, go_of (s := { s with heap := h' }) e c d (by decide) ⟨x, H, I1, ru, ⟨rfl, fun ys hy => by rw [I.list_inj hy hq]; exact hx⟩, st', fun b hb => (hf b hb).1⟩⟩
  done := by
    intro X hP hw hK hc i pins s σ H E I hf st hg
    subst hP hw hK
    obtain ⟨xs, hq, hx⟩ := hg
    obtain ⟨its, rv, p, hz⟩ := I.list hq
    obtain ⟨f0, f1, f2, f3, f4, f5⟩ := hf it (by simp)
    have hl := rv.length
    exact wpAny_pyNext_list_end (I.ok.hd hc) st p.isList (by simp; omega) fun h' eb => ⟨rfl, I.turned (t' := s.toks) (fun b o hb e => eb b o hb e) f0 f1 f3 f4 f5⟩
  self := fun _ _ _ _ _ st h => wpAny_pyIter_listiter st h
theorem turn_range {P : Program} {w : World} {K : PySem.W.Frag} {tg : Expr} (it : Addr) (lo : Int) (n : Nat) : Turn P w K tg (Itr lo n) [it] it (fun i h => IsRangeIter h it (lo + (i : Nat) * 1) ((n : Int) - (i : Nat)) 1) where
  mem := by simp
  obj := fun i h st b hb => by
    have e : b = it := by simpa using hb
    subst e
    exact ⟨_, st, fun v z => by
      have z' : Data.fields _ = Data.cell v := z
      cases z'⟩
  keep := fun i h h' st k => k it (by simp) _ st
  item := by
    intro X hP hw hK hc i pins s σ H E I hf st hg
    subst hP hw hK
    obtain ⟨f0, f1, f2, f3, f4, f5⟩ := hf it (by simp)
    have W := Walks.range (prog := X.prog) (w := X.w) (I.ok.hd hc) it lo 1 n
    refine W.item i s _ _ hg st fun v h' tk hv st' kk => ?_
    obtain ⟨t, rfl⟩ := hv
    have I1 : Inv X pins σ H { s with heap := h', toks := tk } := I.turned (fun b o hb e => kk b o (by simpa using hb) e) f0 f1 f3 f4 f5
    refine ⟨_, rfl, go_of (s := { s with heap := h', toks := tk }) (n := "range_iterator") st' rfl rfl (by decide) ⟨.int (lo + i), H, I1, ⟨t, ?_⟩, ⟨rfl, rfl⟩, st', fun b hb => (hf b hb).1⟩⟩
    rw [Int.mul_one]
  done := by
    intro X hP hw hK hc i pins s σ H E I hf st hg
    subst hP hw hK
    obtain ⟨f0, f1, f2, f3, f4, f5⟩ := hf it (by simp)
    exact wpAny_pyNext_range_end (I.ok.hd hc) st (by have : n ≤ i := hg; omega) fun h' eb => ⟨rfl, I.turned (t' := s.toks) (fun b o hb e => eb b o hb e) f0 f1 f3 f4 f5⟩
  self := fun _ _ _ _ _ st h => wpAny_pyIter_rangeiter st h
end L2
namespace L2
open PySem PySem.Spec PyProof.Rows
section
variable {X : Cx} {tg : Expr}
def iList (K : PySem.W.Frag) (tl : TE) : TI := fun σ H R => tl σ H fun x H1 => ∃ a, x = .ref a ∧ (∃ xs, SqL K H1 a xs) ∧ R (Itl K a) H1
theorem pi_list {l : Expr} {tl : TE} (hl : PE X l tl) : PI X tg l (iList X.K tl) := by
  intro pins s σ H R I h
  refine thn (hl pins s σ H _ I h) fun v s1 ⟨x, H1, I1, r1, q1⟩ => ?_
  obtain ⟨a, e, ⟨xs, hq⟩, q⟩ := q1
  subst e
  cases r1
  obtain ⟨its, rv, p, hz⟩ := I1.list hq
  refine wpAny_pyIter_list p.isList ?_
  refine ⟨s1.heap.objs.size, [s1.heap.objs.size], _, _, H1, rfl, I1.kept (t' := s1.toks) fun b o e => Heap.get?_push_of_some _ e, turn_list a _, ⟨_, Heap.get?_push_size _ rfl, rfl, rfl⟩, fun b hb => ?_, q⟩
  have e : b = s1.heap.objs.size := by simpa using hb
  subst e
  exact I1.fpOk (Nat.le_refl _) (I1.hok.fresh (Nat.le_refl _))
theorem range_it {pins : List (Addr × Obj)} {σ : St} {H : Hp} {s : Shared} {R : It → Hp → Prop} {E : Value → Shared → Prop} {lo hi : Int} {t u v : Tok} {tk : Nat} (I : Inv X pins σ H s) (h1 : -(2 ^ 62) ≤ lo) (h2 : lo < 2 ^ 62) (h3 : -(2 ^ 62) ≤ hi) (h4 : hi < 2 ^ 62)
    (q : R (Itr lo (hi - lo).toNat) H) : wpAny (model X.prog X.w) X.A (pyIter (.ref s.heap.objs.size)) (PIE X pins σ tg R) E { s with heap := s.heap.push { cls := .type "range", data := .fields #[.int lo t, .int hi u, .int 1 v] }, toks := tk } := by
  refine wpAny_pyIter_range (IsRange.new ..) (small_one h1 h2 h3 h4) ?_
  have I1 : Inv X pins σ H { s with heap := s.heap.push { cls := .type "range", data := .fields #[.int lo t, .int hi u, .int 1 v] }, toks := tk } := I.kept fun b o e => Heap.get?_push_of_some _ e
  refine ⟨(s.heap.push { cls := .type "range", data := .fields #[.int lo t, .int hi u, .int 1 v] }).objs.size, [(s.heap.push { cls := .type "range", data := .fields #[.int lo t, .int hi u, .int 1 v] }).objs.size], _, _, H, rfl,
    I1.kept (t' := tk) fun b o e => Heap.get?_push_of_some _ e, turn_range _ lo (hi - lo).toNat, ?_, fun b hb => ?_, q⟩
  · have e1 : lo + ((0 : Nat) : Int) * 1 = lo := by simp
    have e2 : (((hi - lo).toNat : Nat) : Int) - ((0 : Nat) : Int) = Builtin.Range.rangeSize lo hi 1 := by rw [rangeSize_one]; split <;> omega
    show IsRangeIter _ _ (lo + ((0 : Nat) : Int) * 1) ((((hi - lo).toNat : Nat) : Int) - ((0 : Nat) : Int)) 1
    rw [e1, e2]
    exact Heap.get?_push_size _ rfl
  · have e : b = (s.heap.push { cls := .type "range", data := .fields #[.int lo t, .int hi u, .int 1 v] }).objs.size := by simpa using hb
    subst e
    exact I1.fpOk (Nat.le_refl _) (I1.hok.fresh (Nat.le_refl _))
def iRng1 (ta : TA) : TI := fun σ H R => ta σ H fun vs H1 => ∃ j : Int, vs = [.int j] ∧ -(2 ^ 62) ≤ j ∧ j < 2 ^ 62 ∧ R (Itr 0 j.toNat) H1
def iRng2 (ta : TA) : TI := fun σ H R => ta σ H fun vs H1 => ∃ i j : Int, vs = [.int i, .int j] ∧ (-(2 ^ 62) ≤ i ∧ i < 2 ^ 62 ∧ -(2 ^ 62) ≤ j ∧ j < 2 ^ 62) ∧ R (Itr i (j - i).toNat) H1
theorem pi_range1 {a : Expr} {ta : TA} {p pos : Pos} (hg : Gl X "range") (hm : X.mg "range" = none) (ha : PA X [a] ta) (hs : starEach [a] X.env = [(false, eval a X.env)] := by rfl) : PI X tg (.Call (.Name "range" p) [a] [] pos) (iRng1 ta) := by
  intro pins s σ H R I h
  refine Call_ (ld_blt I hg hm boot_range (PyProof.Rows.callWith_type1 (thn (ha pos pins s σ H _ I h) fun us s1 ⟨vs, H1, I1, r1, q1⟩ => ?_) hs rfl))
  obtain ⟨j, e, q1, q2, q⟩ := q1
  subst e
  cases r1 with
  | cons r rr =>
    cases rr
    obtain ⟨t, rfl⟩ := r
    exact call_range_1 (range_it I1 (by omega) (by omega) q1 q2 (by simpa using q))
theorem pi_range2 {a b : Expr} {ta : TA} {p pos : Pos} (hg : Gl X "range") (hm : X.mg "range" = none) (ha : PA X [a, b] ta) (hs : starEach [a, b] X.env = [(false, eval a X.env), (false, eval b X.env)] := by rfl) (hs2 : starEach [b] X.env = [(false, eval b X.env)] := by rfl) :
    PI X tg (.Call (.Name "range" p) [a, b] [] pos) (iRng2 ta) := by
  intro pins s σ H R I h
  refine Call_ (ld_blt I hg hm boot_range (PyProof.Rows.callWith_type1 (thn (ha pos pins s σ H _ I h) fun us s1 ⟨vs, H1, I1, r1, q1⟩ => ?_) (by rw [hs, hs2]) (by rw [hs2]; rfl)))
  obtain ⟨i, j, e, ⟨q1, q2, q3, q4⟩, q⟩ := q1
  subst e
  cases r1 with
  | cons r rr =>
    cases rr with
    | cons r' rr =>
      cases rr
      obtain ⟨t, rfl⟩ := r
      obtain ⟨t', rfl⟩ := r'
      exact call_range_2 (range_it I1 q1 q2 q3 q4 q)
def tFor (wi : TI) (g : TG) (tb : TS) : TS := fun D σ H => wi σ H fun J H1 => ∃ W : Nat → Nat → St → Hp → Prop, (∃ m, W 0 m σ H1) ∧ ∀ i m σ H, W i m σ H →
  (J.stop i H ∧ D.nx σ H) ∨ (J.go i H ∧ ∃ N : St → Hp → Prop, (∀ σ' H', N σ' H' → ∃ m', m' < m ∧ W (i + 1) m' σ' H') ∧ ∀ x H', J.yld i H x H' → g x σ H' fun σ2 H2 => tb { D with nx := N, ct := N, bk := D.nx } σ2 H2)
def pinsAt (fp : List Addr) (h : Heap) : List (Addr × Obj) := fp.filterMap fun b => (h.get? b).map fun o => (b, o)
theorem mem_pinsAt {fp : List Addr} {h : Heap} {b : Addr} {o : Obj} (hb : b ∈ fp) (e : h.get? b = some o) : (b, o) ∈ pinsAt fp h := List.mem_filterMap.mpr ⟨b, hb, by rw [e]; rfl⟩
theorem of_pinsAt {fp : List Addr} {h : Heap} {p : Addr × Obj} (hp : p ∈ pinsAt fp h) : p.1 ∈ fp ∧ h.get? p.1 = some p.2 := by
  obtain ⟨b, hb, e⟩ := List.mem_filterMap.mp hp
  cases q : h.get? b with
  | none => rw [q] at e; cases e
  | some o =>
    rw [q] at e
    have e' : (b, o) = p := Option.some.inj e
    subst e'
    exact ⟨hb, q⟩
theorem Inv.pinned {pins : List (Addr × Obj)} {σ : St} {H : Hp} {s : Shared} {fp : List Addr} (I : Inv X pins σ H s) (hf : ∀ b ∈ fp, FpOk X pins H b) (ho : ∀ b ∈ fp, ∃ o, s.heap.get? b = some o ∧ ∀ v, o.data ≠ .cell v) : Inv X (pins ++ pinsAt fp s.heap) σ H s :=
  I.pins_of fun p hp => (List.mem_append.mp hp).elim (fun z => I.pin p (List.mem_append_right _ z)) fun z => by
    obtain ⟨hb, e⟩ := of_pinsAt z
    obtain ⟨f0, f1, f2, _⟩ := hf p.1 hb
    obtain ⟨o, e', d⟩ := ho p.1 hb
    rw [e] at e'; cases e'
    exact ⟨e, f0, f1, f2, d⟩
theorem Inv.unpinned {pins pl : List (Addr × Obj)} {σ : St} {H : Hp} {s : Shared} (I : Inv X (pins ++ pl) σ H s) : Inv X pins σ H s := I.pins_of fun p hp => I.pin p (List.mem_append_right _ (List.mem_append_left _ hp))
theorem ps_for {iter : Expr} {body : List Stmt} {wi : TI} {g : TG} {tb : TS} {pos : Pos} (hp : PassesOwn (model X.prog X.w) X.A X.env X.xe) (hc : X.calm = true) (hi : PI X tg iter wi) (hg : PG X tg g) (hb : PSs X body tb)
    (hs : ∀ x, foldedSetIterable iter X.env x = pure x := by intro _; rfl) : PS X (.For tg iter body [] pos) (tFor wi g tb) := by
  intro pins s σ H D I h
  refine wpAny_For (thn (hi pins s σ H _ I h) fun v s1 h1 => thn h1 fun itv s2 h2 => ?_) hs
  obtain ⟨it, fp, tn, J, H2, e, I2, T, st2, f2, W, ⟨m0, w0⟩, turn⟩ := h2
  subst e
  -- what stays true of the iterator's objects through the loop
  have stat : ∀ {H' : Hp}, (∀ b ∈ fp, H' b = none) → ∀ b ∈ fp, FpOk X pins H' b := fun hn b hb => ⟨hn b hb, (f2 b hb).2⟩
  refine codeAny_forLoop_any (fun n s' => ∃ i σ' H', Inv X pins σ' H' s' ∧ tn i s'.heap ∧ (∀ b ∈ fp, H' b = none) ∧ W i n σ' H') ?_ m0 ⟨0, σ, H2, I2, st2, fun b hb => (f2 b hb).1, w0⟩
  rintro n s3 ⟨i, σ3, H3, I3, st3, fr3, w3⟩
  rcases turn i n σ3 H3 w3 with ⟨stop, qn⟩ | ⟨go, N, hN, step⟩
  · refine wpAny_passesOwn hp (thn (T.done X rfl rfl rfl hc i pins s3 σ3 H3 X.xe I3 (stat fr3) st3 stop) fun r s4 ⟨hr, I4⟩ => ?_)
    subst hr
    exact wpAny_execs_nil ⟨σ3, H3, I4, qn⟩
  · refine wpAny_passesOwn hp (thn (T.item X rfl rfl rfl hc i pins s3 σ3 H3 X.xe I3 (stat fr3) st3 go) fun r s4 ⟨u, hr, h4⟩ => ?_)
    subst hr
    refine wpAny_passesOwn hp (thn h4 fun _ s5 ⟨x, H5, I5, r5, y5, st5, fr5⟩ => ?_)
    have I5' := I5.pinned (stat fr5) (T.obj _ _ st5)
    refine wpAny_passesOwn hp (thn (hg _ s5 σ3 H5 x u _ I5' r5 (step x H5 y5)) fun _ s6 ⟨σ6, H6, I6, q6⟩ => ?_)
    refine wpAny_passesOwn hp (thn (hb _ s6 σ6 H6 _ I6 q6) fun f s7 q7 => ?_)
    have again : ∀ {σ7 : St} {H7 : Hp}, Inv X (pins ++ pinsAt fp s5.heap) σ7 H7 s7 → N σ7 H7 → ∃ m, m < n ∧ ∃ i σ' H', Inv X pins σ' H' s7 ∧ tn i s7.heap ∧ (∀ b ∈ fp, H' b = none) ∧ W i m σ' H' := fun {σ7 H7} I7 n7 => by
      obtain ⟨m', hm, w7⟩ := hN σ7 H7 n7
      refine ⟨m', hm, i + 1, σ7, H7, I7.unpinned, T.keep _ _ _ st5 fun b hb o e => (I7.pin (b, o) (List.mem_append_right _ (List.mem_append_right _ (mem_pinsAt hb e)))).1, fun b hb => ?_, w7⟩
      obtain ⟨o, e, d⟩ := T.obj _ _ st5 b hb
      exact (I7.pin (b, o) (List.mem_append_right _ (List.mem_append_right _ (mem_pinsAt hb e)))).2.1
    cases f with
    | next => obtain ⟨σ7, H7, I7, n7⟩ := q7; exact again I7 n7
    | cont => obtain ⟨σ7, H7, I7, n7⟩ := q7; exact again I7 n7
    | brk => obtain ⟨σ7, H7, I7, q7⟩ := q7; exact ⟨σ7, H7, I7.unpinned, q7⟩
    | ret v => obtain ⟨x7, σ7, H7, I7, r7, q7⟩ := q7; exact ⟨x7, σ7, H7, I7.unpinned, r7, q7⟩
end
theorem for_list {K : PySem.W.Frag} {a : Addr} {xs : List V} {g : TG} {tb : TS} {D : Ends} {σ : St} {H : Hp} (Pv : Nat → St → Hp → Prop) (h0 : Pv 0 σ H) (hl : ∀ i σ H, i ≤ xs.length → Pv i σ H → SqL K H a xs)
    (hs : ∀ i x σ H, xs[i]? = some x → Pv i σ H → g x σ H fun σ2 H2 => tb { D with nx := Pv (i + 1), ct := Pv (i + 1), bk := D.nx } σ2 H2) (hd : ∀ σ H, Pv xs.length σ H → D.nx σ H) :
    ∃ W : Nat → Nat → St → Hp → Prop, (∃ m, W 0 m σ H) ∧ ∀ i m σ H, W i m σ H →
      ((Itl K a).stop i H ∧ D.nx σ H) ∨ ((Itl K a).go i H ∧ ∃ N : St → Hp → Prop, (∀ σ' H', N σ' H' → ∃ m', m' < m ∧ W (i + 1) m' σ' H') ∧ ∀ x H', (Itl K a).yld i H x H' → g x σ H' fun σ2 H2 => tb { D with nx := N, ct := N, bk := D.nx } σ2 H2) := by
  refine ⟨fun i m σ H => m = xs.length - i ∧ i ≤ xs.length ∧ Pv i σ H, ⟨xs.length, by simp, Nat.zero_le _, h0⟩, ?_⟩
  rintro i m σ H ⟨rfl, hi, p⟩
  have q := hl i σ H hi p
  by_cases hlt : i < xs.length
  · refine .inr ⟨⟨xs, xs[i], q, by simp [hlt]⟩, Pv (i + 1), fun σ' H' p' => ⟨xs.length - (i + 1), by omega, rfl, hlt, p'⟩, fun x H' y => ?_⟩
    obtain ⟨e, y⟩ := y
    subst e
    exact hs i x σ _ (y xs q) p
  · have e : i = xs.length := by omega
    subst e
    exact .inl ⟨⟨xs, q, Nat.le_refl _⟩, hd σ H p⟩
theorem for_range {lo : Int} {n : Nat} {g : TG} {tb : TS} {D : Ends} {σ : St} {H : Hp} (Pv : Nat → St → Hp → Prop) (h0 : Pv 0 σ H)
    (hs : ∀ i σ H, i < n → Pv i σ H → g (.int (lo + i)) σ H fun σ2 H2 => tb { D with nx := Pv (i + 1), ct := Pv (i + 1), bk := D.nx } σ2 H2) (hd : ∀ σ H, Pv n σ H → D.nx σ H) :
    ∃ W : Nat → Nat → St → Hp → Prop, (∃ m, W 0 m σ H) ∧ ∀ i m σ H, W i m σ H →
      ((Itr lo n).stop i H ∧ D.nx σ H) ∨ ((Itr lo n).go i H ∧ ∃ N : St → Hp → Prop, (∀ σ' H', N σ' H' → ∃ m', m' < m ∧ W (i + 1) m' σ' H') ∧ ∀ x H', (Itr lo n).yld i H x H' → g x σ H' fun σ2 H2 => tb { D with nx := N, ct := N, bk := D.nx } σ2 H2) := by
  refine ⟨fun i m σ H => m = n - i ∧ i ≤ n ∧ Pv i σ H, ⟨n, by simp, Nat.zero_le _, h0⟩, ?_⟩
  rintro i m σ H ⟨rfl, hi, p⟩
  by_cases hlt : i < n
  · refine .inr ⟨hlt, Pv (i + 1), fun σ' H' p' => ⟨n - (i + 1), by omega, rfl, hlt, p'⟩, fun x H' y => ?_⟩
    obtain ⟨e, y⟩ := y
    subst e y
    exact hs i σ _ hlt p
  · have e : i = n := by omega
    subst e
    exact .inl ⟨Nat.le_refl _, hd σ H p⟩
end L2
namespace L2
open PySem PySem.Spec PyProof.Rows
abbrev R2 := V → V → Hp → VK → Prop
def OpR (X : Cx) (f : Value → Value → Sem Value) (r : R2) : Prop :=
  ∀ (pins : List (Addr × Obj)) (s : Shared) (σ : St) (H : Hp) (x y : V) (v u : Value) (Q : VK), Inv X pins σ H s → RelV x v → RelV y u → r x y H Q →
    wpAny (model X.prog X.w) X.A (f v u) (EP X pins σ Q) X.xe s
def UnR (X : Cx) (f : Value → Sem Value) (r : V → Hp → VK → Prop) : Prop :=
  ∀ (pins : List (Addr × Obj)) (s : Shared) (σ : St) (H : Hp) (x : V) (v : Value) (Q : VK), Inv X pins σ H s → RelV x v → r x H Q →
    wpAny (model X.prog X.w) X.A (f v) (EP X pins σ Q) X.xe s
def CallR (X : Cx) (f : Value) (r : List V → Hp → VK → Prop) : Prop :=
  ∀ (pins : List (Addr × Obj)) (s : Shared) (σ : St) (H : Hp) (xs : List V) (us : List Value) (Q : VK), Inv X pins σ H s → Vals xs us → r xs H Q →
    wpAny (model X.prog X.w) X.A (call f us) (EP X pins σ Q) X.xe s
def tOp (r : R2) (ta tb : TE) : TE := fun σ H Q => ta σ H fun x H1 => tb σ H1 fun y H2 => r x y H2 Q
def tUn (r : V → Hp → VK → Prop) (ta : TE) : TE := fun σ H Q => ta σ H fun x H1 => r x H1 Q
def rI (C : Int → Int → Prop) (g : Int → Int → V) : R2 := fun x y H Q => ∃ i j, x = .int i ∧ y = .int j ∧ C i j ∧ Q (g i j) H
def rI0 (g : Int → Int → V) : R2 := fun x y H Q => ∃ i j, x = .int i ∧ y = .int j ∧ Q (g i j) H
def rU (g : Int → V) : V → Hp → VK → Prop := fun x H Q => ∃ i, x = .int i ∧ Q (g i) H
section
variable {X : Cx} {a b c : Expr} {ta tb tc : TE} {pos : Pos}
theorem binT (ha : PE X a ta) (hb : PE X b tb) {pins : List (Addr × Obj)} {s : Shared} {σ : St} {H : Hp} {R : V → V → Hp → Prop} (I : Inv X pins σ H s)
    (h : ta σ H fun x H1 => tb σ H1 fun y H2 => R x y H2) {Q : Value → Shared → Prop} {f : Value → Value → Sem Value}
    (hf : ∀ v u s2 x y H2, Inv X pins σ H2 s2 → RelV x v → RelV y u → R x y H2 → wpAny (model X.prog X.w) X.A (f v u) Q X.xe s2) :
    wpAny (model X.prog X.w) X.A (eval a X.env) (fun v s₁ => wpAny (model X.prog X.w) X.A (eval b X.env) (fun u s₂ => wpAny (model X.prog X.w) X.A (f v u) Q X.xe s₂) X.xe s₁) X.xe s := by
  refine thn (ha pins s σ H _ I h) fun v s1 ⟨x, H1, I1, r1, q1⟩ => ?_
  refine thn (hb pins s1 σ H1 _ I1 q1) fun u s2 ⟨y, H2, I2, r2, q2⟩ => ?_
  exact hf v u s2 x y H2 I2 r1 r2 q2
theorem pe_op {op : Operator} {r : R2} (ho : OpR X (binaryOp op) r) (ha : PE X a ta) (hb : PE X b tb) : PE X (.BinOp a op b pos) (tOp r ta tb) := by
  intro pins s σ H Q I h
  exact wpAny_BinOp (binT ha hb I h fun v u s2 x y H2 I2 rx ry q => ho pins s2 σ H2 x y v u Q I2 rx ry q)
theorem pe_un {op : UnaryOp} {r : V → Hp → VK → Prop} (ho : UnR X (unaryOp op) r) (ha : PE X a ta) : PE X (.UnaryOp op a pos) (tUn r ta) := by
  intro pins s σ H Q I h
  exact UnaryOp_ (thn (ha pins s σ H _ I h) fun v s1 ⟨x, H1, I1, r1, q1⟩ => ho pins s1 σ H1 x v Q I1 r1 q1)
theorem opI {f : Value → Value → Sem Value} {C : Int → Int → Prop} {g : Int → Int → Int}
    (rule : ∀ (i j : Int) (t u : Tok) (s : Shared) (Q : Value → Shared → Prop) (E : Value → Shared → Prop), C i j → Q (.int (g i j) s.toks) { s with toks := s.toks + 1 } → wpAny (model X.prog X.w) X.A (f (.int i t) (.int j u)) Q E s) :
    OpR X f (rI C fun i j => .int (g i j)) := by
  intro pins s σ H x y v u Q I rx ry h
  obtain ⟨i, j, rfl, rfl, hc, q⟩ := h
  obtain ⟨t, rfl⟩ := rx
  obtain ⟨t', rfl⟩ := ry
  exact rule i j t t' s _ _ hc ⟨.int (g i j), H, I.tok _, ⟨_, rfl⟩, q⟩
theorem opI0 {f : Value → Value → Sem Value} {g : Int → Int → Int}
    (rule : ∀ (i j : Int) (t u : Tok) (s : Shared) (Q : Value → Shared → Prop) (E : Value → Shared → Prop), Q (.int (g i j) s.toks) { s with toks := s.toks + 1 } → wpAny (model X.prog X.w) X.A (f (.int i t) (.int j u)) Q E s) :
    OpR X f (rI0 fun i j => .int (g i j)) := by
  intro pins s σ H x y v u Q I rx ry h
  obtain ⟨i, j, rfl, rfl, q⟩ := h
  obtain ⟨t, rfl⟩ := rx
  obtain ⟨t', rfl⟩ := ry
  exact rule i j t t' s _ _ ⟨.int (g i j), H, I.tok _, ⟨_, rfl⟩, q⟩
theorem opB0 {f : Value → Value → Sem Value} {g : Int → Int → Bool}
    (rule : ∀ (i j : Int) (t u : Tok) (s : Shared) (Q : Value → Shared → Prop) (E : Value → Shared → Prop), Q (.bool (g i j)) s → wpAny (model X.prog X.w) X.A (f (.int i t) (.int j u)) Q E s) :
    OpR X f (rI0 fun i j => .bl (g i j)) := by
  intro pins s σ H x y v u Q I rx ry h
  obtain ⟨i, j, rfl, rfl, q⟩ := h
  obtain ⟨t, rfl⟩ := rx
  obtain ⟨t', rfl⟩ := ry
  exact rule i j t t' s _ _ ⟨.bl (g i j), H, I, rfl, q⟩
def CPow (i j : Int) : Prop := 0 ≤ j ∧ j ≤ 1000000 ∧ i.natAbs < 2 ^ 64
theorem op_add : OpR X (binaryOp .Add) (rI0 fun i j => .int (i + j)) := opI0 fun _ _ _ _ _ _ _ q => add_int q
theorem op_sub : OpR X (binaryOp .Sub) (rI0 fun i j => .int (i - j)) := opI0 fun _ _ _ _ _ _ _ q => sub_int q
theorem op_shl : OpR X (binaryOp .LShift) (rI CPow fun i j => .int (i * 2 ^ j.toNat)) := opI fun _ _ _ _ _ _ _ hc q => lshift_int_small hc.1 hc.2.1 hc.2.2 q
theorem unI {f : Value → Sem Value} {g : Int → Int}
    (rule : ∀ (i : Int) (t : Tok) (s : Shared) (Q : Value → Shared → Prop) (E : Value → Shared → Prop), Q (.int (g i) s.toks) { s with toks := s.toks + 1 } → wpAny (model X.prog X.w) X.A (f (.int i t)) Q E s) :
    UnR X f (rU fun i => .int (g i)) := by
  intro pins s σ H x v Q I rx h
  obtain ⟨i, rfl, q⟩ := h
  obtain ⟨t, rfl⟩ := rx
  exact rule i t s _ _ ⟨.int (g i), H, I.tok _, ⟨_, rfl⟩, q⟩
theorem un_neg : UnR X (unaryOp .USub) (rU fun i => .int (-i)) := unI fun _ _ _ _ _ q => neg_int q
end
def scal : V → V → Bool
  | .non, .non => true | .non, .int _ => true | .int _, .non => true | .non, .bl _ => true | .bl _, .non => true | .non, .str _ => true | .str _, .non => true
  | .int _, .int _ => true | .bl _, .bl _ => true | .str _, .str _ => true | .byt _, .byt _ => true
  | .int _, .str _ => true | .str _, .int _ => true | .bl _, .str _ => true | .str _, .bl _ => true
  | _, _ => false
def rEq : R2 := fun x y H Q => scal x y = true ∧ Q (.bl (decide (x = y))) H
def rNe : R2 := fun x y H Q => scal x y = true ∧ Q (.bl (!decide (x = y))) H
theorem dec_int {i j : Int} : decide (V.int i = V.int j) = (i == j) := by
  rw [Bool.eq_iff_iff]
  simp
theorem dec_bl {i j : Bool} : decide (V.bl i = V.bl j) = (i == j) := by
  rw [Bool.eq_iff_iff]
  simp
theorem dec_str {i j : Str} : decide (V.str i = V.str j) = (i == j) := by
  rw [Bool.eq_iff_iff]
  simp
theorem dec_byt {i j : Array UInt8} : decide (V.byt i = V.byt j) = (i.toList == j.toList) := by
  rw [Bool.eq_iff_iff]
  cases i
  cases j
  simp
section
variable {X : Cx} {a b c : Expr} {ta tb tc : TE} {pos : Pos}
theorem fin_bl {pins : List (Addr × Obj)} {σ : St} {H : Hp} {s : Shared} {Q : VK} {k k' : Bool} (I : Inv X pins σ H s) (q : Q (.bl k) H) (e : k = k') : EP X pins σ Q (.bool k') s := by
  subst e
  exact ⟨.bl k, H, I, rfl, q⟩
theorem op_eq : OpR X (compareOp .Eq) rEq := by
  intro pins s σ H x y v u Q I rx ry h
  obtain ⟨hs, q⟩ := h
  cases x with
  | non =>
    cases rx
    cases y with
    | non => cases ry; exact PySem.EqNone.eq_none_none (fin_bl I q (by simp))
    | bl j => cases ry; exact PySem.EqNone.eq_none_bool (fin_bl I q (by simp))
    | int j => obtain ⟨t', rfl⟩ := ry; exact PySem.EqNone.eq_none_int (fin_bl I q (by simp))
    | str j => obtain ⟨t', rfl⟩ := ry; exact PySem.EqNone.eq_none_str (fin_bl I q (by simp))
    | _ => exact absurd (show false = true from hs) Bool.false_ne_true
  | bl i =>
    cases rx
    cases y with
    | non => cases ry; exact PySem.EqNone.eq_bool_none (fin_bl I q (by simp))
    | bl j => cases ry; exact eq_bool (fin_bl I q dec_bl)
    | str j => obtain ⟨t', rfl⟩ := ry; exact PySem.EqMixed.eq_bool_str (fin_bl I q (by simp))
    | _ => exact absurd (show false = true from hs) Bool.false_ne_true
  | int i =>
    obtain ⟨t, rfl⟩ := rx
    cases y with
    | non => cases ry; exact PySem.EqNone.eq_int_none (fin_bl I q (by simp))
    | int j => obtain ⟨t', rfl⟩ := ry; exact eq_int (fin_bl I q dec_int)
    | str j => obtain ⟨t', rfl⟩ := ry; exact PySem.EqMixed.eq_int_str (fin_bl I q (by simp))
    | _ => exact absurd (show false = true from hs) Bool.false_ne_true
  | str i =>
    obtain ⟨t, rfl⟩ := rx
    cases y with
    | non => cases ry; exact PySem.EqNone.eq_str_none (fin_bl I q (by simp))
    | bl j => cases ry; exact PySem.EqMixed.eq_str_bool (fin_bl I q (by simp))
    | int j => obtain ⟨t', rfl⟩ := ry; exact PySem.EqMixed.eq_str_int (fin_bl I q (by simp))
    | str j => obtain ⟨t', rfl⟩ := ry; exact eq_str (fin_bl I q dec_str)
    | _ => exact absurd (show false = true from hs) Bool.false_ne_true
  | byt i =>
    obtain ⟨t, rfl⟩ := rx
    cases y with
    | byt j => obtain ⟨t', rfl⟩ := ry; exact PySem.W.eq_bytes (fin_bl I q dec_byt)
    | _ => exact absurd (show false = true from hs) Bool.false_ne_true
  | _ => cases y <;> exact absurd (show false = true from hs) Bool.false_ne_true
theorem op_ne : OpR X (compareOp .NotEq) rNe := by
  intro pins s σ H x y v u Q I rx ry h
  obtain ⟨hs, q⟩ := h
  cases x with
  | non =>
    cases rx
    cases y with
    | non => cases ry; exact PySem.EqNone.ne_none_none (fin_bl I q (by simp))
    | bl j => cases ry; exact PySem.EqNone.ne_none_bool (fin_bl I q (by simp))
    | int j => obtain ⟨t', rfl⟩ := ry; exact PySem.EqNone.ne_none_int (fin_bl I q (by simp))
    | str j => obtain ⟨t', rfl⟩ := ry; exact PySem.EqNone.ne_none_str (fin_bl I q (by simp))
    | _ => exact absurd (show false = true from hs) Bool.false_ne_true
  | bl i =>
    cases rx
    cases y with
    | non => cases ry; exact PySem.EqNone.ne_bool_none (fin_bl I q (by simp))
    | bl j => cases ry; exact ne_bool (fin_bl I q (congrArg not dec_bl))
    | str j => obtain ⟨t', rfl⟩ := ry; exact PySem.EqMixed.ne_bool_str (fin_bl I q (by simp))
    | _ => exact absurd (show false = true from hs) Bool.false_ne_true
  | int i =>
    obtain ⟨t, rfl⟩ := rx
    cases y with
    | non => cases ry; exact PySem.EqNone.ne_int_none (fin_bl I q (by simp))
    | int j => obtain ⟨t', rfl⟩ := ry; exact ne_int (fin_bl I q (congrArg not dec_int))
    | str j => obtain ⟨t', rfl⟩ := ry; exact PySem.EqMixed.ne_int_str (fin_bl I q (by simp))
    | _ => exact absurd (show false = true from hs) Bool.false_ne_true
  | str i =>
    obtain ⟨t, rfl⟩ := rx
    cases y with
    | non => cases ry; exact PySem.EqNone.ne_str_none (fin_bl I q (by simp))
    | bl j => cases ry; exact PySem.EqMixed.ne_str_bool (fin_bl I q (by simp))
    | int j => obtain ⟨t', rfl⟩ := ry; exact PySem.EqMixed.ne_str_int (fin_bl I q (by simp))
    | str j => obtain ⟨t', rfl⟩ := ry; exact ne_str (fin_bl I q (congrArg not dec_str))
    | _ => exact absurd (show false = true from hs) Bool.false_ne_true
  | byt i =>
    obtain ⟨t, rfl⟩ := rx
    cases y with
    | byt j => obtain ⟨t', rfl⟩ := ry; exact PySem.W.ne_bytes (fin_bl I q (congrArg not dec_byt))
    | _ => exact absurd (show false = true from hs) Bool.false_ne_true
  | _ => cases y <;> exact absurd (show false = true from hs) Bool.false_ne_true
theorem op_lt : OpR X (compareOp .Lt) (rI0 fun i j => .bl (decide (i < j))) := opB0 fun _ _ _ _ _ _ _ q => lt_int q
theorem op_le : OpR X (compareOp .LtE) (rI0 fun i j => .bl (decide (i ≤ j))) := opB0 fun _ _ _ _ _ _ _ q => le_int q
theorem op_gt : OpR X (compareOp .Gt) (rI0 fun i j => .bl (decide (j < i))) := opB0 fun _ _ _ _ _ _ _ q => gt_int q
theorem op_ge : OpR X (compareOp .GtE) (rI0 fun i j => .bl (decide (j ≤ i))) := opB0 fun _ _ _ _ _ _ _ q => ge_int q
theorem nomark (b : Expr) {op : CmpOp} (h : op ≠ .In := by decide) (h2 : op ≠ .NotIn := by decide) : behindInMarks op b = false := by
  have e1 : (op == CmpOp.In) = false := by cases op <;> first | rfl | exact absurd rfl h
  have e2 : (op == CmpOp.NotIn) = false := by cases op <;> first | rfl | exact absurd rfl h2
  cases b <;> simp [behindInMarks, e1, e2]
theorem pe_cmpR {op : CmpOp} {r : R2} (ho : OpR X (compareOp op) r) (ha : PE X a ta) (hb : PE X b tb) (hm : behindInMarks op b = false) : PE X (.Compare a [op] [b] pos) (tOp r ta tb) := by
  intro pins s σ H Q I h
  exact wpAny_Compare1 (binT ha hb I h fun v u s2 x y H2 I2 rx ry q => ho pins s2 σ H2 x y v u Q I2 rx ry q) hm
def tTest (t : TE) : TT := fun σ H Q => t σ H fun x H' => ∃ k, x = .bl k ∧ Q k H'
theorem pt_cmpR {op : CmpOp} {r : R2} (ho : OpR X (compareOp op) r) (ha : PE X a ta) (hb : PE X b tb) (hm : behindInMarks op b = false) : PT X (.Compare a [op] [b] pos) (tTest (tOp r ta tb)) := by
  intro pins s σ H Q I h
  refine wpAny_isTrue_Compare1 (thn (ha pins s σ H _ I h) fun v s1 ⟨x, H1, I1, r1, q1⟩ => thn (hb pins s1 σ H1 _ I1 q1) fun u s2 ⟨y, H2, I2, r2, q2⟩ =>
    thn (ho pins s2 σ H2 x y v u _ I2 r1 r2 q2) fun c s3 ⟨z, H3, I3, r3, k, e, q3⟩ => ?_) hm
  subst e
  cases r3
  exact wpAny_truthy_bool ⟨H3, I3, q3⟩
def tChain (r r' : R2) (ta tb tc : TE) : TE := fun σ H Q => ta σ H fun x H1 => tb σ H1 fun y H2 => r x y H2 fun z H3 => ∃ k, z = .bl k ∧
  (if k = true then tc σ H3 fun w' H4 => r' y w' H4 Q else Q (.bl false) H3)
theorem pe_chain {op op' : CmpOp} {r r' : R2} (ho : OpR X (compareOp op) r) (ho' : OpR X (compareOp op') r') (ha : PE X a ta) (hb : PE X b tb) (hc : PE X c tc)
    (hm : lastMarks [op, op'] [b, c] = false := by with_unfolding_all rfl) : PE X (.Compare a [op, op'] [b, c] pos) (tChain r r' ta tb tc) := by
  intro pins s σ H Q I h
  refine Compare_chain (thn (ha pins s σ H _ I h) fun v s1 ⟨x, H1, I1, r1, q1⟩ => chain_link (thn (hb pins s1 σ H1 _ I1 q1) fun u s2 ⟨y, H2, I2, r2, q2⟩ =>
    thn (ho pins s2 σ H2 x y v u _ I2 r1 r2 q2) fun d s3 ⟨z, H3, I3, r3, k, e, q3⟩ => ?_)) hm
  subst e
  cases r3
  refine wpAny_truthy_bool ?_
  cases k with
  | false => exact ite_ff ⟨.bl false, H3, I3, rfl, q3⟩
  | true => exact ite_tt (chain_last (thn (hc pins s3 σ H3 _ I3 q3) fun w' s4 ⟨z', H4, I4, r4, q4⟩ => ho' pins s4 σ H4 y z' u w' Q I4 r2 r4 q4))
theorem line63 : (sizeLine : Nat) < 2 ^ 63 := by rw [sizeLine_eq]; decide
theorem vals1 {x : V} {us : List Value} (r : Vals [x] us) : ∃ u, us = [u] ∧ RelV x u := by
  cases r with
  | cons r1 r2 => cases r2; exact ⟨_, rfl, r1⟩
theorem vals2 {x y : V} {us : List Value} (r : Vals [x, y] us) : ∃ u w', us = [u, w'] ∧ RelV x u ∧ RelV y w' := by
  cases r with
  | cons r1 r2 =>
    cases r2 with
    | cons r3 r4 => cases r4; exact ⟨_, _, rfl, r1, r3⟩
theorem call_max2 (hc : X.calm = true) : CallR X (.builtin "max") (fun xs H Q => ∃ i j, xs = [.int i, .int j] ∧ Q (.int (if j > i then j else i)) H) := by
  intro pins s σ H xs us Q I r h
  obtain ⟨i, j, rfl, q⟩ := h
  obtain ⟨u, w', rfl, ⟨t, rfl⟩, ⟨t', rfl⟩⟩ := vals2 r
  refine max_two_ints (I.ok.hd hc) fun h' tk k => ⟨_, H, I.kept k, ?_, q⟩
  by_cases hj : j > i
  · rw [if_pos hj, if_pos hj]; exact ⟨_, rfl⟩
  · rw [if_neg hj, if_neg hj]; exact ⟨_, rfl⟩
end
end L2
namespace L2
open PySem PySem.Spec PyProof.Rows
structure ObjM (h : Heap) (x dx C : Addr) (mA : Str → Option Value) : Prop where
  obj : h.get? x = some (PySem.W.instObj C dx)
  ns : h.Ns1 dx mA
  ne : dx ≠ x
theorem lookIn_ns {h : Heap} {dx : Addr} {mA : Str → Option Value} (n : h.Ns1 dx mA) : ∃ od, h.get? dx = some od ∧ ∀ name, PySem.W.lookIn name od = some (mA name) := by
  obtain ⟨o, es, ep, ho, hd, hk, _, hm⟩ := n
  refine ⟨o, ho, fun name => ?_⟩
  have e := hm name
  unfold nsFind findBy at e
  rw [← Array.find?_toList] at e
  unfold PySem.W.lookIn
  rw [hd]
  dsimp only
  split
  · rename_i y q
    rw [q] at e
    exact congrArg some e
  · rename_i q
    rw [q] at e
    have a : es.toList.any (·.refKey) = false := by
      rw [List.any_eq_false]
      intro y hy
      obtain ⟨z, t, hkey⟩ := hk y (Array.mem_toList_iff.mp hy)
      simp [DictEntry.refKey, hkey]
    have a' : ¬ es.toList.any (·.refKey) = true := by rw [a]; exact Bool.false_ne_true
    rw [if_neg a']
    exact congrArg some e
theorem ObjM.look {h : Heap} {x dx C : Addr} {mA : Str → Option Value} (I : ObjM h x dx C mA) : ∃ od, PySem.W.InstAt h x (PySem.W.instObj C dx) C (some od) ∧ ∀ name, PySem.W.lookIn name od = some (mA name) :=
  let ⟨od, ho, hl⟩ := lookIn_ns I.ns
  ⟨od, ⟨I.obj, rfl, rfl, ho⟩, hl⟩
section
variable {prog : Program} {w : World} {A : Around} {E : Value → Shared → Prop} {s : Shared} {K : PySem.W.Frag} {x dx C f : Addr} {mA : Str → Option Value} {name : Str} {v : Value}
theorem get_map {expr : Bool} {Q : Value → Shared → Prop} (X : K.In s.heap) (I : ObjM s.heap x dx C mA) (hg : PySem.W.plainGet K C name = true) (hh : PySem.W.hasDictIn K C = true)
    (ha : PySem.W.findIn K (.ref C) name = some none) (hv : mA name = some v) (hv' : PySem.W.handedIn v = true) (h : Q v { s with toks := s.toks + 1 }) :
    wpAny (model prog w) A (getAttr (.ref x) name expr) Q E s := by
  obtain ⟨od, J, hl⟩ := I.look
  exact PySem.W.get_value X J (PySem.W.plainGet_of hg).1 (PySem.W.findObj_own hh ha rfl (by rw [hl, hv])) hv' h
theorem get_meth {pl : Sem Bool} {Q : Value × List Value → Shared → Prop} (X : K.In s.heap) (I : ObjM s.heap x dx C mA) (hg : PySem.W.plainGet K C name = true)
    (hf : PySem.W.findIn K (.ref C) name = some (some (.ref f))) (ht : PySem.W.isFn K (.ref f) = true) (hv : mA name = none) (h : Q (.ref f, [.ref x]) s) :
    wpAny (model prog w) A (getMethod (.ref x) name pl) Q E s := by
  obtain ⟨od, J, hl⟩ := I.look
  exact PySem.W.method_fn X J (PySem.W.plainGet_of hg).1 (PySem.W.plainGet_of hg).2 hf (beq_iff_eq.mp ht) (by show (PySem.W.lookIn name od).map (·.isSome) = some false; rw [hl, hv]; rfl) h
theorem set_map {ns : List Str} {Q : Unit → Shared → Prop} (X : K.In s.heap) (I : ObjM s.heap x dx C mA)
    (hs : PySem.W.findIn K (.ref C) "__setattr__" = some (some (.builtin "object.__setattr__"))) (hp : PySem.W.plainOver K C = true) (ht : PySem.W.takerIn K C name = some none) (hh : PySem.W.hasDictIn K C = true)
    (hw : PySem.Within mA ns) (hsz : ns.length ≤ sizeLine)
    (h : ∀ h', ObjM h' x dx C (fun y => if y = name then some v else mA y) → Heap.SameBut dx s.heap h' → Q () { s with heap := h', toks := s.toks + 2 }) :
    wpAny (model prog w) A (setAttr (.ref x) name v) Q E s := by
  obtain ⟨od, J, hl⟩ := I.look
  refine PySem.W.set_plain X J hs (PySem.W.osa_open (s := { s with toks := s.toks + 1 }) (r := none) X J hp ht fun b => ?_)
  obtain ⟨cd, hc, hd'⟩ := PySem.W.any_some hh
  have hx : s.heap.get? x = some ⟨.ref C, some dx, .plain, #[]⟩ := I.obj
  refine wpAny_bind (wpAny_pure (wpAny_bind (wpAny_bind (wpAny_loadPart hx (wpAny_bind (PySem.W.Looks.here (s := { s with toks := s.toks + 1 }) (PySem.W.looks_clsIn X hc) ?_))))))
  rw [hd']
  refine wpAny_pure (a := some dx) (wpAny_bind (wpAny_pure (wpAny_bind ?_)))
  refine wpAny_nsSet1 (s := { s with toks := s.toks + 1 }) I.ns fun h' hn2 hs2 => ?_
  obtain ⟨oD, esD, epD, hoD, hdD, hcD⟩ := hn2.count (PySem.Within.cons name v hw)
  refine wpAny_bind (wpAny_lookBehind hoD (by rw [hdD]; exact pastItsLine_dict (Nat.le_trans hcD (by rw [List.length_cons]; omega))) ?_)
  exact wpAny_pure (h _ ⟨(hs2.2 _ (Ne.symm I.ne)).trans I.obj, hn2, I.ne⟩ hs2)
theorem make_map {R : Result → Shared → Prop} {vs : List Value} {kw : List (Str × Value)} (X : K.In s.heap) (hm : PySem.W.makesIn K C = true)
    (hi : PySem.W.findIn K (.ref C) "__init__" = some (some (.ref f))) (hf : PySem.W.typeIn K (.ref f) = some (.type "function"))
    (h : codeAny (model prog w) (A.under (.builtin "type.__call__" ⟨.ref C :: vs, kw⟩)) (.call (.ref f) ⟨.ref (s.heap.objs.size + 1) :: vs, kw⟩) (PySem.W.InitBack (s.heap.objs.size + 1) R)
      { s with heap := (s.heap.push PySem.W.emptyDict).push (PySem.W.instObj C s.heap.objs.size) }) :
    codeAny (model prog w) A (.call (.ref C) ⟨vs, kw⟩) R s := by
  obtain ⟨hh, g, d, t, os⟩ := s
  exact PySem.W.make_core (PySem.W.makes_of X hm) (PySem.W.looks_findIn X hi) (fun self => PySem.W.bind_fn X self hf) (.inl rfl) h
end
def putF (f : Str) (v : V) : List (Str × V) → List (Str × V)
  | [] => [(f, v)]
  | (g, x) :: r => if g = f then (g, v) :: r else (g, x) :: putF f v r
theorem lookup_putF (f g : Str) (v : V) : ∀ fs : List (Str × V), (putF f v fs).lookup g = if g = f then some v else fs.lookup g
  | [] => by
    show List.lookup g [(f, v)] = _
    by_cases h : g = f
    · have hb : (g == f) = true := beq_iff_eq.mpr h
      simp only [List.lookup, hb, if_pos h]
    · have hb : (g == f) = false := beq_eq_false_iff_ne.mpr h
      simp only [List.lookup, hb, if_neg h]
  | (k, x) :: r => by
    have ih := lookup_putF f g v r
    rw [show putF f v ((k, x) :: r) = (if k = f then (k, v) :: r else (k, x) :: putF f v r) from rfl]
    by_cases hk : k = f
    · rw [if_pos hk]
      by_cases h : g = k
      · have hb : (g == k) = true := beq_iff_eq.mpr h
        simp only [List.lookup, hb, if_pos (h.trans hk)]
      · have hb : (g == k) = false := beq_eq_false_iff_ne.mpr h
        simp only [List.lookup, hb, if_neg (fun e : g = f => h (e.trans hk.symm))]
    · rw [if_neg hk]
      by_cases h : g = k
      · have hb : (g == k) = true := beq_iff_eq.mpr h
        simp only [List.lookup, hb, if_neg (fun e : g = f => hk (h.symm.trans e))]
      · have hb : (g == k) = false := beq_eq_false_iff_ne.mpr h
        simp only [List.lookup, hb]
        exact ih
theorem keys_putF (f : Str) (v : V) : ∀ fs : List (Str × V), f ∈ (putF f v fs).map (·.1) ∧ ∀ g, g ∈ fs.map (·.1) → g ∈ (putF f v fs).map (·.1)
  | [] => ⟨by simp [putF], fun g h => by simp at h⟩
  | (k, x) :: r => by
    obtain ⟨i1, i2⟩ := keys_putF f v r
    rw [show putF f v ((k, x) :: r) = (if k = f then (k, v) :: r else (k, x) :: putF f v r) from rfl]
    by_cases hk : k = f
    · rw [if_pos hk]
      subst hk
      exact ⟨by simp, fun g h => by simpa using h⟩
    · rw [if_neg hk]
      refine ⟨?_, fun g h => ?_⟩
      · rw [List.map_cons]
        exact List.mem_cons_of_mem _ i1
      · rw [List.map_cons] at h ⊢
        rcases List.mem_cons.mp h with e | e
        · exact List.mem_cons.mpr (.inl e)
        · exact List.mem_cons_of_mem _ (i2 g e)
theorem length_putF (f : Str) (v : V) : ∀ fs : List (Str × V), (putF f v fs).length ≤ fs.length + 1
  | [] => by simp [putF]
  | (k, x) :: r => by
    have ih := length_putF f v r
    rw [show putF f v ((k, x) :: r) = (if k = f then (k, v) :: r else (k, x) :: putF f v r) from rfl]
    by_cases hk : k = f
    · rw [if_pos hk, List.length_cons, List.length_cons]; omega
    · rw [if_neg hk, List.length_cons, List.length_cons]; omega
theorem RelO.some_of {v : V} {o : Option Value} (r : RelO (some v) o) : ∃ u, o = some u ∧ RelV v u := by
  cases o with
  | none => exact (show False from r).elim
  | some u => exact ⟨u, rfl, r⟩
theorem RelO.none_of {o : Option Value} (r : RelO none o) : o = none := by
  cases o with
  | none => rfl
  | some u => exact (show False from r).elim
theorem handed_of {v : V} {u : Value} (r : RelV v u) : PySem.W.handedIn u = true := by
  cases v with
  | non => cases (show u = Value.none from r); rfl
  | bl b => cases (show u = Value.bool b from r); rfl
  | int i => obtain ⟨t, e⟩ := (show ∃ t, u = Value.int i t from r); cases e; rfl
  | str x => obtain ⟨t, e⟩ := (show ∃ t, u = Value.str x t from r); cases e; rfl
  | byt b => obtain ⟨t, e⟩ := (show ∃ t, u = Value.bytes b t from r); cases e; rfl
  | flt b => obtain ⟨t, e⟩ := (show ∃ t, u = Value.float b t from r); cases e; rfl
  | ref a => cases (show u = Value.ref a from r); rfl
  | ty n => cases (show u = Value.type n from r); rfl
section
variable {P : Program} {w : World} {H H' : Hp} {h h' : Heap} {a C dx : Addr} {fs fs' : List (Str × V)}
theorem ins_get (hok : HOk P w H h) (e : H a = some (.ins C dx fs)) : ∃ mA, ObjM h a dx C mA ∧ (∀ f, RelO (fs.lookup f) (mA f)) ∧ PySem.Within mA (fs.map (·.1)) ∧ fs.length ≤ 1000 ∧ H dx = some (.own a) := by
  obtain ⟨d, z, ne, ob, mA, n, r, q⟩ := (show ObjOk P w H h a (.ins C dx fs) from hok a _ e)
  exact ⟨mA, ⟨ob, n, ne⟩, r, q, z, d⟩
end
structure Cls (K : PySem.W.Frag) (C : Addr) : Prop where
  pg : PySem.W.plainGet K C Str.empty = true
  hd : PySem.W.hasDictIn K C = true
  po : PySem.W.plainOver K C = true
  sa : PySem.W.findIn K (.ref C) "__setattr__" = some (some (.builtin "object.__setattr__"))
theorem Cls.get {K : PySem.W.Frag} {C : Addr} (c : Cls K C) (f : Str) : PySem.W.plainGet K C f = true := c.pg
def NoAttr (K : PySem.W.Frag) (C : Addr) (f : Str) : Prop := PySem.W.findIn K (.ref C) f = some none
theorem NoAttr.taker {K : PySem.W.Frag} {C : Addr} {f : Str} (n : NoAttr K C f) : PySem.W.takerIn K C f = some none := by
  unfold PySem.W.takerIn
  rw [show PySem.W.findIn K (.ref C) f = some none from n]
  rfl
structure Meth (K : PySem.W.Frag) (C : Addr) (m : Str) (f : Addr) : Prop where
  at_ : PySem.W.findIn K (.ref C) m = some (some (.ref f))
  fn : PySem.W.isFn K (.ref f) = true
  kp : PySem.W.keepIn K (.ref f) = true
section
variable {X : Cx} {pins : List (Addr × Obj)} {σ : St} {H : Hp} {s : Shared} {a C dx : Addr} {fs : List (Str × V)} {f : Str} {v : V} {A : Around} {E : Value → Shared → Prop}
theorem getattr_ok {b : Bool} {Q : Value → Shared → Prop} (I : Inv X pins σ H s) (e : H a = some (.ins C dx fs)) (c : Cls X.K C) (n : NoAttr X.K C f) (l : fs.lookup f = some v)
    (h : ∀ u s', Inv X pins σ H s' → RelV v u → Q u s') : wpAny (model X.prog X.w) A (getAttr (.ref a) f b) Q E s := by
  obtain ⟨mA, O, r, _, _, _⟩ := ins_get I.hok e
  obtain ⟨u, hu, ru⟩ := RelO.some_of (v := v) (o := mA f) (by rw [← l]; exact r f)
  exact get_map I.kIn O (c.get f) c.hd n hu (handed_of ru) (h u _ (I.tok _) ru)
theorem getmeth_ok {m : Str} {g : Addr} {pl : Sem Bool} {Q : Value × List Value → Shared → Prop} (I : Inv X pins σ H s) (e : H a = some (.ins C dx fs)) (c : Cls X.K C) (k : Meth X.K C m g) (l : fs.lookup m = none)
    (h : Q (.ref g, [.ref a]) s) : wpAny (model X.prog X.w) A (getMethod (.ref a) m pl) Q E s := by
  obtain ⟨mA, O, r, _, _, _⟩ := ins_get I.hok e
  have hn : mA m = none := RelO.none_of (by rw [← l]; exact r m)
  exact get_meth I.kIn O (c.get m) k.at_ k.fn hn h
theorem setattr_ok {y : V} {u : Value} {Q : Unit → Shared → Prop} (I : Inv X pins σ H s) (e : H a = some (.ins C dx fs)) (c : Cls X.K C) (n : NoAttr X.K C f) (hl : fs.length < 1000) (ry : RelV y u)
    (h : ∀ s', Inv X pins σ (upd H a (.ins C dx (putF f y fs))) s' → Q () s') : wpAny (model X.prog X.w) A (setAttr (.ref a) f u) Q E s := by
  obtain ⟨mA, O, r, wi, _, ho⟩ := ins_get I.hok e
  have hz : (fs.map (·.1)).length ≤ sizeLine := by rw [List.length_map, sizeLine_eq]; omega
  refine set_map I.kIn O c.sa c.po n.taker c.hd wi hz fun h' O' sb => h _ ?_
  have hd : ∃ o, h'.get? dx = some o := let ⟨o, _, _, e', _⟩ := O'.ns; ⟨o, e'⟩
  refine I.write (x := a) (e := dx) (by rw [e]; exact True.intro) (.inr ho) (fun b q hb z => (sb.2 b hb).trans z) hd ?_
  refine ⟨by rw [upd_ne O.ne]; exact ho, ?_, O.ne, O'.obj, _, O'.ns, fun g => ?_, fun g hg => ?_⟩
  · have := length_putF f y fs; omega
  · show RelO ((putF f y fs).lookup g) (if g = f then some u else mA g)
    rw [lookup_putF]
    by_cases q : g = f
    · rw [if_pos q, if_pos q]; exact ry
    · rw [if_neg q, if_neg q]; exact r g
  · by_cases q : g = f
    · rw [q]; exact (keys_putF f y fs).1
    · refine (keys_putF f y fs).2 g (wi g fun z => hg ?_)
      show (if g = f then some u else mA g) = none
      rw [if_neg q]; exact z
theorem Inv.made (I : Inv X pins σ H s) : Inv X pins σ (upd (upd H s.heap.objs.size (.own (s.heap.objs.size + 1))) (s.heap.objs.size + 1) (.ins C s.heap.objs.size []))
    { s with heap := (s.heap.push PySem.W.emptyDict).push (PySem.W.instObj C s.heap.objs.size) } := by
  have e1 : (s.heap.push PySem.W.emptyDict).get? s.heap.objs.size = some PySem.W.emptyDict := Heap.get?_push_size s.heap rfl
  have e2 : ((s.heap.push PySem.W.emptyDict).push (PySem.W.instObj C s.heap.objs.size)).get? (s.heap.objs.size + 1) = some (PySem.W.instObj C s.heap.objs.size) := by
    have := Heap.get?_push_size (s.heap.push PySem.W.emptyDict) (o := PySem.W.instObj C s.heap.objs.size) rfl
    rwa [Heap.size_push] at this
  have e3 : (s.heap.push PySem.W.emptyDict).Ns s.heap.objs.size (fun _ => none) := ⟨PySem.W.emptyDict, #[], _, e1, rfl, (fun e he => absurd he (by simp)), fun _ => rfl⟩
  have I1 := I.laid (a := s.heap.objs.size) (o := .own (s.heap.objs.size + 1)) (h' := s.heap.push PySem.W.emptyDict) (t' := s.toks) (fun b u q => Heap.get?_push_of_some _ q) (Nat.le_refl _) ⟨_, e1⟩
  refine I1.laid (a := s.heap.objs.size + 1) (o := .ins C s.heap.objs.size []) (t' := s.toks) (fun b u q => Heap.get?_push_of_some _ q) (Nat.le_of_eq (Heap.size_push _ _)) ?_
  have ne : s.heap.objs.size ≠ s.heap.objs.size + 1 := Nat.ne_of_lt (Nat.lt_succ_self _)
  refine ⟨by rw [upd_ne ne, upd_same], Nat.zero_le _, ne, e2, fun _ => none, (Heap.Ns1.of_empty e3).at fun o q => Heap.get?_push_of_some _ q, fun _ => True.intro, fun y hy => absurd rfl hy⟩
theorem attr_of {prog : Program} {w : World} {env : Env} {e : Expr} {f : Str} {pos : Pos} {s : Shared} {Q : Value → Shared → Prop} (hb : attributeBase e f env (eval e env) = eval e env)
    (h : wpAny (model prog w) A (eval e env) (fun o s₁ => wpAny (model prog w) A (getAttr o f true) Q E s₁) E s) : wpAny (model prog w) A (eval (.Attribute e f pos) env) Q E s :=
  Attribute_any_ h (by rw [arm_eval_Attribute, hb])
end
def tFld (K : PySem.W.Frag) (ta : TE) (f : Str) : TE := fun σ H Q => ta σ H fun x H1 => ∃ a C dx fs v, x = .ref a ∧ H1 a = some (.ins C dx fs) ∧ Cls K C ∧ NoAttr K C f ∧ fs.lookup f = some v ∧ Q v H1
def sFld (K : PySem.W.Frag) (ta tv : TE) (f : Str) : TS := fun D σ H => tv σ H fun y H1 => ta σ H1 fun x H2 => ∃ a C dx fs, x = .ref a ∧ H2 a = some (.ins C dx fs) ∧ Cls K C ∧ NoAttr K C f ∧ fs.length < 1000 ∧
  D.nx σ (upd H2 a (.ins C dx (putF f y fs)))
section
variable {X : Cx} {o e value : Expr} {f : Str} {pos pos' tpos : Pos} {ta tv : TE}
theorem pe_fld (he : PE X e ta) (hb : attributeBase e f X.env (eval e X.env) = eval e X.env) : PE X (.Attribute e f pos) (tFld X.K ta f) := by
  intro pins s σ H Q I h
  refine attr_of hb (thn (he pins s σ H _ I h) fun u s1 ⟨x, H1, I1, rx, a, C, dx, fs, v, ex, ea, c, n, l, q⟩ => ?_)
  subst ex
  obtain rfl : u = Value.ref a := rx
  exact getattr_ok I1 ea c n l fun u' s2 I2 ru => ⟨v, H1, I2, ru, q⟩
theorem ps_fld (ha : PE X o ta) (hv : PE X value tv) (hs : swapsWith value (some (.Attribute o f pos')) pos.line X.env = pure false) : PS X (.Assign [.Attribute o f pos'] value pos) (sFld X.K ta tv f) := by
  intro pins s σ H D I h
  refine plainObj_wpAny_Assign_Attribute (thn (hv pins s σ H _ I h) fun u s1 ⟨y, H1, I1, ry, q⟩ => thn (ha pins s1 σ H1 _ I1 q) fun ov s2 ⟨x, H2, I2, rx, a, C, dx, fs, ex, ea, c, n, l, q2⟩ => ?_) hs
  subst ex
  obtain rfl : ov = Value.ref a := rx
  exact setattr_ok I2 ea c n l ry fun s3 I3 => ⟨σ, _, I3, q2⟩
theorem methcall_of {pl : Sem Bool} {m : Str} {apos : Pos} {args : List Expr} {pins : List (Addr × Obj)} {s : Shared} {σ : St} {H : Hp} {Q : Value → Shared → Prop} {te : TE} (he : PE X e te) (I : Inv X pins σ H s)
    (h : te σ H fun x H1 => ∃ a C dx fs g, x = .ref a ∧ H1 a = some (.ins C dx fs) ∧ Cls X.K C ∧ Meth X.K C m g ∧ fs.lookup m = none ∧
      ∀ s1, Inv X pins σ H1 s1 → wpAny (model X.prog X.w) X.A (callWith pos (.ref g) [.ref a] (backTo pos (starEach args X.env)) (backToKw pos (keywordEach [] X.env))) Q X.xe s1)
    (ht : eval (.Call (.Attribute e m apos) args [] pos) X.env = (do
      let ov ← eval e X.env
      standAt apos.atName
      let (f, first) ← holding [ov] (getMethod ov m pl)
      callWith pos f first (backTo pos (starEach args X.env)) (backToKw pos (keywordEach [] X.env)))) :
    wpAny (model X.prog X.w) X.A (eval (.Call (.Attribute e m apos) args [] pos) X.env) Q X.xe s := by
  refine PySem.W.methodCall_KW (pl := pl) (thn (he pins s σ H _ I h) fun u s1 ⟨x, H1, I1, rx, a, C, dx, fs, g, ex, ea, c, k, l, q⟩ => ?_) ht
  subst ex
  obtain rfl : u = Value.ref a := rx
  exact getmeth_ok I1 ea c k l (q s1 I1)
end
section
variable {X : Cx} {pins : List (Addr × Obj)} {σ : St} {H : Hp} {s : Shared} {A : Around} {E : Value → Shared → Prop} {Q : Value → Shared → Prop} {c : Value} {b : Bool}
end
end L2
namespace L2
open PySem PySem.Spec PyProof.Rows
structure Room (k : Nat) (A : Around) : Prop where
  hd : A.handled = none
  dp : A.depth + 3 * k + 5 < recursionLimit
  un : A.units + 16 * k + 200 < cLine
theorem Room.mono {j k : Nat} {A : Around} (r : Room k A) (h : j ≤ k) : Room j A := ⟨r.hd, by have := r.dp; omega, by have := r.un; omega⟩
theorem Room.deeper {k : Nat} {A : Around} (r : Room (k + 1) A) (env : Env) : Room k (A.deeper env) :=
  ⟨r.hd, by have := r.dp; show A.depth + 1 + 3 * k + 5 < _; omega, by have := r.un; show A.units + 3 + 16 * k + 200 < _; omega⟩
theorem make_depth {A : Around} {C : Addr} {us : List Value} {kw : List (Str × Value)} : (A.under (.builtin "type.__call__" ⟨.ref C :: us, kw⟩)).depth = A.depth + 1 := by
  first | rfl | simp [Around.under, Code.weight, Code.isCreation, Code.isGuard, Code.isCaller, Code.frames, Code.isFrame, guardIds]
theorem make_units {A : Around} {C : Addr} {us : List Value} {kw : List (Str × Value)} : (A.under (.builtin "type.__call__" ⟨.ref C :: us, kw⟩)).units = A.units + 1 := by
  first | rfl | simp [Around.under, Code.cUnits, Code.frames, Code.isFrame]
theorem Room.make {k : Nat} {A : Around} (r : Room (k + 1) A) (C : Addr) (us : List Value) (kw : List (Str × Value)) : Room k (A.under (.builtin "type.__call__" ⟨.ref C :: us, kw⟩)) :=
  ⟨r.hd, by have := r.dp; rw [make_depth]; omega, by have := r.un; rw [make_units]; omega⟩
theorem Room.depth {k : Nat} {A : Around} (r : Room k A) : A.depth < recursionLimit := by have := r.dp; omega
theorem Room.units {k : Nat} {A : Around} (r : Room k A) : A.units + 64 < cLine := by have := r.un; omega
def tNil : TA := fun _ H Q => Q [] H
def tCons (ta : TE) (tr : TA) : TA := fun σ H Q => ta σ H fun x H1 => tr σ H1 fun xs H2 => Q (x :: xs) H2
section
variable {X : Cx} {e : Expr} {es : List Expr} {te : TE} {t : TA} {pos : Pos}
theorem pa_nil : PA X [] tNil := fun _ _ _ _ H Q I h => Calls.spliced_nil ⟨[], H, I, .nil, h⟩
theorem pa_cons (ha : PE X e te) (hr : PA X es t) (hs : starEach (e :: es) X.env = (false, eval e X.env) :: starEach es X.env := by rfl) : PA X (e :: es) (tCons te t) := by
  intro pos pins s σ H Q I h
  rw [hs]
  show wpAny _ _ (spliced ((false, eval e X.env) :: backTo pos (starEach es X.env))) _ _ s
  refine Calls.spliced_cons (thn (ha pins s σ H _ I h) fun u s1 ⟨x, H1, I1, r1, q1⟩ => ?_)
  exact thn (hr pos pins s1 σ H1 _ I1 q1) fun us s2 ⟨xs, H2, I2, r2, q2⟩ => ⟨x :: xs, H2, I2, .cons r1 r2, q2⟩
def tTup (t : TA) : TE := fun σ H Q => t σ H fun xs H1 => xs.length ≤ sizeLine ∧ ∀ p, H1 p = none → Q (.ref p) (upd H1 p (.tup xs))
def tLst (t : TA) : TE := fun σ H Q => t σ H fun xs H1 => xs.length ≤ sizeLine ∧ ∀ p, H1 p = none → Q (.ref p) (upd H1 p (.lst xs))
theorem pe_tup {x1} (h : PA X es t) : PE X (.Tuple es x1 pos) (tTup t) := by
  intro pins s σ H Q I hq
  refine wpAny_Tuple_spliced (thn (h pos pins s σ H _ I hq) fun us s1 ⟨xs, H1, I1, r, z, q⟩ => ⟨by rw [← r.length]; exact z, ?_⟩)
  have hf : H1 s1.heap.objs.size = none := I1.hok.fresh (Nat.le_refl _)
  refine ⟨.ref s1.heap.objs.size, upd H1 s1.heap.objs.size (.tup xs), I1.laid (t' := s1.toks) (fun b u e => Heap.get?_push_of_some _ e) (Nat.le_refl _) ?_, rfl, q _ hf⟩
  exact ⟨z, us, r, ⟨_, Heap.get?_push_size _ rfl, rfl, _, rfl⟩⟩
theorem pe_lst (h : PA X es t) : PE X (.List es pos) (tLst t) := by
  intro pins s σ H Q I hq
  refine wpAny_List_spliced (thn (h pos pins s σ H _ I hq) fun us s1 ⟨xs, H1, I1, r, z, q⟩ => ⟨by rw [← r.length]; exact z, ?_⟩)
  have hf : H1 s1.heap.objs.size = none := I1.hok.fresh (Nat.le_refl _)
  refine ⟨.ref s1.heap.objs.size, upd H1 s1.heap.objs.size (.lst xs), I1.laid (t' := s1.toks) (fun b u e => Heap.get?_push_of_some _ e) (Nat.le_refl _) ?_, rfl, q _ hf⟩
  exact ⟨z, us, 0, r, Heap.get?_push_size _ rfl⟩
end
abbrev Sp := List V → Hp → VK → XK → Prop
abbrev CXT := List Env → Hp → Shared → XK → Value → Shared → Prop
structure Env0 (P : Program) (w : World) (K : PySem.W.Frag) (mg : Str → Option Value) (base : Heap) (A : Around) (outer : List Env) (s : Shared) (H : Hp) : Prop where
  frames : A.frames = some outer
  mod : Mod K mg base
  bs : ∀ b o, base.get? b = some o → s.heap.get? b = some o ∧ H b = none
  bsz : base.objs.size ≤ s.heap.objs.size
  funs : s.heap.FunFrames base outer
  frf : ∀ b ∈ frs outer, H b = none
  hok : HOk P w H s.heap
  bare : AllBare s.gens
def CE (outer : List Env) (P : Program) (w : World) (H : Hp) (s : Shared) (Q : VK) (u : Value) (s' : Shared) : Prop :=
  ∃ v H', s'.os = s.os ∧ AllBare s'.gens ∧ Un (frs outer) [] H H' s.heap s'.heap ∧ HOk P w H' s'.heap ∧ RelV v u ∧ Q v H'
def CR (CX : CXT) (outer : List Env) (P : Program) (w : World) (H : Hp) (s : Shared) (Q : VK) (E : XK) (r : Result) (s' : Shared) : Prop :=
  match r with
  | .ok (.ret u) => CE outer P w H s Q u s'
  | .ok _ => False
  | .error e => CX outer H s E e s'
structure FnOk (P : Program) (w : World) (K : PySem.W.Frag) (mg : Str → Option Value) (base : Heap) (CX : CXT) (k : Nat) (f : Addr) (fd : FuncData) (ps : List Str) (sp : Sp) : Prop where
  len : ∀ vs H Q E, sp vs H Q E → vs.length = ps.length
  run : ∀ (A : Around) (outer : List Env) (s : Shared) (H : Hp) (args : Args) (us : List Value) (vs : List V) (Q : VK) (E : XK), Room k A → Env0 P w K mg base A outer s H → BindsTo s fd args (ps.zip us) → Vals vs us → sp vs H Q E →
    codeAny (model P w) A (.call (.ref f) args) (CR CX outer P w H s Q E) s
theorem FnOk.mono {P : Program} {w : World} {K : PySem.W.Frag} {mg : Str → Option Value} {base : Heap} {CX : CXT} {j k : Nat} {f : Addr} {fd : FuncData} {ps : List Str} {sp : Sp} (F : FnOk P w K mg base CX j f fd ps sp) (h : j ≤ k) :
    FnOk P w K mg base CX k f fd ps sp := ⟨F.len, fun A outer s H args us vs Q E hr => F.run A outer s H args us vs Q E (hr.mono h)⟩
theorem FnOk.imp {P : Program} {w : World} {K : PySem.W.Frag} {mg : Str → Option Value} {base : Heap} {CX : CXT} {k : Nat} {f : Addr} {fd : FuncData} {ps : List Str} {sp sp' : Sp} (F : FnOk P w K mg base CX k f fd ps sp)
    (h : ∀ vs H Q E, sp' vs H Q E → sp vs H Q E) : FnOk P w K mg base CX k f fd ps sp' :=
  ⟨fun vs H Q E q => F.len vs H Q E (h _ _ _ _ q), fun A outer s H args us vs Q E hr he hb hv hs => F.run A outer s H args us vs Q E hr he hb hv (h _ _ _ _ hs)⟩
theorem Env0.make {P : Program} {w : World} {K : PySem.W.Frag} {mg : Str → Option Value} {base : Heap} {A : Around} {outer : List Env} {s : Shared} {H : Hp} (e : Env0 P w K mg base A outer s H) (C : Addr) (us : List Value) (kw : List (Str × Value)) :
    Env0 P w K mg base (A.under (.builtin "type.__call__" ⟨.ref C :: us, kw⟩)) outer s H := ⟨by first | exact e.frames | (simpa [Around.under, Code.envs, Code.isFrame, pushEnvs] using e.frames), e.mod, e.bs, e.bsz, e.funs, e.frf, e.hok, e.bare⟩
section
variable {X : Cx} {pins : List (Addr × Obj)} {σ : St} {H : Hp} {s s' : Shared}
theorem Inv.env0 (I : Inv X pins σ H s) : Env0 X.prog X.w X.K X.mg X.base X.A X.stack s H :=
  ⟨I.ok.frames, I.ok.mod, I.bs, Nat.le_trans I.ok.bsz I.sz, I.stack, I.stkFree, I.hok, I.bare⟩
theorem Inv.after {Q : VK} {u : Value} (I : Inv X pins σ H s) (h : CE X.stack X.prog X.w H s Q u s') : EP X pins σ Q u s' := by
  obtain ⟨v, H', os, bare, un, hok, r, q⟩ := h
  obtain ⟨hh, g, d, t, os'⟩ := s'
  obtain rfl : os' = s.os := os
  exact ⟨v, H', I.call (h' := hh) (g' := g) (d' := d) (t' := t) (ch := []) un hok bare (fun b z => absurd z (by simp)), r, q⟩
end
def tCall (sp : Sp) (dvs : List V) (E : XK) (t : TA) : TE := fun σ H Q => t σ H fun vs H1 => sp (vs ++ dvs) H1 Q E
def tMeth (C : Addr) (m : Str) (sp : Sp) (dvs : List V) (E : XK) (ta : TE) (t : TA) : TE := fun σ H Q => ta σ H fun x H1 => ∃ a dx fs, x = .ref a ∧ H1 a = some (.ins C dx fs) ∧ fs.lookup m = none ∧
  t σ H1 fun vs H2 => sp (x :: (vs ++ dvs)) H2 Q E
def tMake (C : Addr) (sp : Sp) (dvs : List V) (E : XK) (t : TA) : TE := fun σ H Q => t σ H fun vs H1 => ∀ x dx, H1 x = none → H1 dx = none → dx ≠ x →
  sp (.ref x :: (vs ++ dvs)) (upd (upd H1 dx (.own x)) x (.ins C dx [])) (fun v H2 => v = .non ∧ Q (.ref x) H2) E
def Binds (K : PySem.W.Frag) (fd : FuncData) (ps : List Str) (ds : List Value) : Prop :=
  ∀ (s : Shared) (us : List Value), K.In s.heap → (us ++ ds).length = ps.length → BindsTo s fd ⟨us, []⟩ (ps.zip (us ++ ds))
theorem Binds.all {K : PySem.W.Frag} {fd : FuncData} {ps : List Str} (h : ∀ us : List Value, us.length = ps.length → bindArgs fd ⟨us, []⟩ = pure (ps.zip us)) : Binds K fd ps [] := fun s us _ hl => by
  rw [List.append_nil] at hl ⊢
  exact .of_eq (h us hl)
def Passes (CX : CXT) (X : Cx) (E : XK) : Prop := ∀ (pins : List (Addr × Obj)) (σ : St) (H : Hp) (s : Shared) (e : Value) (s' : Shared), Inv X pins σ H s → CX X.stack H s E e s' → X.xe e s'
section
variable {X : Cx} {CX : CXT} {k : Nat} {f C : Addr} {fd : FuncData} {ps : List Str} {sp : Sp} {dvs : List V} {ds : List Value} {E : XK} {x m : Str} {p pos apos : Pos} {e o : Expr} {es : List Expr} {ta : TE} {t : TA}
theorem run_fn {pins : List (Addr × Obj)} {σ : St} {H : Hp} {s : Shared} {Q : VK} {us : List Value} {vs : List V} (F : FnOk X.prog X.w X.K X.mg X.base CX k f fd ps sp) (hr : Room k X.A) (hb : Binds X.K fd ps ds) (hd : Vals dvs ds) (hx : Passes CX X E)
    (I : Inv X pins σ H s) (r : Vals vs us) (h : sp (vs ++ dvs) H Q E) : wpAny (model X.prog X.w) X.A (call (.ref f) us) (EP X pins σ Q) X.xe s := by
  have r2 : Vals (vs ++ dvs) (us ++ ds) := r.append hd
  have hl : (us ++ ds).length = ps.length := by rw [← r2.length]; exact F.len _ _ _ _ h
  refine wpAny_call (codeAny_mono (F.run X.A X.stack s H ⟨us, []⟩ (us ++ ds) (vs ++ dvs) Q E hr I.env0 (hb s us I.kIn hl) r2 h) fun r s' hq => ?_)
  cases r with
  | error e => exact hx pins σ H s e s' I hq
  | ok fl =>
    cases fl with
    | ret u => exact I.after hq
    | next => exact False.elim hq
    | brk => exact False.elim hq
    | cont => exact False.elim hq
theorem pe_call (F : FnOk X.prog X.w X.K X.mg X.base CX k f fd ps sp) (hr : Room k X.A) (hg : Gl X x) (hm : X.mg x = some (.ref f)) (hk : PySem.W.keepIn X.K (.ref f) = true) (hb : Binds X.K fd ps ds) (hd : Vals dvs ds) (hx : Passes CX X E)
    (ha : PA X (e :: es) t) (hdb : (x == ("__debug__" : Str)) = false := by decide) (he : starEach (e :: es) X.env = (false, eval e X.env) :: starEach es X.env := by rfl) (hpl : (backTo pos (starEach es X.env)).any (·.1) = false := by rfl) :
    PE X (.Call (.Name x p) (e :: es) [] pos) (tCall sp dvs E t) := by
  intro pins s σ H Q I h
  refine wpAny_Call_Name_kw (ld_glob I hg hm ?_ hdb)
  refine PySem.W.callWith_K (h₀ := X.base) I.ok.mod.kin hk (thn (ha pos pins s σ H _ I h) fun us s1 ⟨vs, H1, I1, r, q⟩ => ⟨I1.kIn, ?_⟩) he hpl
  exact run_fn F hr hb hd hx I1 r q
theorem pe_meth {pl : Sem Bool} (he : PE X o ta) (c : Cls X.K C) (hm : Meth X.K C m f) (F : FnOk X.prog X.w X.K X.mg X.base CX k f fd ps sp) (hr : Room k X.A) (hb : Binds X.K fd ps ds) (hd : Vals dvs ds) (hx : Passes CX X E) (ha : PA X (e :: es) t)
    (hst : starEach (e :: es) X.env = (false, eval e X.env) :: starEach es X.env := by rfl) (hpl : (backTo pos (starEach es X.env)).any (·.1) = false := by rfl)
    (ht : eval (.Call (.Attribute o m apos) (e :: es) [] pos) X.env = (do
      let ov ← eval o X.env
      standAt apos.atName
      let (f, first) ← holding [ov] (getMethod ov m pl)
      callWith pos f first (backTo pos (starEach (e :: es) X.env)) (backToKw pos (keywordEach [] X.env))) := by rfl) :
    PE X (.Call (.Attribute o m apos) (e :: es) [] pos) (tMeth C m sp dvs E ta t) := by
  intro pins s σ H Q I h
  refine PySem.W.methodCall_KW (pl := pl) (thn (he pins s σ H _ I h) fun u s1 ⟨x, H1, I1, rx, a, dx, fs, ex, ea, l, q⟩ => ?_) ht
  subst ex
  obtain rfl : u = Value.ref a := rx
  refine getmeth_ok I1 ea c hm l ?_
  refine PySem.W.callWith_K (first := [.ref a]) (h₀ := X.base) I.ok.mod.kin hm.kp (thn (ha pos pins s1 σ H1 _ I1 q) fun us s2 ⟨vs, H2, I2, r, q2⟩ => ⟨I2.kIn, ?_⟩) hst hpl
  exact run_fn (us := .ref a :: us) (vs := .ref a :: vs) F hr hb hd hx I2 (.cons rfl r) q2
theorem pe_meth0 {pl : Sem Bool} (he : PE X o ta) (c : Cls X.K C) (hm : Meth X.K C m f) (F : FnOk X.prog X.w X.K X.mg X.base CX k f fd ps sp) (hr : Room k X.A) (hb : Binds X.K fd ps ds) (hd : Vals dvs ds) (hx : Passes CX X E)
    (ht : eval (.Call (.Attribute o m apos) [] [] pos) X.env = (do
      let ov ← eval o X.env
      standAt apos.atName
      let (f, first) ← holding [ov] (getMethod ov m pl)
      callWith pos f first (backTo pos (starEach [] X.env)) (backToKw pos (keywordEach [] X.env))) := by rfl) :
    PE X (.Call (.Attribute o m apos) [] [] pos) (tMeth C m sp dvs E ta tNil) := by
  intro pins s σ H Q I h
  refine PySem.W.methodCall_KW (pl := pl) (thn (he pins s σ H _ I h) fun u s1 ⟨x, H1, I1, rx, a, dx, fs, ex, ea, l, q⟩ => ?_) ht
  subst ex
  obtain rfl : u = Value.ref a := rx
  refine getmeth_ok I1 ea c hm l ?_
  exact PySem.W.callWith_K0 (first := [.ref a]) I1.kIn hm.kp (run_fn (us := [.ref a]) (vs := [.ref a]) F hr hb hd hx I1 (.cons rfl .nil) q)
structure Mk (K : PySem.W.Frag) (C f : Addr) : Prop where
  makes : PySem.W.makesIn K C = true
  init : PySem.W.findIn K (.ref C) "__init__" = some (some (.ref f))
  fn : PySem.W.isFn K (.ref f) = true
  kp : PySem.W.keepIn K (.ref C) = true
theorem run_make {pins : List (Addr × Obj)} {σ : St} {H : Hp} {s : Shared} {Q : VK} {us : List Value} {vs : List V} (M : Mk X.K C f) (F : FnOk X.prog X.w X.K X.mg X.base CX k f fd ps sp) (hr : Room (k + 1) X.A) (hb : Binds X.K fd ps ds) (hd : Vals dvs ds)
    (hx : Passes CX X E) (I : Inv X pins σ H s) (r : Vals vs us)
    (h : ∀ x dx, H x = none → H dx = none → dx ≠ x → sp (.ref x :: (vs ++ dvs)) (upd (upd H dx (.own x)) x (.ins C dx [])) (fun v H2 => v = .non ∧ Q (.ref x) H2) E) :
    wpAny (model X.prog X.w) X.A (call (.ref C) us) (EP X pins σ Q) X.xe s := by
  have hq := h (s.heap.objs.size + 1) s.heap.objs.size (I.hok.fresh (Nat.le_succ _)) (I.hok.fresh (Nat.le_refl _)) (Nat.ne_of_lt (Nat.lt_succ_self _))
  have I2 := Inv.made (C := C) I
  have r2 : Vals (V.ref (s.heap.objs.size + 1) :: (vs ++ dvs)) (Value.ref (s.heap.objs.size + 1) :: (us ++ ds)) := .cons rfl (r.append hd)
  have hl : (Value.ref (s.heap.objs.size + 1) :: us ++ ds).length = ps.length := by
    have e := r2.length
    rw [F.len _ _ _ _ hq] at e
    exact e.symm
  refine wpAny_call (make_map (f := f) I.kIn M.makes M.init (beq_iff_eq.mp M.fn) (codeAny_mono (F.run _ X.stack _ _ ⟨Value.ref (s.heap.objs.size + 1) :: us, []⟩ (Value.ref (s.heap.objs.size + 1) :: (us ++ ds)) _ _ E (hr.make C us [])
    (I2.env0.make C us []) (hb _ (Value.ref (s.heap.objs.size + 1) :: us) I2.kIn hl) r2 hq) fun r s' hq' => ?_))
  cases r with
  | error e => exact hx pins σ _ _ e s' I2 hq'
  | ok fl =>
    cases fl with
    | ret u =>
      obtain ⟨v, H', I3, rv, ev, q3⟩ := I2.after hq'
      subst ev
      exact ⟨rv, ⟨V.ref (s.heap.objs.size + 1), H', I3, rfl, q3⟩⟩
    | next => exact False.elim hq'
    | brk => exact False.elim hq'
    | cont => exact False.elim hq'
theorem pe_make0 (M : Mk X.K C f) (F : FnOk X.prog X.w X.K X.mg X.base CX k f fd ps sp) (hr : Room (k + 1) X.A) (hg : Gl X x) (hm : X.mg x = some (.ref C)) (hb : Binds X.K fd ps ds) (hd : Vals dvs ds) (hx : Passes CX X E)
    (hdb : (x == ("__debug__" : Str)) = false := by decide) : PE X (.Call (.Name x p) [] [] pos) (tMake C sp dvs E tNil) := by
  intro pins s σ H Q I h
  refine wpAny_Call_Name_kw (ld_glob I hg hm ?_ hdb)
  exact PySem.W.callWith_K0 I.kIn M.kp (run_make (us := []) M F hr hb hd hx I .nil h)
end
section
variable {X : Cx} {CX : CXT} {k : Nat} {f C : Addr} {fd : FuncData} {ps ks : List Str} {sp : Sp} {E : XK} {x m : Str} {p pos apos kpos : Pos} {e o : Expr} {es : List Expr} {kws : List Keyword} {te ta : TE} {t tk : TA} {nm : Option Str}
variable {g : List Value → List Value → List Value} {gV : List V → List V → List V}
end
structure FnScope (N P : List Str) (sc : Scope) : Prop where
  kind : sc.kind = .function
  co : sc.isCoroutine = false
  gen : sc.isGenerator = false
  nd : N.Nodup
  pre : N.take P.length = P
  par : ∀ x ∈ P, sc.names.lookup x = some .local ∨ sc.names.lookup x = some .cell
  nofree : ∀ y ∈ sc.names, y.2 ≠ .free
theorem bindL_out {kindOf : Str → Option NameKind} {x : Str} : ∀ {binds : List (Str × Value)} {m : Str → Option Value}, (∀ v, (x, v) ∉ binds) → bindL kindOf binds m x = m x
  | [], _, _ => rfl
  | (n, v) :: r, m, h => by
    unfold bindL
    rw [bindL_out fun w hw => h w (List.mem_cons_of_mem _ hw)]
    split
    · have : x ≠ n := by rintro rfl; exact h v List.mem_cons_self
      simp [this]
    · rfl
theorem bindC_out {kindOf : Str → Option NameKind} {x : Str} : ∀ {binds : List (Str × Value)} {m : Str → Option Value}, (∀ v, (x, v) ∉ binds) → bindC kindOf binds m x = m x
  | [], _, _ => rfl
  | (n, v) :: r, m, h => by
    unfold bindC
    rw [bindC_out fun w hw => h w (List.mem_cons_of_mem _ hw)]
    split
    · rfl
    · have : x ≠ n := by rintro rfl; exact h v List.mem_cons_self
      simp [this]
theorem bindL_get {kindOf : Str → Option NameKind} {x : Str} {v : Value} : ∀ {P : List Str} {vs : List Value} {i : Nat} {m : Str → Option Value}, P.Nodup → P[i]? = some x → vs[i]? = some v → kindOf x = some .local →
    bindL kindOf (P.zip vs) m x = some v
  | [], _, _, _, _, h, _, _ => by simp at h
  | _ :: _, [], _, _, _, _, h, _ => by simp at h
  | p :: P, w :: vs, 0, m, nd, h1, h2, hk => by
    simp at h1 h2; subst h1; subst h2
    show bindL kindOf ((p, w) :: P.zip vs) m p = _
    unfold bindL
    rw [bindL_out fun v hv => (List.nodup_cons.mp nd).1 (List.of_mem_zip hv).1, if_pos hk]
    simp
  | p :: P, w :: vs, i + 1, m, nd, h1, h2, hk => by
    show bindL kindOf ((p, w) :: P.zip vs) m x = _
    unfold bindL
    exact bindL_get (i := i) (List.nodup_cons.mp nd).2 (by simpa using h1) (by simpa using h2) hk
theorem bindC_get {kindOf : Str → Option NameKind} {x : Str} {v : Value} : ∀ {P : List Str} {vs : List Value} {i : Nat} {m : Str → Option Value}, P.Nodup → P[i]? = some x → vs[i]? = some v → kindOf x ≠ some .local →
    bindC kindOf (P.zip vs) m x = some v
  | [], _, _, _, _, h, _, _ => by simp at h
  | _ :: _, [], _, _, _, _, h, _ => by simp at h
  | p :: P, w :: vs, 0, m, nd, h1, h2, hk => by
    simp at h1 h2; subst h1; subst h2
    show bindC kindOf ((p, w) :: P.zip vs) m p = _
    unfold bindC
    rw [bindC_out fun v hv => (List.nodup_cons.mp nd).1 (List.of_mem_zip hv).1, if_neg hk]
    simp
  | p :: P, w :: vs, i + 1, m, nd, h1, h2, hk => by
    show bindC kindOf ((p, w) :: P.zip vs) m x = _
    unfold bindC
    exact bindC_get (i := i) (List.nodup_cons.mp nd).2 (by simpa using h1) (by simpa using h2) hk
def start (N : List Str) (vs : List V) : St := vs.map some ++ List.replicate (N.length - vs.length) none
def cxOf (CX : CXT) (P : Program) (w : World) (K : PySem.W.Frag) (mg : Str → Option Value) (base : Heap) (N : List Str) (qual : Str) (scope : Scope) (f : Addr) (cd : Value) (A : Around) (outer : List Env) (s : Shared) (H : Hp) (E : XK) : Cx where
  prog := P
  w := w
  K := K
  mg := mg
  base := base
  A := A.deeper (envOfC qual scope s.heap.objs.size f cd)
  N := N
  s_0 := s
  H_0 := H
  env := envOfC qual scope s.heap.objs.size f cd
  outer := outer
  stack := envOfC qual scope s.heap.objs.size f cd :: outer
  ex := []
  calm := true
  fn := fun _ => true
  pn := []
  xe := fun e s' => wpAny (model P w) (A.deeper (envOfC qual scope s.heap.objs.size f cd)) (leaving (envOfC qual scope s.heap.objs.size f cd) e) (fun _ s'' => CX outer H s E e s'') (fun e' s'' => CX outer H s E e' s'') s'
theorem cell_has {sc : Scope} {n : Nat} {x : Str} (h : sc.names.lookup x = some .cell) : ∃ c, (cellsFrom n sc.names []).lookup x = some c := by
  have q := PySem.W.cellsFrom_some sc.names n [] (.inl h)
  exact Option.isSome_iff_exists.mp q
theorem inv_start {CX : CXT} {P : Program} {w : World} {K : PySem.W.Frag} {mg : Str → Option Value} {base : Heap} {N ps : List Str} {qual : Str} {scope : Scope} {f : Addr} {cd : Value} {A : Around} {outer : List Env} {s s1 : Shared} {H : Hp} {E : XK} {us : List Value} {vs : List V}
    (S : FnScope N ps scope) (hd : A.handled = none) (e0 : Env0 P w K mg base A outer s H) (hl : vs.length = ps.length) (r : Vals vs us)
    (x : InCallC s s.heap.objs.size (bindL (envOfC qual scope s.heap.objs.size f cd).kindOf (ps.zip us) fun _ => none) (cellsFrom (s.heap.objs.size + 1) scope.names []) (bindC (envOfC qual scope s.heap.objs.size f cd).kindOf (ps.zip us) fun _ => none) s1) :
    Inv (cxOf CX P w K mg base N qual scope f cd A outer s H E) [] (start N vs) H s1 := by
  have hpl : ps.length ≤ N.length := by have := congrArg List.length S.pre; rw [List.length_take] at this; omega
  obtain ⟨h1, tk, rfl, hk⟩ := x.done
  have noA : ∀ b : Addr, b ∉ (cxOf CX P w K mg base N qual scope f cd A outer s H E).ex := fun b z => absurd (show b ∈ ([] : List Addr) from z) (by simp)
  refine ⟨⟨e0.mod, S.kind, rfl, rfl, Nat.le_refl _, fun y z c h1 h2 => ?_, fun y hy => ?_, fun y c _ h => ?_, fun _ => hd, Around.frames_deeper e0.frames, .inr ⟨rfl, rfl⟩, fun b z => absurd z (noA b), e0.bs, e0.bsz, fun b _ _ => noA b, fun b z => absurd z (noA b), e0.funs, e0.frf⟩,
    rfl, e0.bare, Un.kept hk, ⟨_, x.toInCall.ns, fun i y v h1 h2 h3 => ?_⟩, fun y c h => ⟨_, x.cell y c h⟩, e0.hok.fresh (Nat.le_refl _), fun y c h => ?_, fun p hp => absurd (show p ∈ ([] : List (Addr × Obj)) from hp) (by simp), e0.hok.kept hk, ?_⟩
  · exact name_of_addr x.apart (PySem.mem_of_lookup h1) (PySem.mem_of_lookup h2)
  · have hy : scope.names.lookup y = some .cell ∨ scope.names.lookup y = some .free := hy
    rcases hy with hy | hy
    · exact cell_has hy
    · exact absurd rfl (S.nofree _ (PySem.mem_of_lookup hy))
  · exact Nat.le_of_lt (x.above y c (PySem.mem_of_lookup h))
  · have hi : i < vs.length := by
      unfold start at h2
      by_cases hi : i < vs.length
      · exact hi
      · rw [List.getElem?_append_right (by simpa using hi)] at h2
        rw [List.getElem?_replicate] at h2
        split at h2 <;> cases h2
    have ha : vs[i]? = some v := by
      unfold start at h2
      rw [List.getElem?_append_left (by simpa using hi), List.getElem?_map] at h2
      cases e : vs[i]? with
      | none => rw [e] at h2; cases h2
      | some a => rw [e] at h2; cases h2; rfl
    obtain ⟨u, hu, rv⟩ := r.get ha
    have hp : ps[i]? = some y := by
      rw [← S.pre, List.getElem?_take_of_lt (by omega)]; exact h1
    have ndP : ps.Nodup := by rw [← S.pre]; exact S.nd.sublist (List.take_sublist _ _)
    refine ⟨u, rv, ?_⟩
    rcases S.par y (List.mem_of_getElem? hp) with k | k
    · exact .inl ⟨k, bindL_get ndP hp hu k⟩
    · obtain ⟨c, e⟩ := cell_has (n := s.heap.objs.size + 1) k
      refine .inr ⟨.inl k, c, e, ?_⟩
      have q := x.cell y c e
      rw [bindC_get ndP hp hu (by show scope.names.lookup y ≠ _; rw [k]; decide)] at q
      exact q
  · exact e0.hok.fresh (Nat.le_of_lt (x.above y c (PySem.mem_of_lookup h)))
  · unfold start
    show _ = N.length
    rw [List.length_append, List.length_map, List.length_replicate]
    omega
theorem fn_of {CX : CXT} {P : Program} {w : World} {K : PySem.W.Frag} {mg : Str → Option Value} {base : Heap} {k : Nat} {f : Addr} {name qual : Str} {params : Arguments} {body : List Stmt} {scope : Scope} {dV kV doc pm cdv ct oc : Value} {an od : Option Addr}
    {osl : Array (Option Value)} {N ps : List Str} {sp : Sp} (lk : K.lookup f = some ⟨oc, od, .func (PySem.W.fnOf name qual params body scope dV kV doc pm an cdv ct), osl⟩) (hcd : PySem.W.codeIn K cdv qual = true) (S : FnScope N ps scope)
    (len : ∀ vs H Q E, sp vs H Q E → vs.length = ps.length)
    (hbody : ∀ (A : Around) (outer : List Env) (s : Shared) (H : Hp) (vs : List V) (Q : VK) (E : XK), Room k (A.deeper (envOfC qual scope s.heap.objs.size f cdv)) → sp vs H Q E →
      ∃ t, PSs (cxOf CX P w K mg base N qual scope f cdv A outer s H E) body t ∧ t { nx := fun _ H' => Q .non H', rt := Q } (start N vs) H) :
    FnOk P w K mg base CX (k + 1) f (PySem.W.fnOf name qual params body scope dV kV doc pm an cdv ct) ps sp := by
  refine ⟨len, fun A outer s H args us vs Q E hr e0 hb r hsp => ?_⟩
  have hl := len _ _ _ _ hsp
  have KX : K.In s.heap := e0.mod.kin.keeps fun b o e => (e0.bs b o e).1
  have lim : s.heap.NoLimit := e0.mod.nolimit.keeps fun b o e => (e0.bs b o e).1
  have hkind : ∀ y ∈ ps.zip us, scope.names.lookup y.1 = some .local ∨ (scope.names.lookup y.1 = some .cell ∧ ((cellsFrom (s.heap.objs.size + 1) scope.names []).lookup y.1).isSome = true) := fun ⟨n, v⟩ hy => by
    rcases S.par n (List.of_mem_zip hy).1 with q | q
    · exact .inl q
    · exact .inr ⟨q, PySem.W.cellsFrom_some _ _ _ (.inl q)⟩
  refine codeAny_call_function hr.depth (KX _ _ lk) rfl S.co S.gen rfl (PySem.W.codeRec_of KX hcd) (hb _ _ _ _ ?_)
  refine wpAny_newFunctionEnv_cells S.kind hkind fun env he s1 x => ?_
  subst he
  refine ⟨lim.keeps x.toInCall.keep, codeAny_func ?_⟩
  obtain ⟨t, ht, hq⟩ := hbody A outer s H vs Q E (hr.deeper _) hsp
  have I : Inv (cxOf CX P w K mg base N qual scope f cdv A outer s H E) [] (start N vs) H s1 := inv_start S hr.hd e0 hl r x
  refine wpAny_mono (ht [] s1 (start N vs) H _ I hq) (fun fl s' hs => ?_) fun e s' hs => hs
  have fin : ∀ {σ' : St} {H' : Hp} {v : V} {u : Value}, Inv (cxOf CX P w K mg base N qual scope f cdv A outer s H E) [] σ' H' s' → RelV v u → Q v H' → CE outer P w H s Q u s' :=
    fun {σ' H' v u} J rv q => ⟨v, H', J.os, J.bare, J.base, J.hok, rv, q⟩
  cases fl with
  | ret u =>
    obtain ⟨v, σ', H', J, rv, q⟩ := hs
    exact fin J rv q
  | next =>
    obtain ⟨σ', H', J, q⟩ := hs
    exact fin (v := V.non) (u := Value.none) J rfl q
  | brk =>
    obtain ⟨_, _, _, q⟩ := hs
    exact False.elim q
  | cont =>
    obtain ⟨_, _, _, q⟩ := hs
    exact False.elim q
end L2
namespace L2
open PySem PySem.Spec PyProof.Rows
section
variable {X : Cx} {x : Str} {p pos : Pos} {e : Expr} {es : List Expr} {t : TA} {id T : String} {r : List V → Hp → VK → Prop}
def tCB (r : List V → Hp → VK → Prop) (t : TA) : TE := fun σ H Q => t σ H fun vs H1 => r vs H1 Q
theorem pe_callB (hc : CallR X (.builtin id) r) (hg : Gl X x) (hm : X.mg x = none) (hv : bootBuiltins x = some (.builtin id)) (ha : PA X (e :: es) t) (hn : x ≠ "__name__" := by decide) (hdb : (x == ("__debug__" : Str)) = false := by decide)
    (he : starEach (e :: es) X.env = (false, eval e X.env) :: starEach es X.env := by rfl) (hpl : (backTo pos (starEach es X.env)).any (·.1) = false := by rfl) : PE X (.Call (.Name x p) (e :: es) [] pos) (tCB r t) := by
  intro pins s σ H Q I h
  refine wpAny_Call_Name_kw (ld_blt I hg hm hv ?_ hn hdb)
  exact PyProof.Rows.callWith_builtin1 (thn (ha pos pins s σ H _ I h) fun us s1 ⟨vs, H1, I1, r1, q1⟩ => hc pins s1 σ H1 vs us Q I1 r1 q1) he hpl
theorem pe_callTy (hc : CallR X (.type T) r) (hg : Gl X x) (hm : X.mg x = none) (hv : bootBuiltins x = some (.type T)) (ha : PA X (e :: es) t) (hn : x ≠ "__name__" := by decide) (hdb : (x == ("__debug__" : Str)) = false := by decide)
    (he : starEach (e :: es) X.env = (false, eval e X.env) :: starEach es X.env := by rfl) (hpl : (backTo pos (starEach es X.env)).any (·.1) = false := by rfl) : PE X (.Call (.Name x p) (e :: es) [] pos) (tCB r t) := by
  intro pins s σ H Q I h
  refine wpAny_Call_Name_kw (ld_blt I hg hm hv ?_ hn hdb)
  exact PyProof.Rows.callWith_type1 (thn (ha pos pins s σ H _ I h) fun us s1 ⟨vs, H1, I1, r1, q1⟩ => hc pins s1 σ H1 vs us Q I1 r1 q1) he hpl
end
end L2
namespace HT
open PySem PyProof.Rows
section
open PySem.SeqAt
open PySem.AutoSeq1 (wpAny_loadPart')
open PySem.MeetsSeq PySem.MeetsSeq2 PySem.MeetsSeq3
end
section
variable {prog : Program} {w : World} {A : Around} {E : Value → Shared → Prop} {s : Shared}
def sIx (n d : Nat) : Option Int → Nat
  | none => d
  | some v => if v < 0 then (v + (n : Int)).toNat else min v.toNat n
theorem sIx_nat (n d k : Nat) : sIx n d (some (k : Int)) = min k n := by
  show (if (k : Int) < 0 then ((k : Int) + (n : Int)).toNat else min (k : Int).toNat n) = min k n
  rw [if_neg (by omega), Int.toNat_natCast]
end
end HT
namespace L2
open PySem PySem.Spec PyProof.Rows
abbrev TO := St → Hp → (Option Int → Hp → Prop) → Prop
def PO (X : Cx) (e : Option Expr) (t : TO) : Prop :=
  ∀ (pins : List (Addr × Obj)) (s : Shared) (σ : St) (H : Hp) (Q : Option Int → Hp → Prop), Inv X pins σ H s → t σ H Q →
    wpAny (model X.prog X.w) X.A (evalPart e X.env) (fun u s' => ∃ o H', Inv X pins σ H' s' ∧ IsPart u o ∧ Q o H') X.xe s
def tNoPart : TO := fun _ H Q => Q none H
def tPart (t : TE) : TO := fun σ H Q => t σ H fun x H1 => ∃ i, x = .int i ∧ Q (some i) H1
theorem intsAre_of {ns : List Int} : ∀ {us : List Value}, Vals (ns.map V.int) us → IntsAre us ns := by
  induction ns with
  | nil => intro us r; rw [List.map_nil] at r; cases r; exact .nil
  | cons n ns ih =>
    intro us r
    rw [List.map_cons] at r
    cases r with
    | cons r1 r2 =>
      obtain ⟨t, e⟩ := r1
      subst e
      exact .cons n t (ih r2)
section
variable {X : Cx} {e : Expr} {te : TE} {lo hi : Option Expr} {tl th : TO} {pos p2 : Pos}
theorem po_none : PO X none tNoPart := by
  intro pins s σ H Q I h
  rw [evalPart_none]
  exact wpAny_pure ⟨none, H, I, .none, h⟩
theorem po_some (h : PE X e te) : PO X (some e) (tPart te) := by
  intro pins s σ H Q I hw
  rw [evalPart_some]
  refine thn (h pins s σ H _ I hw) fun u s1 ⟨x, H1, I1, r1, q1⟩ => ?_
  obtain ⟨i, rfl, q⟩ := q1
  obtain ⟨t, rfl⟩ := r1
  exact ⟨some i, H1, I1, .int i t, q⟩
def SlR (X : Cx) (r : V → Option Int → Option Int → Hp → VK → Prop) : Prop :=
  ∀ (pins : List (Addr × Obj)) (s : Shared) (σ : St) (H : Hp) (x : V) (v vl vu : Value) (lo hi : Option Int) (sl : Addr) (Q : VK), Inv X pins σ H s → RelV x v → s.heap.IsSliceOf sl vl vu .none → IsPart vl lo → IsPart vu hi → r x lo hi H Q →
    ∃ T id, typeLookup (.type T) "__getitem__" = pure (some (.builtin id)) ∧ s.TypeIs v T ∧ wpAny (model X.prog X.w) X.A (getItem v (.ref sl)) (EP X pins σ Q) X.xe s
def tSl (r : V → Option Int → Option Int → Hp → VK → Prop) (te : TE) (tl th : TO) : TE := fun σ H Q => te σ H fun x H1 => tl σ H1 fun l H2 => th σ H2 fun u H3 => r x l u H3 Q
theorem pe_slice {r : V → Option Int → Option Int → Hp → VK → Prop} (hr : SlR X r) (he : PE X e te) (hl : PO X lo tl) (hu : PO X hi th) : PE X (.Subscript e (.Slice lo hi none p2) pos) (tSl r te tl th) := by
  intro pins s σ H Q I h
  refine Subscript_ (thn (he pins s σ H _ I h) fun v s1 ⟨x, H1, I1, r1, q1⟩ => ?_)
  refine wpAny_Slice (thn (hl pins s1 σ H1 _ I1 q1) fun vl s2 ⟨l, H2, I2, pl, q2⟩ => thn (hu pins s2 σ H2 _ I2 q2) fun vu s3 ⟨u, H3, I3, pu, q3⟩ => ?_)
  rw [evalPart_none]
  refine wpAny_pure ?_
  have I4 : Inv X pins σ H3 { s3 with heap := s3.heap.push { cls := .type "slice", data := .fields #[vl, vu, .none] } } := I3.kept (t' := s3.toks) fun b ob q => Heap.get?_push_of_some _ q
  obtain ⟨T, id, hT, ht, hg⟩ := hr pins { s3 with heap := s3.heap.push { cls := .type "slice", data := .fields #[vl, vu, .none] } } σ H3 x v vl vu l u s3.heap.objs.size Q I4 r1 (Heap.IsSliceOf.new ..) pl pu q3
  show wpAny (model X.prog X.w) X.A (subscriptTail e (.Slice lo hi none p2) v (.ref s3.heap.objs.size)) (EP X pins σ Q) X.xe { s3 with heap := s3.heap.push { cls := .type "slice", data := .fields #[vl, vu, .none] } }
  exact tail_any (ops := [.ref s3.heap.objs.size, v]) ht hT hg (by with_unfolding_all rfl)
def cutV (xs : List V) (lo hi : Option Int) : List V := (xs.drop (HT.sIx xs.length 0 lo)).take (HT.sIx xs.length xs.length hi - HT.sIx xs.length 0 lo)
theorem cutV_length (xs : List V) (lo hi : Option Int) : (cutV xs lo hi).length ≤ xs.length := by
  unfold cutV
  rw [List.length_take, List.length_drop]
  omega
end
end L2
namespace L2
open PySem PySem.Spec PyProof.Rows
def ixN (n : Nat) (i : Int) : Option Nat := if 0 ≤ i then (if i < n then some i.toNat else none) else if -(n : Int) ≤ i then some (i + n).toNat else none
def atI {α : Type} (xs : List α) (i : Int) : Option α := (ixN xs.length i).bind fun j => xs[j]?
theorem ixN_seq {n : Nat} {i : Int} {j : Nat} (h : ixN n i = some j) : seqIndex? i n = some j ∧ j < n ∧ -(n : Int) ≤ i ∧ i < n := by
  unfold ixN at h
  by_cases h0 : 0 ≤ i
  · rw [if_pos h0] at h
    by_cases h1 : i < n
    · rw [if_pos h1] at h
      have e : i.toNat = j := Option.some.inj h
      exact ⟨by rw [seqIndex_of h0 h1, e], by omega, by omega, h1⟩
    · rw [if_neg h1] at h; cases h
  · rw [if_neg h0] at h
    by_cases h1 : -(n : Int) ≤ i
    · rw [if_pos h1] at h
      have e : (i + n).toNat = j := Option.some.inj h
      exact ⟨by rw [seqIndex_neg (by omega) h1, e], by omega, h1, by omega⟩
    · rw [if_neg h1] at h; cases h
theorem atI_get {α : Type} {xs : List α} {i : Int} {v : α} (h : atI xs i = some v) : ∃ j, seqIndex? i xs.length = some j ∧ xs[j]? = some v ∧ j < xs.length ∧ -(xs.length : Int) ≤ i ∧ i < xs.length := by
  unfold atI at h
  cases e : ixN xs.length i with
  | none => rw [e] at h; cases h
  | some j =>
    rw [e] at h
    obtain ⟨h1, h2, h3, h4⟩ := ixN_seq e
    exact ⟨j, h1, h, h2, h3, h4⟩
theorem atI_nat {α : Type} {xs : List α} {j : Nat} {v : α} (h : xs[j]? = some v) : atI xs (j : Int) = some v := by
  have hj : j < xs.length := (List.getElem?_eq_some_iff.mp h).1
  have e : ixN xs.length (j : Int) = some j := by
    unfold ixN
    rw [if_pos (by omega), if_pos (by omega)]; simp
  unfold atI; rw [e]; exact h
theorem atI_last {α : Type} (xs : List α) (v : α) : atI (xs ++ [v]) (-1) = some v := by
  have hl : (xs ++ [v]).length = xs.length + 1 := by simp
  have e : ixN (xs ++ [v]).length (-1) = some xs.length := by
    unfold ixN
    rw [hl, if_neg (by decide), if_pos (by omega)]
    congr 1
    omega
  unfold atI
  rw [e]
  show (xs ++ [v])[xs.length]? = some v
  simp
def PlainIx (b : Expr) : Prop := ∀ o i, subscripted b false o i = operate [o, i] (getItem o i)
def IxR (X : Cx) (r : R2) : Prop :=
  ∀ (value slice : Expr) (pins : List (Addr × Obj)) (s : Shared) (σ : St) (H : Hp) (x y : V) (v u : Value) (Q : VK), Inv X pins σ H s → RelV x v → RelV y u → r x y H Q →
    subscripted slice false v u = operate [v, u] (getItem v u) → wpAny (model X.prog X.w) X.A (subscriptTail value slice v u) (EP X pins σ Q) X.xe s
def MtR (X : Cx) (id : String) (r : V → List V → Hp → VK → Prop) : Prop :=
  ∀ (pins : List (Addr × Obj)) (s : Shared) (σ : St) (H : Hp) (x : V) (xs : List V) (v : Value) (us : List Value) (Q : VK), Inv X pins σ H s → RelV x v → Vals xs us → r x xs H Q →
    wpAny (model X.prog X.w) X.A (call (.builtin id) (v :: us)) (EP X pins σ Q) X.xe s
section
variable {X : Cx} {a b : Expr} {ta tb : TE} {pos : Pos}
theorem pe_ix {r : R2} (hr : IxR X r) (ha : PE X a ta) (hb : PE X b tb) (hs : PlainIx b) : PE X (.Subscript a b pos) (tOp r ta tb) := by
  intro pins s σ H Q I h
  exact Subscript_ (binT ha hb I h fun v u s2 x y H2 I2 rx ry q => hr a b pins s2 σ H2 x y v u Q I2 rx ry q (hs _ _))
def rIxL (K : PySem.W.Frag) : R2 := fun x y H Q => ∃ p xs i v, x = .ref p ∧ y = .int i ∧ SqL K H p xs ∧ atI xs i = some v ∧ Q v H
def rIxT (K : PySem.W.Frag) : R2 := fun x y H Q => ∃ p xs i v, x = .ref p ∧ y = .int i ∧ SqT K H p xs ∧ atI xs i = some v ∧ Q v H
theorem ix_list : IxR X (rIxL X.K) := by
  intro value slice pins s σ H x y v u Q I rx ry h hs
  obtain ⟨p, xs, i, z, rfl, rfl, hq, he, q⟩ := h
  cases rx
  obtain ⟨t, rfl⟩ := ry
  obtain ⟨its, r, pl, hz⟩ := I.list hq
  obtain ⟨j, h1, h2, h3, h4, h5⟩ := atI_get he
  obtain ⟨w, ew, rw'⟩ := r.get h2
  have hl := r.length
  have hn := line63
  have fin : EP X pins σ Q w s := ⟨z, H, I, rw', q⟩
  by_cases h0 : 0 ≤ i
  · have hj : i.toNat = j := by
      rw [seqIndex_of h0 h5] at h1
      exact Option.some.inj h1
    exact item_listR pl.isList h0 (by omega) (by rw [hj]; simpa using ew) fin hs
  · have hj : (i + (its.toArray.size : Int)).toNat = j := by
      rw [seqIndex_neg (by omega) h4] at h1
      rw [List.size_toArray, ← hl]
      exact Option.some.inj h1
    exact subscriptTail_builtinR (x := w) pl.isList.typeIs slot_list_getitem.lookup
      (wpAny_getItem_list_neg (Q := fun r s' => r = w ∧ EP X pins σ Q r s') pl.isList (by omega) (by rw [List.size_toArray] <;> omega) (by omega) (by rw [hj]; simpa using ew) ⟨rfl, fin⟩) hs
theorem ix_tup : IxR X (rIxT X.K) := by
  intro value slice pins s σ H x y v u Q I rx ry h hs
  obtain ⟨p, xs, i, z, rfl, rfl, hq, he, q⟩ := h
  cases rx
  obtain ⟨t, rfl⟩ := ry
  obtain ⟨its, r, pl, hz⟩ := I.tuple hq
  obtain ⟨j, h1, h2, h3, h4, h5⟩ := atI_get he
  obtain ⟨w, ew, rw'⟩ := r.get h2
  have hl := r.length
  have hn := line63
  have fin : EP X pins σ Q w s := ⟨z, H, I, rw', q⟩
  exact subscriptTail_builtinR (x := w) pl.typeIs slot_tuple_getitem.lookup
    (getItem_tuple (j := j) (Q := fun r s' => r = w ∧ EP X pins σ Q r s') pl (by omega) (by omega) (by rw [List.size_toArray, ← hl]; exact h1) (by simpa using ew) ⟨rfl, fin⟩) hs
theorem mapSeq_set (its : List Value) (n j : Nat) (u : Value) : Obj.mapSeq (·.setIfInBounds j u) { cls := .type "list", data := .seq its.toArray n } = { cls := .type "list", data := .seq (its.set j u).toArray n } := by
  simp [Obj.mapSeq]
theorem Inv.lst {pins : List (Addr × Obj)} {σ : St} {H : Hp} {s : Shared} {p : Addr} {xs : List V} (I : Inv X pins σ H s) (h : H p = some (.lst xs)) :
    ∃ (its : List Value) (n : Nat), Vals xs its ∧ s.heap.get? p = some { cls := .type "list", data := .seq its.toArray n } ∧ xs.length ≤ sizeLine := by
  obtain ⟨z, its, n, r, e⟩ := I.hok p _ h
  exact ⟨its, n, r, e, z⟩
theorem Inv.lstUpd {pins : List (Addr × Obj)} {σ : St} {H : Hp} {s : Shared} {p : Addr} {xs ys : List V} {its its' : List Value} {n n' : Nat} {f : Obj → Obj} (I : Inv X pins σ H s) (h : H p = some (.lst xs))
    (ho : s.heap.get? p = some { cls := .type "list", data := .seq its.toArray n }) (hf : f { cls := .type "list", data := .seq its.toArray n } = { cls := .type "list", data := .seq its'.toArray n' }) (r : Vals ys its') (hz : ys.length ≤ sizeLine) (t : Nat) :
    Inv X pins σ (upd H p (.lst ys)) { s with heap := s.heap.update p f, toks := t } := by
  have e : (s.heap.update p f).get? p = some { cls := .type "list", data := .seq its'.toArray n' } := by
    rw [Heap.get?_update_self f ho (by rw [hf] <;> rfl), hf]
  refine I.write (x := p) (e := p) (by rw [h]; trivial) (.inl rfl) (fun b u hb q => (Heap.get?_update_other _ _ (Ne.symm hb)).trans q) ⟨_, e⟩ ?_
  exact ⟨hz, its', n', r, e⟩
def rSetL : V → V → V → Hp → (Hp → Prop) → Prop := fun o i v H Q => ∃ p xs k j, o = .ref p ∧ i = .int k ∧ H p = some (.lst xs) ∧ ixN xs.length k = some j ∧ Q (upd H p (.lst (xs.set j v)))
theorem set_list : PSet X rSetL := by
  intro pins s σ H o i v ov iv u Q I ro ri rv h
  obtain ⟨p, xs, k, j, rfl, rfl, hp, hj, q⟩ := h
  cases ro
  obtain ⟨t, rfl⟩ := ri
  obtain ⟨its, n, r, ho, hz⟩ := I.lst hp
  obtain ⟨h1, h2, h3, h4⟩ := ixN_seq hj
  have hl := r.length
  have hn := line63
  have I' : Inv X pins σ (upd H p (.lst (xs.set j v))) { s with heap := s.heap.update p (Obj.mapSeq (·.setIfInBounds j u)) } :=
    I.lstUpd hp ho (mapSeq_set its n j u) (r.set rv j) (by rw [List.length_set]; exact hz) s.toks
  by_cases h0 : 0 ≤ k
  · have hk : k.toNat = j := by
      rw [seqIndex_of h0 h4] at h1
      exact Option.some.inj h1
    exact PySem.W.ki_setAt ho h0 (by omega) (by rw [List.size_toArray, ← hl]; exact h4) (by rw [hk]; exact ⟨_, I', q⟩)
  · have hk : (k + (its.toArray.size : Int)).toNat = j := by
      rw [seqIndex_neg (by omega) h3] at h1
      rw [List.size_toArray, ← hl]
      exact Option.some.inj h1
    exact PySem.W.ki_setBack ho (by omega) (by rw [List.size_toArray, ← hl]; exact h3) (by omega) (by rw [hk]; exact ⟨_, I', q⟩)
theorem slice_bounds (lo hi : Option Int) (n : Nat) : (sliceBounds lo hi none n).1 = ((HT.sIx n 0 lo : Nat) : Int) ∧ (sliceBounds lo hi none n).2.1 = ((HT.sIx n n hi : Nat) : Int) ∧ (sliceBounds lo hi none n).2.2 = 1 := by
  refine ⟨?_, ?_, rfl⟩
  · cases lo with
    | none => simp [sliceBounds, HT.sIx]
    | some i =>
      simp only [sliceBounds, HT.sIx, Option.getD_none, show (1 : Int) > 0 by decide, if_true]
      by_cases h : i < 0
      · simp only [h, if_true] <;> omega
      · simp only [h, if_false] <;> omega
  · cases hi with
    | none => simp [sliceBounds, HT.sIx]
    | some i =>
      simp only [sliceBounds, HT.sIx, Option.getD_none, show (1 : Int) > 0 by decide, if_true]
      by_cases h : i < 0
      · simp only [h, if_true] <;> omega
      · simp only [h, if_false] <;> omega
theorem slicePick_cut (its : List Value) (lo hi : Option Int) : slicePick its.toArray lo hi none = ((its.drop (HT.sIx its.length 0 lo)).take (HT.sIx its.length its.length hi - HT.sIx its.length 0 lo)).toArray := by
  obtain ⟨h1, h2, h3⟩ := slice_bounds lo hi its.toArray.size
  unfold slicePick
  rw [h1, h2, h3]
  simp only [sliceRange_one, pick_run, List.size_toArray] <;> rfl
def rSlL (K : PySem.W.Frag) : V → Option Int → Option Int → Hp → VK → Prop := fun x lo hi H Q => ∃ a xs, x = .ref a ∧ SqL K H a xs ∧ ∀ p, H p = none → Q (.ref p) (upd H p (.lst (cutV xs lo hi)))
theorem sl_list : SlR X (rSlL X.K) := by
  intro pins s σ H x v vl vu lo hi sl Q I rx hs pl pu h
  obtain ⟨a, xs, rfl, hx, q⟩ := h
  cases rx
  obtain ⟨its, r, ht, hz⟩ := I.list hx
  have hlen := r.length
  refine ⟨"list", _, slot_list_getitem.lookup, ht.isList.typeIs, ?_⟩
  refine wpAny_getItem_list_slice ht.isList hs pl pu .none (by simp) ?_ (by rw [List.size_toArray] <;> omega)
  rw [slicePick_cut, ← hlen]
  refine ⟨.ref s.heap.objs.size, _, I.laid (t' := s.toks) (o := .lst (cutV xs lo hi)) (fun b ob q => Heap.get?_push_of_some _ q) (Nat.le_refl _) ?_, rfl, q _ (I.hok.fresh (Nat.le_refl _))⟩
  exact ⟨Nat.le_trans (cutV_length xs lo hi) hz, _, 0, (r.drop (HT.sIx xs.length 0 lo)).take (HT.sIx xs.length xs.length hi - HT.sIx xs.length 0 lo), Heap.get?_push_size _ rfl⟩
def flatV : V → Bool
  | .non => true
  | .bl _ => true
  | .int _ => true
  | .str _ => true
  | _ => false
def eqV : V → V → Bool
  | .non, .non => true
  | .bl a, .bl b => a == b
  | .bl a, .int b => (if a then 1 else 0) == b
  | .int a, .bl b => a == (if b then 1 else 0)
  | .int a, .int b => a == b
  | .str a, .str b => a == b
  | _, _ => false
theorem eqAt_V {A : Around} {s : Shared} {y x : V} {u v : Value} (ry : RelV y u) (rx : RelV x v) (fy : flatV y = true) (fx : flatV x = true) : SeqAt.EqAt A s u v (eqV y x) := by
  cases y with
  | non =>
    cases ry
    cases x with
    | non => cases rx; exact SeqAt.EqAt.same _
    | bl b => cases rx; exact SeqAt.EqAt.none_bool b
    | int b => obtain ⟨t, rfl⟩ := rx; exact SeqAt.EqAt.none_int b t
    | str b => obtain ⟨t, rfl⟩ := rx; exact SeqAt.EqAt.none_str b t
    | _ => exact absurd (show false = true from fx) Bool.false_ne_true
  | bl a =>
    cases ry
    cases x with
    | non => cases rx; exact SeqAt.EqAt.bool_none a
    | bl b => cases rx; exact SeqAt.EqAt.bool_bool a b
    | int b => obtain ⟨t, rfl⟩ := rx; exact SeqAt.EqAt.bool_int a b t
    | str b => obtain ⟨t, rfl⟩ := rx; exact SeqAt.EqAt.bool_str a b t
    | _ => exact absurd (show false = true from fx) Bool.false_ne_true
  | int a =>
    obtain ⟨t', rfl⟩ := ry
    cases x with
    | non => cases rx; exact SeqAt.EqAt.int_none a t'
    | bl b => cases rx; exact SeqAt.EqAt.int_bool a t' b
    | int b => obtain ⟨t, rfl⟩ := rx; exact SeqAt.EqAt.int_int a t' b t
    | str b => obtain ⟨t, rfl⟩ := rx; exact SeqAt.EqAt.int_str a t' b t
    | _ => exact absurd (show false = true from fx) Bool.false_ne_true
  | str a =>
    obtain ⟨t', rfl⟩ := ry
    cases x with
    | non => cases rx; exact SeqAt.EqAt.str_none a t'
    | bl b => cases rx; exact SeqAt.EqAt.str_bool a t' b
    | int b => obtain ⟨t, rfl⟩ := rx; exact SeqAt.EqAt.str_int a t' b t
    | str b => obtain ⟨t, rfl⟩ := rx; exact SeqAt.EqAt.str_str a t' b t
    | _ => exact absurd (show false = true from fx) Bool.false_ne_true
  | _ => exact absurd (show false = true from fy) Bool.false_ne_true
def eqU (x : V) (u : Value) : Bool := match u with
  | .none => eqV .non x
  | .bool b => eqV (.bl b) x
  | .int i _ => eqV (.int i) x
  | .str z _ => eqV (.str z) x
  | _ => false
theorem eqU_of {x y : V} {u : Value} (r : RelV y u) (f : flatV y = true) : eqU x u = eqV y x := by
  cases y with
  | non => cases r; rfl
  | bl b => cases r; rfl
  | int i => obtain ⟨t, rfl⟩ := r; rfl
  | str z => obtain ⟨t, rfl⟩ := r; rfl
  | _ => exact absurd (show false = true from f) Bool.false_ne_true
theorem any_eqU {x : V} : ∀ {xs : List V} {us : List Value}, Vals xs us → xs.all flatV = true → us.any (eqU x) = xs.any fun y => eqV y x
  | _, _, .nil, _ => rfl
  | y :: xs, u :: us, .cons r t, f => by
    rw [List.all_cons, Bool.and_eq_true] at f
    rw [List.any_cons, List.any_cons, eqU_of r f.1, any_eqU t f.2]
theorem mem_eqAt {A : Around} {s : Shared} {x : V} {v : Value} (rx : RelV x v) (fx : flatV x = true) : ∀ {xs : List V} {us : List Value}, Vals xs us → xs.all flatV = true → ∀ u ∈ us, SeqAt.EqAt A s u v (eqU x u)
  | _, _, .nil, _ => fun u hu => by cases hu
  | y :: xs, u :: us, .cons r t, f => fun u' hu => by
    rw [List.all_cons, Bool.and_eq_true] at f
    rcases List.mem_cons.mp hu with rfl | hu
    · rw [eqU_of r f.1]; exact eqAt_V r rx f.1 fx
    · exact mem_eqAt rx fx t f.2 u' hu
def inV (x : V) (xs : List V) : Bool := xs.any fun y => eqV y x
def rIn (K : PySem.W.Frag) (neg : Bool) : R2 := fun x y H Q => ∃ p xs, y = .ref p ∧ (SqL K H p xs ∨ SqT K H p xs) ∧ flatV x = true ∧ xs.all flatV = true ∧ Q (.bl (if neg then !inV x xs else inV x xs)) H
theorem op_in_seq : OpR X (compareOp .In) (rIn X.K false) := by
  intro pins s σ H x y v u Q I rx ry h
  obtain ⟨p, xs, rfl, hq, fx, fs, q⟩ := h
  cases ry
  rcases hq with hq | hq
  · obtain ⟨its, r, pl, hz⟩ := I.list hq
    refine SeqAt.in_listAt (eqU x) pl.isList (fun w hw => mem_eqAt rx fx r fs w (by simpa using hw)) ⟨.bl _, H, I, rfl, ?_⟩
    rw [show its.toArray.any (eqU x) = its.any (eqU x) by simp, any_eqU r fs]
    exact q
  · obtain ⟨its, r, pl, hz⟩ := I.tuple hq
    refine SeqAt.in_tupleAt (eqU x) pl (fun w hw => mem_eqAt rx fx r fs w (by simpa using hw)) ⟨.bl _, H, I, rfl, ?_⟩
    rw [show its.toArray.any (eqU x) = its.any (eqU x) by simp, any_eqU r fs]
    exact q
theorem op_notIn_seq : OpR X (compareOp .NotIn) (rIn X.K true) := by
  intro pins s σ H x y v u Q I rx ry h
  obtain ⟨p, xs, rfl, hq, fx, fs, q⟩ := h
  cases ry
  rcases hq with hq | hq
  · obtain ⟨its, r, pl, hz⟩ := I.list hq
    refine SeqAt.notIn_listAt (eqU x) pl.isList (fun w hw => mem_eqAt rx fx r fs w (by simpa using hw)) ⟨.bl _, H, I, rfl, ?_⟩
    rw [show its.toArray.any (eqU x) = its.any (eqU x) by simp, any_eqU r fs]
    exact q
  · obtain ⟨its, r, pl, hz⟩ := I.tuple hq
    refine SeqAt.notIn_tupleAt (eqU x) pl (fun w hw => mem_eqAt rx fx r fs w (by simpa using hw)) ⟨.bl _, H, I, rfl, ?_⟩
    rw [show its.toArray.any (eqU x) = its.any (eqU x) by simp, any_eqU r fs]
    exact q
theorem call_len_seq : CallR X (.builtin "len") (fun xs H Q => ∃ p ys, xs = [.ref p] ∧ (SqL X.K H p ys ∨ SqT X.K H p ys) ∧ Q (.int ys.length) H) := by
  intro pins s σ H xs us Q I r h
  obtain ⟨p, ys, rfl, hq, q⟩ := h
  obtain ⟨u, rfl, rx⟩ := vals1 r
  cases rx
  have hn := line63
  rcases hq with hq | hq
  · obtain ⟨its, r', pl, hz⟩ := I.list hq
    have hlen := r'.length
    exact Calls.call_len_list pl.isList (by simp only [List.size_toArray] <;> omega) ⟨.int ys.length, H, I.tok _, ⟨s.toks + 1, by rw [List.size_toArray, hlen]⟩, q⟩
  · obtain ⟨its, r', pl, hz⟩ := I.tuple hq
    have hlen := r'.length
    exact len_tuple pl (by simp only [List.size_toArray] <;> omega) ⟨.int ys.length, H, I.tok _, ⟨s.toks + 1, by rw [List.size_toArray, hlen]⟩, q⟩
theorem call_list_of : CallR X (.type "list") (fun xs H Q => ∃ p ys, xs = [.ref p] ∧ (SqL X.K H p ys ∨ SqT X.K H p ys) ∧ ∀ l, H l = none → Q (.ref l) (upd H l (.lst ys))) := by
  intro pins s σ H xs us Q I r h
  obtain ⟨p, ys, rfl, hq, q⟩ := h
  obtain ⟨u, rfl, rx⟩ := vals1 r
  cases rx
  have fin : ∀ (its : List Value), Vals ys its → ys.length ≤ sizeLine → ∀ (h' : Heap) (c' : Nat), (∀ b o', s.heap.get? b = some o' → h'.get? b = some o') →
      h'.get? s.heap.objs.size = some { cls := .type "list", dict := none, data := .seq its.toArray c', slots := #[] } → EP X pins σ Q (.ref s.heap.objs.size) { s with heap := h' } := fun its r' hz h' c' kp e =>
    ⟨.ref s.heap.objs.size, _, I.laid (t' := s.toks) kp (Nat.le_refl _) (show ObjOk X.prog X.w _ h' _ (.lst ys) from ⟨hz, its, c', r', e⟩), rfl, q _ (I.hok.fresh (Nat.le_refl _))⟩
  rcases hq with hq | hq
  · obtain ⟨its, r', pl, hz⟩ := I.list hq
    have hlen := r'.length
    obtain ⟨o, ho, hc, n, hd⟩ := pl.isList
    exact call_list_seq p (.inl rfl) ho hc hd (fun h' c' kp e => fin its r' hz h' c' kp e) (by simp only [List.size_toArray] <;> omega)
  · obtain ⟨its, r', pl, hz⟩ := I.tuple hq
    have hlen := r'.length
    obtain ⟨o, ho, hc, n, hd⟩ := pl
    exact call_list_seq p (.inr rfl) ho hc hd (fun h' c' kp e => fin its r' hz h' c' kp e) (by simp only [List.size_toArray] <;> omega)
def tyV (K : PySem.W.Frag) (T : String) (x : V) (H : Hp) : Prop := match x with
  | .str _ => T = "str"
  | .int _ => T = "int"
  | .ref p => (T = "list" ∧ ∃ xs, SqL K H p xs) ∨ (T = "tuple" ∧ ∃ o, K.lookup p = some o ∧ o.cls = .type "tuple" ∧ o.dict = none) ∨
      (T = "dict" ∧ ((∃ kvs, H p = some (.dK kvs)) ∨ ∃ kvs, H p = some (.dT kvs))) ∨ (T = "set" ∧ ∃ S n, H p = some (.set S n))
  | _ => False
theorem tyV_is {pins : List (Addr × Obj)} {σ : St} {H : Hp} {s : Shared} {T : String} {x : V} {v : Value} (I : Inv X pins σ H s) (r : RelV x v) (ty : tyV X.K T x H) :
    s.TypeIs v T ∧ ∀ a, v = .ref a → ∃ ob, s.heap.get? a = some ob ∧ ob.dict = none := by
  cases x with
  | str z =>
    obtain ⟨t, rfl⟩ := r
    cases (show T = "str" from ty)
    exact ⟨typeIs_str s z t, fun _ e => nomatch e⟩
  | int i =>
    obtain ⟨t, rfl⟩ := r
    cases (show T = "int" from ty)
    exact ⟨typeIs_int s i t, fun _ e => nomatch e⟩
  | ref p =>
    cases r
    rcases ty with ⟨rfl, xs, hq⟩ | ⟨rfl, o, hk, hc, hd⟩ | ⟨rfl, hk⟩ | ⟨rfl, S, n, hk⟩
    · obtain ⟨its, _, pl, _⟩ := I.list hq
      refine ⟨pl.isList.typeIs, fun a e => ?_⟩
      cases e
      obtain ⟨o, n, e, c, hd, _⟩ := pl
      exact ⟨o, e, hd⟩
    · refine ⟨⟨o, I.kIn p o hk, hc⟩, fun a e => ?_⟩
      cases e
      exact ⟨o, I.kIn _ o hk, hd⟩
    · have z : ∃ o, s.heap.get? p = some o ∧ o.ExactDict := by
        rcases hk with ⟨kvs, hk⟩ | ⟨kvs, hk⟩
        · obtain ⟨_, _, _, _, o, _, _, e, ex, _⟩ := I.hok p _ hk
          exact ⟨o, e, ex⟩
        · obtain ⟨_, _, _, _, o, _, _, e, ex, _⟩ := I.hok p _ hk
          exact ⟨o, e, ex⟩
      obtain ⟨o, e, ex⟩ := z
      refine ⟨⟨o, e, ex.1⟩, fun a e2 => ?_⟩
      cases e2
      exact ⟨o, e, ex.2.1⟩
    · obtain ⟨o, _, _, _, e, ex, _⟩ := I.hok p _ hk
      refine ⟨⟨o, e, ex.1⟩, fun a e2 => ?_⟩
      cases e2
      exact ⟨o, e, ex.2.1⟩
  | _ => exact False.elim ty
def tBM0 (K : PySem.W.Frag) (T : String) (r : V → List V → Hp → VK → Prop) (to : TE) : TE := fun σ H Q => to σ H fun x H1 => tyV K T x H1 ∧ r x [] H1 Q
def tBM (K : PySem.W.Frag) (T : String) (r : V → List V → Hp → VK → Prop) (to : TE) (t : TA) : TE := fun σ H Q => to σ H fun x H1 => tyV K T x H1 ∧ t σ H1 fun xs H2 => r x xs H2 Q
variable {o e : Expr} {es : List Expr} {to : TE} {t : TA} {name : Str} {apos cpos : Pos} {T id : String} {r : V → List V → Hp → VK → Prop}
theorem pe_bm0 (pa : PlainAttrs T) (slot : Slot T name id) (hty : typeOf (.builtin id) = pure (.type "method_descriptor")) (hm : MtR X id r) (ho : PE X o to)
    (hbase : attributeBase o name X.env (eval o X.env) = eval o X.env := by rfl) (hline : (apos.endLine == cpos.line) = true := by rfl) : PE X (.Call (.Attribute o name apos) [] [] cpos) (tBM0 X.K T r to) := by
  intro pins s σ H Q I h
  refine wpAny_Call_method0_late hbase hline (thn (ho pins s σ H _ I h) fun v s1 ⟨x, H1, I1, r1, ty, q1⟩ => ?_)
  obtain ⟨h1, h2⟩ := tyV_is I1 r1 ty
  exact ⟨T, id, pa, slot, hty, h1, h2, Calls.callWith_builtin rfl (PySem.evalArgs_none (hm pins s1 σ H1 x [] v [] Q I1 r1 .nil q1))⟩
theorem pe_bm (pa : PlainAttrs T) (slot : Slot T name id) (hty : typeOf (.builtin id) = pure (.type "method_descriptor")) (hm : MtR X id r) (ho : PE X o to) (ha : PA X (e :: es) t)
    (hbase : attributeBase o name X.env (eval o X.env) = eval o X.env := by rfl)
    (hfew : ((backTo cpos (starEach (e :: es) X.env)).all (fun x => !x.1) && (backToKw cpos (keywordEach [] X.env)).all (fun x => x.1.isSome)
      && decide ((e :: es).length + ([] : List Keyword).length + (if ([] : List Keyword).isEmpty then 0 else 1) < 30)) = true := by rfl)
    (hline : (apos.endLine == cpos.line) = true := by rfl) (hs : starEach (e :: es) X.env = (false, eval e X.env) :: starEach es X.env := by rfl) (hplain : (backTo cpos (starEach es X.env)).any (·.1) = false := by rfl) :
    PE X (.Call (.Attribute o name apos) (e :: es) [] cpos) (tBM X.K T r to t) := by
  intro pins s σ H Q I h
  refine wpAny_Call_method_late hbase hfew hline rfl (thn (ho pins s σ H _ I h) fun v s1 ⟨x, H1, I1, r1, ty, q1⟩ => ?_)
  obtain ⟨h1, h2⟩ := tyV_is I1 r1 ty
  refine ⟨T, id, pa, slot, hty, h1, h2, ?_⟩
  have hA := ha cpos pins s1 σ H1 _ I1 q1
  rw [hs] at hA ⊢
  refine Calls.callWith_builtin (by show (false || (backTo cpos (starEach es X.env)).any (·.1)) = false; rw [hplain] <;> rfl) (Calls.evalArgs_plain ?_)
  exact thn hA fun us s2 ⟨vs, H2, I2, r2, q2⟩ => hm pins s2 σ H2 x vs v us Q I2 r1 r2 q2
end
end L2
namespace L2
open PySem PySem.Spec PyProof.Rows
def MtM (X : Cx) (id : String) (r : V → List V → Hp → VK → Prop) : Prop :=
  ∀ (pins : List (Addr × Obj)) (s : Shared) (σ : St) (H : Hp) (x : V) (xs : List V) (v : Value) (us : List Value) (Q : VK), Inv X pins σ H s → RelV x v → Vals xs us → r x xs H Q →
    wpAny (model X.prog X.w) X.A (call (.builtin id) (v :: us)) (EP X pins σ Q) X.xe s
theorem Vals.one : ∀ {x : V} {us : List Value}, Vals [x] us → ∃ u, us = [u] ∧ RelV x u
  | _, _, .cons r .nil => ⟨_, rfl, r⟩
theorem Vals.zero : ∀ {us : List Value}, Vals [] us → us = []
  | _, .nil => rfl
theorem Vals.dropLast {xs : List V} {us : List Value} (h : Vals xs us) : Vals xs.dropLast us.dropLast := by
  induction h with
  | nil => exact .nil
  | cons r t ih =>
    cases t with
    | nil => exact .nil
    | cons q t' => exact .cons r ih
theorem Vals.eraseIdx : ∀ {xs : List V} {us : List Value} (i : Nat), Vals xs us → Vals (xs.eraseIdx i) (us.eraseIdx i)
  | _, _, _, .nil => .nil
  | _, _, 0, .cons _ t => t
  | _, _, i + 1, .cons r t => .cons r (Vals.eraseIdx i t)
theorem Vals.reverse {xs : List V} {us : List Value} (h : Vals xs us) : Vals xs.reverse us.reverse := by
  induction h with
  | nil => exact .nil
  | cons r t ih => rw [List.reverse_cons, List.reverse_cons]; exact Vals.append ih (.cons r .nil)
theorem Vals.rep {xs : List V} {us : List Value} (h : Vals xs us) : ∀ k : Nat, Vals (List.replicate k xs).flatten (List.replicate k us).flatten
  | 0 => .nil
  | k + 1 => by
    rw [List.replicate_succ, List.replicate_succ, List.flatten_cons, List.flatten_cons]
    exact Vals.append h (Vals.rep h k)
theorem erase_last {α : Type} (l : List α) : l.eraseIdx (l.length - 1) = l.dropLast := by
  induction l with
  | nil => rfl
  | cons a r ih =>
    cases r with
    | nil => rfl
    | cons b r =>
      have e : (a :: b :: r).length - 1 = ((b :: r).length - 1) + 1 := by
        have h1 : (a :: b :: r).length = r.length + 2 := rfl
        have h2 : (b :: r).length = r.length + 1 := rfl
        omega
      rw [e, List.eraseIdx_cons_succ, ih]
      all_goals rfl
theorem len_erase {α : Type} : ∀ (l : List α) (i : Nat), (l.eraseIdx i).length ≤ l.length
  | [], _ => Nat.le_refl _
  | _ :: _, 0 => Nat.le_succ _
  | _ :: r, i + 1 => Nat.succ_le_succ (len_erase r i)
theorem foldl_rep (its : List Value) : ∀ (k : Nat) (acc : List Value),
    List.foldl (fun x1 x2 => x1 ++ x2) acc.toArray (List.replicate k its.toArray) = (acc ++ (List.replicate k its).flatten).toArray
  | 0, acc => by simp
  | k + 1, acc => by
    have e : acc.toArray ++ its.toArray = (acc ++ its).toArray := by simp
    have e2 : (acc ++ its) ++ (List.replicate k its).flatten = acc ++ (List.replicate (k + 1) its).flatten := by
      rw [List.replicate_succ, List.flatten_cons, List.append_assoc]
    rw [← e2, ← foldl_rep its k (acc ++ its), ← e, List.replicate_succ, List.foldl_cons]
section
variable {X : Cx} {pins : List (Addr × Obj)} {σ : St} {H : Hp} {s : Shared} {l b : Addr} {xs ys zs : List V}
theorem Inv.lset {its its' : List Value} {n : Nat} {f : Array Value → Array Value} {t' : Nat} (I : Inv X pins σ H s) (hH : H l = some (.lst xs))
    (e : s.heap.get? l = some { cls := .type "list", data := .seq its.toArray n }) (hf : f its.toArray = its'.toArray) (hv : Vals ys its') (hz : ys.length ≤ sizeLine) :
    Inv X pins σ (upd H l (.lst ys)) { s with heap := s.heap.update l (Obj.mapSeq f), toks := t' } := by
  have q := PySem.IsL.update e f
  rw [hf] at q
  refine I.write (x := l) (e := l) (by rw [hH]; exact trivial) (.inl rfl) (fun b' u hb hu => (Heap.get?_update_other s.heap (Obj.mapSeq f) (Ne.symm hb)).trans hu) ⟨_, q⟩ ?_
  exact ⟨hz, its', _, hv, q⟩
theorem Inv.lnew {its : List Value} {t' : Nat} (I : Inv X pins σ H s) (hv : Vals ys its) (hz : ys.length ≤ sizeLine) :
    Inv X pins σ (upd H s.heap.objs.size (.lst ys)) { s with heap := s.heap.push { cls := .type "list", data := .seq its.toArray }, toks := t' } :=
  I.laid (fun _ _ q => Heap.get?_push_of_some _ q) (Nat.le_refl _) ⟨hz, its, 0, hv, Heap.get?_push_size _ rfl⟩
theorem Inv.fresh (I : Inv X pins σ H s) : H s.heap.objs.size = none := I.hok.fresh (Nat.le_refl _)
theorem Inv.lstM (I : Inv X pins σ H s) (hH : H l = some (.lst xs)) : xs.length ≤ sizeLine ∧ ∃ (its : List Value) (n : Nat), Vals xs its ∧ xs.length = its.length ∧ s.heap.get? l = some { cls := .type "list", data := .seq its.toArray n } := by
  obtain ⟨z, its, n, r, e⟩ := I.hok l _ hH
  exact ⟨z, its, n, r, r.length, e⟩
theorem notLongL {n : Nat} (h : n ≤ sizeLine) : Builtin.List.listTooLong n = false := by
  unfold Builtin.List.listTooLong
  exact decide_eq_false (by omega)
end
section
variable {X : Cx}
def rAppend : V → List V → Hp → VK → Prop := fun x vs H Q => ∃ l xs y, x = .ref l ∧ vs = [y] ∧ H l = some (.lst xs) ∧ xs.length < sizeLine ∧ Q .non (upd H l (.lst (xs ++ [y])))
theorem mt_append : MtM X "list.append" rAppend := by
  intro pins s σ H x vs v us Q I rx rv h
  obtain ⟨l, xs, y, rfl, rfl, hH, hz, q⟩ := h
  cases rx
  obtain ⟨u, rfl, ru⟩ := rv.one
  obtain ⟨z, its, n, r, hl, e⟩ := I.lstM hH
  refine call_meets F.slot_list_append ⟨_, e, rfl⟩ F.entry_list_append (F.args_list_append_2 _ _) (PySem.list_append l its.toArray n u (by rw [List.size_toArray]; omega)) ⟨e, ?_⟩
  refine ⟨.non, _, I.lset (its' := its ++ [u]) hH e (by simp) (r.append (.cons ru .nil)) ?_, rfl, q⟩
  rw [List.length_append, List.length_singleton]
  omega
def rExtend : V → List V → Hp → VK → Prop := fun x vs H Q => ∃ l b xs zs, x = .ref l ∧ vs = [.ref b] ∧ H l = some (.lst xs) ∧ H b = some (.lst zs) ∧ xs.length + zs.length ≤ sizeLine ∧ Q .non (upd H l (.lst (xs ++ zs)))
theorem mt_extend : MtM X "list.extend" rExtend := by
  intro pins s σ H x vs v us Q I rx rv h
  obtain ⟨l, b, xs, zs, rfl, rfl, hH, hB, hz, q⟩ := h
  cases rx
  obtain ⟨u, rfl, ru⟩ := rv.one
  cases ru
  obtain ⟨z, its, n, r, hl, e⟩ := I.lstM hH
  obtain ⟨z2, its2, n2, r2, hl2, e2⟩ := I.lstM hB
  have hsz : its.toArray.size + its2.toArray.size ≤ sizeLine := by rw [List.size_toArray, List.size_toArray]; omega
  have hlong : ¬ (!its.toArray.isEmpty && Builtin.List.listTooLong (its.toArray.size + its2.toArray.size)) = true := by
    rw [notLongL hsz, Bool.and_false]
    exact Bool.false_ne_true
  refine call_meets F.slot_list_extend ⟨_, e, rfl⟩ F.entry_list_extend (F.args_list_extend_2 _ _)
    (AutoSeq1.list_extend_list_list_0 l its.toArray n b its2.toArray n2 hlong (by rw [List.size_toArray]; omega) (by omega)) ⟨e, e2, ?_⟩
  refine ⟨.non, _, I.lset (its' := its ++ its2) hH e (by simp) (r.append r2) ?_, rfl, q⟩
  rw [List.length_append]
  omega
def rPop : V → List V → Hp → VK → Prop := fun x vs H Q => ∃ l xs y, x = .ref l ∧ vs = [] ∧ H l = some (.lst xs) ∧ xs[xs.length - 1]? = some y ∧ Q y (upd H l (.lst xs.dropLast))
theorem mt_pop : MtM X "list.pop" rPop := by
  intro pins s σ H x vs v us Q I rx rv h
  obtain ⟨l, xs, y, rfl, rfl, hH, hy, q⟩ := h
  cases rx
  have hus := rv.zero
  subst hus
  obtain ⟨z, its, n, r, hl, e⟩ := I.lstM hH
  obtain ⟨u, hu, ru⟩ := r.get hy
  have hy' : its.toArray[its.toArray.size - 1]? = some u := by
    show its.toArray[its.length - 1]? = some u
    rw [← Array.getElem?_toList, ← hl]
    exact hu
  refine call_meets F.slot_list_pop ⟨_, e, rfl⟩ F.entry_list_pop (F.args_list_pop_1 _) (MeetsSeq.list_pop_last l its.toArray n u hy' (by rw [List.size_toArray]; omega)) ⟨e, ?_⟩
  refine ⟨y, _, I.lset (its' := its.dropLast) hH e ?_ r.dropLast ?_, ru, q⟩
  · show its.toArray.eraseIdxIfInBounds (its.toArray.size - 1) = its.dropLast.toArray
    rw [List.size_toArray, List.eraseIdxIfInBounds_toArray, erase_last]
  · rw [List.length_dropLast]
    omega
def rPopAt : V → List V → Hp → VK → Prop := fun x vs H Q => ∃ l xs i k y, x = .ref l ∧ vs = [.int i] ∧ H l = some (.lst xs) ∧ -(2 ^ 63) ≤ i ∧ i < 2 ^ 63 ∧ seqIndex? i xs.length = some k ∧ xs[k]? = some y ∧ Q y (upd H l (.lst (xs.eraseIdx k)))
theorem mt_popAt : MtM X "list.pop" rPopAt := by
  intro pins s σ H x vs v us Q I rx rv h
  obtain ⟨l, xs, i, k, y, rfl, rfl, hH, h1, h2, hk, hy, q⟩ := h
  cases rx
  obtain ⟨u, rfl, ru⟩ := rv.one
  obtain ⟨t, rfl⟩ := ru
  obtain ⟨z, its, n, r, hl, e⟩ := I.lstM hH
  obtain ⟨w, hw, rw'⟩ := r.get hy
  refine call_meets F.slot_list_pop ⟨_, e, rfl⟩ F.entry_list_pop (F.args_list_pop_2 _ _)
    (MeetsSeq.list_pop_at l its.toArray n i t k w (fitsIndex_both h1 h2) (by rw [List.size_toArray, ← hl]; exact hk) (by rw [← Array.getElem?_toList]; exact hw) (by rw [List.size_toArray]; omega)) ⟨e, ?_⟩
  refine ⟨y, _, I.lset (its' := its.eraseIdx k) hH e ?_ (r.eraseIdx k) ?_, rw', q⟩
  · show its.toArray.eraseIdxIfInBounds k = (its.eraseIdx k).toArray
    rw [List.eraseIdxIfInBounds_toArray]
  · have := len_erase xs k
    omega
def rReverse : V → List V → Hp → VK → Prop := fun x vs H Q => ∃ l xs, x = .ref l ∧ vs = [] ∧ H l = some (.lst xs) ∧ Q .non (upd H l (.lst xs.reverse))
theorem mt_reverse : MtM X "list.reverse" rReverse := by
  intro pins s σ H x vs v us Q I rx rv h
  obtain ⟨l, xs, rfl, rfl, hH, q⟩ := h
  cases rx
  have hus := rv.zero
  subst hus
  obtain ⟨z, its, n, r, hl, e⟩ := I.lstM hH
  refine call_meets F.slot_list_reverse ⟨_, e, rfl⟩ F.entry_list_reverse (F.args_list_reverse_1 _) (AutoSeq1.list_reverse_list_0 l its.toArray n (by rw [List.size_toArray]; omega)) ⟨e, ?_⟩
  refine ⟨.non, _, I.lset (its' := its.reverse) hH e (by simp) r.reverse ?_, rfl, q⟩
  rw [List.length_reverse]
  omega
def rCat : R2 := fun x y H Q => ∃ l b xs zs, x = .ref l ∧ y = .ref b ∧ H l = some (.lst xs) ∧ H b = some (.lst zs) ∧ xs.length + zs.length ≤ sizeLine ∧ ∀ p, H p = none → Q (.ref p) (upd H p (.lst (xs ++ zs)))
theorem op_cat : OpR X (binaryOp .Add) rCat := by
  intro pins s σ H x y v u Q I rx ry h
  obtain ⟨l, b, xs, zs, rfl, rfl, hH, hB, hz, q⟩ := h
  cases rx
  cases ry
  obtain ⟨z, its, n, r, hl, e⟩ := I.lstM hH
  obtain ⟨z2, its2, n2, r2, hl2, e2⟩ := I.lstM hB
  refine PySem.P.add_list e e2 ?_ (by rw [List.size_toArray, List.size_toArray]; omega)
  have ea : its.toArray ++ its2.toArray = (its ++ its2).toArray := by simp
  rw [ea]
  exact ⟨.ref _, _, I.lnew (t' := s.toks) (r.append r2) (by rw [List.length_append]; omega), rfl, q _ I.fresh⟩
def rRep : R2 := fun x y H Q => ∃ l k xs, x = .ref l ∧ y = .int k ∧ H l = some (.lst xs) ∧ -(2 ^ 63) ≤ k ∧ k < 2 ^ 63 ∧ xs.length * k.toNat ≤ sizeLine ∧
  ∀ p, H p = none → Q (.ref p) (upd H p (.lst (List.replicate k.toNat xs).flatten))
theorem len_rep {α : Type} (xs : List α) (k : Nat) : (List.replicate k xs).flatten.length = k * xs.length := by
  induction k with
  | zero => simp
  | succ k ih => rw [List.replicate_succ, List.flatten_cons, List.length_append, ih, Nat.succ_mul, Nat.add_comm]
theorem op_rep : OpR X (binaryOp .Mult) rRep := by
  intro pins s σ H x y v u Q I rx ry h
  obtain ⟨l, k, xs, rfl, rfl, hH, h1, h2, hz, q⟩ := h
  cases rx
  obtain ⟨t, rfl⟩ := ry
  obtain ⟨z, its, n, r, hl, e⟩ := I.lstM hH
  have hlen : its.toArray.size * k.toNat ≤ sizeLine := by rw [List.size_toArray, ← hl]; exact hz
  have hcap : ¬ its.toArray.size * k.toNat > (2 ^ 63 - 1) / 8 := by
    have : (sizeLine : Nat) ≤ (2 ^ 63 - 1) / 8 := by decide
    omega
  have hfit : ¬ (!Builtin.List.listFitsIndex k) = true := by
    rw [fitsIndex_both h1 h2]
    exact Bool.false_ne_true
  have hlong : ¬ Builtin.List.listTooLong (its.toArray.size * k.toNat) = true := by
    rw [notLongL hlen]
    exact Bool.false_ne_true
  have hnew : List.foldl (fun x1 x2 => x1 ++ x2) #[] (List.replicate (if its.toArray.isEmpty = true then 0 else k.toNat) its.toArray) = (List.replicate k.toNat its).flatten.toArray := by
    have f0 : ∀ m : Nat, List.foldl (fun x1 x2 => x1 ++ x2) #[] (List.replicate m its.toArray) = (List.replicate m its).flatten.toArray := fun m => by
      have := foldl_rep its m []
      rw [List.nil_append] at this
      exact this
    rw [f0]
    cases its with
    | nil => simp
    | cons a r' => rw [if_neg (by simp)]
  refine wpAny_binaryOp_repeat_ref (T := "list") (U := "int") (by decide) ⟨_, e, rfl⟩ (fun s' => typeIs_int s' k t) noFill_list_mul F.fills_int_mul F.slot_int_rmul repeat_list F.slot_int_index.lookup
    (call_meets F.slot_int_rmul (typeIs_int s k t) F.entry_int_rmul (F.args_int_rmul_2 _ _) (int___rmul___int_list k t l its.toArray n)
      ⟨e, rfl, ⟨_, e, rfl⟩, call_meets F.slot_list_mul ⟨_, e, rfl⟩ F.entry_list_mul (F.args_list_mul_2 _ _) (AutoListH.list___mul___list_int_3 l its.toArray n k t hfit hcap hlong) ⟨e, ?_⟩⟩)
  rw [hnew]
  exact ⟨.ref _, _, I.lnew (t' := s.toks) (r.rep k.toNat) (by rw [len_rep, Nat.mul_comm]; exact hz), rfl, q _ I.fresh⟩
end
section
variable {prog : Program} {w : World} {A : Around} {E : Value → Shared → Prop} {s : Shared}
end
section
variable {X : Cx}
end
end L2
namespace L2
open PySem PySem.Spec PyProof.Rows
theorem Vals.ints : ∀ {ns : List Int} {us : List Value}, Vals (ns.map V.int) us → IntsAre us ns
  | [], us, h => by
    rw [List.map_nil] at h
    cases h
    exact IntsAre.nil
  | n :: ns, us, h => by
    rw [List.map_cons] at h
    cases h with
    | cons r t =>
      obtain ⟨k, rfl⟩ := r
      exact IntsAre.cons n k (Vals.ints t)
theorem vals_of_ints : ∀ {us : List Value} {ns : List Int}, IntsAre us ns → Vals (ns.map V.int) us
  | _, _, .nil => by rw [List.map_nil]; exact Paired.nil
  | _, _, .cons n t h => by rw [List.map_cons]; exact Paired.cons (show RelV (V.int n) (Value.int n t) from ⟨t, rfl⟩) (vals_of_ints h)
theorem Vals.ref1 {a : Addr} {us : List Value} (r : Vals [V.ref a] us) : us = [Value.ref a] := by
  cases r with
  | cons r t =>
    cases t
    cases r
    rfl
section
variable {prog : Program} {w : World} {A : Around} {E : Value → Shared → Prop} {s : Shared} {l : Addr} {its : List Value} {ns : List Int} {Q : Value → Shared → Prop}
theorem max_raw (hh : A.handled = none) (hl : s.heap.IsList l its.toArray) (hi : IntsAre its ns) (hne : 0 < ns.length)
    (h : ∀ h' tk M t', (∀ b o, s.heap.get? b = some o → h'.get? b = some o) → M ∈ ns → (∀ a, a ∈ ns → a ≤ M) → Q (.int M t') { s with heap := h', toks := tk }) : wpAny (model prog w) A (call (.builtin "max") [.ref l]) Q E s := by
  obtain ⟨xs, e⟩ := hi.allInts.items
  have hn : numsOf (intItems xs).toList = ns := by rw [← e]; exact hi.numsOf
  rw [nums_intItems] at hn
  subst hn
  rw [e] at hl
  have hsz : 0 < xs.size := by simpa using hne
  refine PySem.max_intList hh hl hsz fun v h' tk hv hk => ?_
  obtain ⟨t, rfl⟩ := intItems_at hv
  obtain ⟨h1, h2⟩ := argBest_gt (numAt xs) (xs.size - 1)
  refine h h' tk _ t hk ?_ fun a ha => ?_
  · rw [numAt_eq]; exact PySem.getD_mem (by rw [List.length_map, Array.length_toList]; omega)
  · obtain ⟨j, hj, rfl⟩ := mem_getD ha
    rw [List.length_map, Array.length_toList] at hj
    rw [← numAt_eq]; exact h2 j (by omega)
theorem min_raw (hh : A.handled = none) (hl : s.heap.IsList l its.toArray) (hi : IntsAre its ns) (hne : 0 < ns.length)
    (h : ∀ h' tk M t', (∀ b o, s.heap.get? b = some o → h'.get? b = some o) → M ∈ ns → (∀ a, a ∈ ns → M ≤ a) → Q (.int M t') { s with heap := h', toks := tk }) : wpAny (model prog w) A (call (.builtin "min") [.ref l]) Q E s := by
  obtain ⟨xs, e⟩ := hi.allInts.items
  have hn : numsOf (intItems xs).toList = ns := by rw [← e]; exact hi.numsOf
  rw [nums_intItems] at hn
  subst hn
  rw [e] at hl
  have hsz : 0 < xs.size := by simpa using hne
  refine PySem.min_intList hh hl hsz fun v h' tk hv hk => ?_
  obtain ⟨t, rfl⟩ := intItems_at hv
  obtain ⟨h1, h2⟩ := argBest_lt (numAt xs) (xs.size - 1)
  refine h h' tk _ t hk ?_ fun a ha => ?_
  · rw [numAt_eq]; exact PySem.getD_mem (by rw [List.length_map, Array.length_toList]; omega)
  · obtain ⟨j, hj, rfl⟩ := mem_getD ha
    rw [List.length_map, Array.length_toList] at hj
    rw [← numAt_eq]; exact h2 j (by omega)
end
section
variable {X : Cx}
def rMin (K : PySem.W.Frag) : List V → Hp → VK → Prop := fun vs H Q => ∃ (a : Addr) (ns : List Int), vs = [V.ref a] ∧ SqL K H a (ns.map V.int) ∧ 0 < ns.length ∧ ∀ m, m ∈ ns → (∀ y, y ∈ ns → m ≤ y) → Q (.int m) H
theorem cr_min (hc : X.calm = true) : CallR X (.builtin "min") (rMin X.K) := by
  intro pins s σ H vs us Q I r h
  obtain ⟨a, ns, rfl, hs, hne, q⟩ := h
  obtain ⟨its, rv, hl, _⟩ := I.list hs
  rw [Vals.ref1 r]
  exact min_raw (I.ok.hd hc) hl.isList rv.ints hne fun h' tk m t' hk h1 h2 => ⟨.int _, H, I.kept hk, ⟨_, rfl⟩, q m h1 h2⟩
def rSorted (K : PySem.W.Frag) : List V → Hp → VK → Prop := fun vs H Q => ∃ (a : Addr) (ns : List Int), vs = [V.ref a] ∧ SqL K H a (ns.map V.int) ∧ ns.length < 64 ∧
  ∀ (ns' : List Int) (p : Addr), ns'.Perm ns → ns'.Pairwise (· ≤ ·) → H p = none → Q (.ref p) (upd H p (.lst (ns'.map V.int)))
theorem small64 {n : Nat} (h : n < 64) : n ≤ sizeLine := by rw [sizeLine_eq]; omega
theorem cr_sorted : CallR X (.builtin "sorted") (rSorted X.K) := by
  intro pins s σ H vs us Q I r h
  obtain ⟨a, ns, rfl, hs, h64, q⟩ := h
  obtain ⟨its, rv, hl, _⟩ := I.list hs
  rw [Vals.ref1 r]
  have hi := rv.ints
  refine PyProof.Rows.sorted_ints hl.isList hi (by rw [hi.length]; exact h64) fun out ns' h1 h2 h3 => ?_
  obtain ⟨ep, he'⟩ := PyProof.Rows.sortedAll_at s.heap its out
  have hlen : (ns'.map V.int).length ≤ sizeLine := by rw [List.length_map, h2.length_eq]; exact small64 h64
  exact ⟨.ref _, upd H (s.heap.objs.size + 1) (.lst (ns'.map V.int)), I.laid (t' := s.toks) (fun _ _ => PyProof.Rows.sortedAll_old) (Nat.le_succ _) ⟨hlen, out.toList, ep, vals_of_ints h1, he'⟩, rfl, q ns' _ h2 h3 (I.hok.fresh (Nat.le_succ _))⟩
end
section
variable {X : Cx}
def rIndex (K : PySem.W.Frag) : V → List V → Hp → VK → Prop := fun x xs H Q => ∃ (a : Addr) (ys : List V) (y : V) (j : Nat) (z : V), x = V.ref a ∧ xs = [y] ∧ SqL K H a ys ∧ flatV y = true ∧ ys.all flatV = true ∧ ys[j]? = some z ∧ eqV z y = true ∧
  (∀ (m : Nat) (z' : V), m < j → ys[m]? = some z' → eqV z' y = false) ∧ Q (.int (j : Nat)) H
theorem flat_at {ys : List V} (f : ys.all flatV = true) {j : Nat} {z : V} (h : ys[j]? = some z) : flatV z = true := List.all_eq_true.mp f z (List.mem_of_getElem? h)
theorem mt_index : MtR X "list.index" (rIndex X.K) := by
  intro pins s σ H x xs v us Q I rx rxs h
  obtain ⟨a, ys, y, j, z, rfl, rfl, hs, fy, fys, hz, hzj, hno, q⟩ := h
  cases rx
  cases rxs with
  | cons ry rt =>
    rename_i uy ut
    cases rt
    obtain ⟨its, rv, ⟨⟨cls, dd, data, sl⟩, n, ho, hc, hdn, hd⟩, hlen⟩ := I.list hs
    simp only at hc hd
    subst hc hd
    obtain ⟨u, hu, ru⟩ := rv.get hz
    obtain ⟨hjl, hje⟩ := List.getElem?_eq_some_iff.mp hu
    have hvl := rv.length
    have hj : j < its.toArray.size := by simpa using hjl
    have hsl := sizeLine_eq
    refine call_meets PySem.F.slot_list_index ⟨_, ho, rfl⟩ PySem.F.entry_list_index (PySem.F.args_list_index_2 _ _)
      (SeqAt.list_indexAt a its.toArray n dd sl uy (eqU y) j hj (by omega) ?_ ?_) ⟨ho, fun u' hu' => mem_eqAt ry fy rv fys u' (by simpa using hu'), ?_⟩
    · have e1 : its.toArray[j] = u := by simpa using hje
      rw [e1, eqU_of ru (flat_at fys hz)]
      exact hzj
    · intro m hm hmj
      have hml : m < its.length := by simpa using hm
      have hmy : m < ys.length := by omega
      have hy' : ys[m]? = some ys[m] := List.getElem?_eq_getElem hmy
      obtain ⟨u2, hu2, ru2⟩ := rv.get hy'
      obtain ⟨_, hme⟩ := List.getElem?_eq_some_iff.mp hu2
      have e1 : its.toArray[m] = u2 := by simpa using hme
      rw [e1, eqU_of ru2 (flat_at fys hy')]
      exact hno m _ hmj hy'
    · exact ⟨.int (j : Nat), H, I.tok _, ⟨_, rfl⟩, q⟩
end
section
variable {X : Cx}
end
section
variable {X : Cx}
end
mutual
inductive Dp (K : PySem.W.Frag) (H : Hp) : V → PyData → Prop
  | non : Dp K H .non .none
  | bl (b : Bool) : Dp K H (.bl b) (.bool b)
  | int (i : Int) : Dp K H (.int i) (.int i)
  | str (x : Str) : Dp K H (.str x) (.str x)
  | lst {a : Addr} {xs : List V} {ds : List PyData} : SqL K H a xs → DpAll K H xs ds → Dp K H (.ref a) (.list ds)
  | tup {a : Addr} {xs : List V} {ds : List PyData} : SqT K H a xs → DpAll K H xs ds → Dp K H (.ref a) (.tuple ds)
inductive DpAll (K : PySem.W.Frag) (H : Hp) : List V → List PyData → Prop
  | nil : DpAll K H [] []
  | cons {v : V} {vs : List V} {d : PyData} {ds : List PyData} : Dp K H v d → DpAll K H vs ds → DpAll K H (v :: vs) (d :: ds)
end
section
variable {X : Cx} {pins : List (Addr × Obj)} {σ : St} {H : Hp} {s : Shared}
mutual
theorem Dp.reads (I : Inv X pins σ H s) : ∀ (d : PyData) (v : V) (u : Value), Dp X.K H v d → RelV v u → ∃ as, Reads s.heap u d as
  | .none, _, _, h, r => by
    cases h
    cases r
    exact ⟨_, Reads.none⟩
  | .bool b, _, _, h, r => by
    cases h
    cases r
    exact ⟨_, Reads.bool b⟩
  | .int i, _, _, h, r => by
    cases h
    obtain ⟨t, rfl⟩ := r
    exact ⟨_, Reads.int i t⟩
  | .str x, _, _, h, r => by
    cases h
    obtain ⟨t, rfl⟩ := r
    exact ⟨_, Reads.str x t⟩
  | .list ds, _, _, h, r => by
    cases h with
    | lst hs ha =>
      cases r
      obtain ⟨its, rv, ⟨o, n, ho, hc, _, hd⟩, _⟩ := I.list hs
      obtain ⟨as, hr⟩ := Dp.readsAll I ds _ its ha rv
      exact ⟨_, Reads.list ho hc hd hr⟩
  | .tuple ds, _, _, h, r => by
    cases h with
    | tup hs ha =>
      cases r
      obtain ⟨its, rv, ⟨o, ho, hc, n, hd⟩, _⟩ := I.tuple hs
      obtain ⟨as, hr⟩ := Dp.readsAll I ds _ its ha rv
      exact ⟨_, Reads.tuple ho hc hd hr⟩
  | .dict _, _, _, h, _ => by cases h
theorem Dp.readsAll (I : Inv X pins σ H s) : ∀ (ds : List PyData) (vs : List V) (us : List Value), DpAll X.K H vs ds → Vals vs us → ∃ as, ReadsAll s.heap us ds as
  | [], _, _, h, r => by
    cases h
    cases r
    exact ⟨_, ReadsAll.nil⟩
  | d :: ds, _, _, h, r => by
    cases h with
    | cons h1 h2 =>
      cases r with
      | cons r1 r2 =>
        obtain ⟨as, q1⟩ := Dp.reads I d _ _ h1 r1
        obtain ⟨bs, q2⟩ := Dp.readsAll I ds _ _ h2 r2
        exact ⟨_, ReadsAll.cons q1 q2⟩
end
end
section
variable {X : Cx}
def rEqD (K : PySem.W.Frag) : R2 := fun x y H Q => ∃ d e, Dp K H x d ∧ Dp K H y e ∧ SeqAt.shaped d = true ∧ SeqAt.shaped e = true ∧ Q (.bl (PyData.eqv d e)) H
def rNeD (K : PySem.W.Frag) : R2 := fun x y H Q => ∃ d e, Dp K H x d ∧ Dp K H y e ∧ SeqAt.shaped d = true ∧ SeqAt.shaped e = true ∧ Q (.bl (!PyData.eqv d e)) H
theorem op_eqD (hu : X.A.units + 64 < cLine) : OpR X (compareOp .Eq) (rEqD X.K) := by
  intro pins s σ H x y v u Q I rx ry h
  obtain ⟨d, e, hd, he, sd, se, q⟩ := h
  obtain ⟨as, r1⟩ := Dp.reads I d x v hd rx
  obtain ⟨bs, r2⟩ := Dp.reads I e y u he ry
  exact SeqAt.compareEq_shaped r1 r2 sd se hu ⟨.bl _, H, I, rfl, q⟩
theorem op_neD (hu : X.A.units + 64 < cLine) : OpR X (compareOp .NotEq) (rNeD X.K) := by
  intro pins s σ H x y v u Q I rx ry h
  obtain ⟨d, e, hd, he, sd, se, q⟩ := h
  obtain ⟨as, r1⟩ := Dp.reads I d x v hd rx
  obtain ⟨bs, r2⟩ := Dp.reads I e y u he ry
  exact SeqAt.compareNe_shaped r1 r2 sd se hu ⟨.bl _, H, I, rfl, q⟩
end
end L2
namespace L2
open PySem PySem.Spec PyProof.Rows
abbrev CellAt (h : Heap) (c : Addr) (v : Option Value) : Prop := h.IsCell c v
def relS (scope sc : Scope) : Scope :=
  { scope with names := scope.names.map fun (n, k) => if (k == .free && sc.kind == .function && sc.names.lookup n == some .cell) then (n, .cell) else (n, k) }
def cloFrom (cells : List (Str × Addr)) : List (Str × NameKind) → List (Str × Addr) → List (Str × Addr)
  | [], acc => acc
  | (n, k) :: r, acc => if k == .free then cloFrom cells r ((n, (cells.lookup n).getD 0) :: acc) else cloFrom cells r acc
theorem closure_loop (env : Env) (f : Str × NameKind → List (Str × Addr) → Sem (ForInStep (List (Str × Addr))))
    (hf : ∀ n k c, f (n, k) c = if k == .free then (do let a ← cellOf env n; pure (.yield ((n, a) :: c))) else pure (.yield c)) :
    ∀ (names : List (Str × NameKind)) (acc : List (Str × Addr)), (∀ y ∈ names, y.2 = .free → ∃ c, env.cells.lookup y.1 = some c) → forIn names acc f = pure (cloFrom env.cells names acc)
  | [], acc, _ => by rw [List.forIn_nil]; rfl
  | (n, k) :: r, acc, h => by
    rw [List.forIn_cons, hf]
    have ih := fun acc => closure_loop env f hf r acc fun y hy => h y (List.mem_cons_of_mem _ hy)
    unfold cloFrom
    by_cases hk : (k == NameKind.free) = true
    · rw [if_pos hk, if_pos hk]
      obtain ⟨c, hc⟩ := h (n, k) List.mem_cons_self (by simpa using hk)
      have e : cellOf env n = pure c := by unfold cellOf; rw [hc]
      rw [e]
      have e2 : (env.cells.lookup n).getD 0 = c := by rw [hc]; rfl
      rw [e2]
      exact ih _
    · rw [if_neg hk, if_neg hk]
      exact ih _
theorem closure_ok {scope : Scope} {env : Env} (h : ∀ y ∈ scope.names, y.2 = .free → ∃ c, env.cells.lookup y.1 = some c) : closureFor scope env = pure (cloFrom env.cells scope.names []) := by
  simp only [closureFor]
  rw [closure_loop env _ (fun n k c => rfl) scope.names [] h]
  rfl
theorem mem_lookup {α : Type} : ∀ {l : List (Str × α)} {n : Str} {c : α}, (n, c) ∈ l → ∃ c', l.lookup n = some c'
  | (k, v) :: r, n, c, h => by
    rw [List.lookup_cons]
    cases hb : n == k with
    | true => exact ⟨_, rfl⟩
    | false =>
      rcases List.mem_cons.mp h with e | h
      · cases e; simp at hb
      · exact mem_lookup h
theorem cloFrom_mem {cells : List (Str × Addr)} : ∀ {names : List (Str × NameKind)} {acc : List (Str × Addr)} {n : Str} {c : Addr}, (n, c) ∈ cloFrom cells names acc → (n, c) ∈ acc ∨ ((n, .free) ∈ names ∧ c = (cells.lookup n).getD 0)
  | [], _, _, _, h => .inl h
  | (m, k) :: r, acc, n, c, h => by
    unfold cloFrom at h
    split at h
    · rename_i hk
      have hk : k = .free := by simpa using hk
      rcases cloFrom_mem h with h | ⟨h1, h2⟩
      · rcases List.mem_cons.mp h with e | h
        · cases e; exact .inr ⟨hk ▸ List.mem_cons_self, rfl⟩
        · exact .inl h
      · exact .inr ⟨List.mem_cons_of_mem _ h1, h2⟩
    · rcases cloFrom_mem h with h | ⟨h1, h2⟩
      · exact .inl h
      · exact .inr ⟨List.mem_cons_of_mem _ h1, h2⟩
theorem cloFrom_acc {cells : List (Str × Addr)} : ∀ {names : List (Str × NameKind)} {acc : List (Str × Addr)} {p : Str × Addr}, p ∈ acc → p ∈ cloFrom cells names acc
  | [], _, _, h => h
  | (m, k) :: r, acc, p, h => by
    unfold cloFrom
    split
    · exact cloFrom_acc (List.mem_cons_of_mem _ h)
    · exact cloFrom_acc h
theorem cloFrom_has {cells : List (Str × Addr)} : ∀ {names : List (Str × NameKind)} {acc : List (Str × Addr)} {n : Str}, (n, .free) ∈ names → (n, (cells.lookup n).getD 0) ∈ cloFrom cells names acc
  | (m, k) :: r, acc, n, h => by
    unfold cloFrom
    rcases List.mem_cons.mp h with e | h
    · cases e
      exact cloFrom_acc List.mem_cons_self
    · split
      · exact cloFrom_has h
      · exact cloFrom_has h
theorem cells_mem : ∀ {names : List (Str × NameKind)} {h : Heap} {acc : List (Str × Addr)} {x : Str} {c : Addr}, (x, c) ∈ cellsFrom h.objs.size names acc →
    (x, c) ∈ acc ∨ ((x, .cell) ∈ names ∧ h.objs.size ≤ c ∧ CellAt (pushCells h names) c none)
  | [], _, _, _, _, h => .inl h
  | (n, k) :: r, h, acc, x, c, hm => by
    unfold cellsFrom at hm
    unfold pushCells
    split at hm
    · rename_i hk
      rw [if_pos hk]
      have hk : k = .cell := by simpa using hk
      rw [← Heap.size_push h { cls := .type "cell", data := .cell none }] at hm
      rcases cells_mem hm with hm | ⟨h1, h2, h3⟩
      · rcases List.mem_cons.mp hm with e | hm
        · cases e
          exact .inr ⟨hk ▸ List.mem_cons_self, Nat.le_refl _, _, pushCells_keeps r _ _ _ (Heap.get?_push_size _ rfl), rfl⟩
        · exact .inl hm
      · rw [Heap.size_push] at h2
        exact .inr ⟨List.mem_cons_of_mem _ h1, Nat.le_of_succ_le h2, h3⟩
    · rename_i hk
      rw [if_neg hk]
      rcases cells_mem hm with hm | ⟨h1, h2, h3⟩
      · exact .inl hm
      · exact .inr ⟨List.mem_cons_of_mem _ h1, h2, h3⟩
theorem cells_acc : ∀ {names : List (Str × NameKind)} {n : Nat} {acc : List (Str × Addr)} {p : Str × Addr}, p ∈ acc → p ∈ cellsFrom n names acc
  | [], _, _, _, h => h
  | (m, k) :: r, n, acc, p, h => by
    unfold cellsFrom
    split
    · exact cells_acc (List.mem_cons_of_mem _ h)
    · exact cells_acc h
theorem cells_has : ∀ {names : List (Str × NameKind)} {n : Nat} {acc : List (Str × Addr)} {x : Str}, (x, .cell) ∈ names → ∃ c, (x, c) ∈ cellsFrom n names acc
  | (m, k) :: r, n, acc, x, h => by
    unfold cellsFrom
    rcases List.mem_cons.mp h with e | h
    · cases e
      exact ⟨n, cells_acc List.mem_cons_self⟩
    · split
      · exact cells_has h
      · exact cells_has h
theorem cells_inj : ∀ {names : List (Str × NameKind)} {h : Heap} {acc : List (Str × Addr)} {x y : Str} {c : Addr}, (∀ p ∈ acc, p.2 < h.objs.size) → (∀ x y c, (x, c) ∈ acc → (y, c) ∈ acc → x = y) →
    (x, c) ∈ cellsFrom h.objs.size names acc → (y, c) ∈ cellsFrom h.objs.size names acc → x = y
  | [], _, _, _, _, _, _, hi, h1, h2 => hi _ _ _ h1 h2
  | (n, k) :: r, h, acc, x, y, c, hl, hi, h1, h2 => by
    unfold cellsFrom at h1 h2
    split at h1
    · rename_i hk
      rw [if_pos hk] at h2
      rw [← Heap.size_push h { cls := .type "cell", data := .cell none }] at h1 h2
      refine cells_inj (h := h.push _) (fun p hp => ?_) (fun x y c a b => ?_) h1 h2
      · rw [Heap.size_push]
        rcases List.mem_cons.mp hp with rfl | hp
        · exact Nat.lt_succ_self _
        · exact Nat.lt_succ_of_lt (hl p hp)
      · rcases List.mem_cons.mp a with e | a <;> rcases List.mem_cons.mp b with e' | b
        · cases e; cases e'; rfl
        · cases e; exact absurd (hl _ b) (Nat.lt_irrefl _)
        · cases e'; exact absurd (hl _ a) (Nat.lt_irrefl _)
        · exact hi _ _ _ a b
    · rename_i hk
      rw [if_neg hk] at h2
      exact cells_inj hl hi h1 h2
theorem newEnv_comp {M : Model} {A : Around} {E : Value → Shared → Prop} {s : Shared} {scope : Scope} {globals : Addr} {closure : List (Str × Addr)} {qual : Str} {func : Option Addr} {code : Value} {around : Env} {builtins : Addr} {Q : Env → Shared → Prop}
    (h : Q (newEnv scope s.heap.objs.size globals (cellsFrom (s.heap.objs.size + 1) scope.names closure) qual func code (some around) builtins)
      { s with heap := pushCells (s.heap.push { cls := .type "dict", data := .dict #[] }) scope.names }) :
    wpAny M A (newFunctionEnv scope globals closure [] qual func code (some around) builtins) Q E s := by
  simp only [newFunctionEnv, Option.isSome_some, if_true]
  refine wpAny_bind (wpAny_alloc ?_)
  refine wpAny_bind (wpAny_layCells _ (fun n k c => rfl) scope.names closure _ _ ?_)
  rw [show ({ s with heap := s.heap.push { cls := .type "dict", data := .dict #[] } } : Shared).heap.objs.size = s.heap.objs.size + 1 from Heap.size_push ..]
  rw [List.forIn_nil]
  exact wpAny_bind (wpAny_pure (wpAny_pure h))
theorem lookup_relS {sc : Scope} : ∀ {names : List (Str × NameKind)} {x : Str} {k : NameKind},
    (names.map fun (n, k) => if (k == NameKind.free && sc.kind == .function && sc.names.lookup n == some .cell) then (n, NameKind.cell) else (n, k)).lookup x = some k →
    ∃ k', names.lookup x = some k' ∧ (k = k' ∨ (k' = .free ∧ k = .cell))
  | [], _, _, h => by simp at h
  | (n, k₀) :: r, x, k, h => by
    have ih := @lookup_relS sc r x k
    have h' : List.lookup x ((if (k₀ == NameKind.free && sc.kind == .function && sc.names.lookup n == some .cell) = true then (n, NameKind.cell) else (n, k₀)) :: (r.map _)) = some k := h
    cases hx : x == n with
    | true =>
      simp only [List.lookup_cons, hx]
      by_cases hc : (k₀ == NameKind.free && sc.kind == .function && sc.names.lookup n == some .cell) = true
      · rw [if_pos hc] at h'
        simp only [List.lookup_cons, hx] at h'
        cases h'
        simp only [Bool.and_eq_true, beq_iff_eq] at hc
        exact ⟨k₀, rfl, .inr ⟨hc.1.1, rfl⟩⟩
      · rw [if_neg hc] at h'
        simp only [List.lookup_cons, hx] at h'
        cases h'
        exact ⟨_, rfl, .inl rfl⟩
    | false =>
      simp only [List.lookup_cons, hx]
      by_cases hc : (k₀ == NameKind.free && sc.kind == .function && sc.names.lookup n == some .cell) = true
      · rw [if_pos hc] at h'
        simp only [List.lookup_cons, hx] at h'
        exact ih h'
      · rw [if_neg hc] at h'
        simp only [List.lookup_cons, hx] at h'
        exact ih h'
structure BlkOk (N : List Str) (sc scope : Scope) (own : List (Str × Nat)) : Prop where
  kind : scope.kind = .function
  uniq : ∀ y ∈ scope.names, scope.names.lookup y.1 = some y.2
  ix : ∀ p ∈ own, N[p.2]? = some p.1
  free : ∀ y ∈ scope.names, y.2 = .free → sc.names.lookup y.1 = some .cell ∨ sc.names.lookup y.1 = some .free
  own : ∀ y ∈ scope.names, y.2 = .local ∨ y.2 = .cell → y.1 ∈ own.map (·.1) ∨ y.1 ∉ N
def wipe (σ : St) : List Nat → St
  | [] => σ
  | v :: vs => (wipe σ vs).set v none
theorem wipe_length (σ : St) : ∀ vs : List Nat, (wipe σ vs).length = σ.length
  | [] => rfl
  | v :: vs => by unfold wipe; rw [List.length_set, wipe_length σ vs]
theorem wipe_some {σ : St} {i : Nat} {x : V} : ∀ {vs : List Nat}, (wipe σ vs)[i]? = some (some x) → σ[i]? = some (some x) ∧ i ∉ vs
  | [], h => ⟨h, by simp⟩
  | v :: vs, h => by
    unfold wipe at h
    by_cases hi : v = i
    · subst hi
      by_cases hv : v < (wipe σ vs).length
      · rw [List.getElem?_set_self hv] at h; cases h
      · rw [List.getElem?_eq_none (by simpa using hv)] at h; cases h
    · rw [List.getElem?_set_ne hi] at h
      obtain ⟨h1, h2⟩ := wipe_some h
      exact ⟨h1, by simp only [List.mem_cons, not_or]; exact ⟨fun e => hi e.symm, h2⟩⟩
abbrev Cx.blk (X : Cx) (s : Shared) (H : Hp) (scope : Scope) (cenv : Env) (fp : List Addr) : Cx := { X with s_0 := s, H_0 := H, env := cenv, outer := X.stack, ex := fp, fn := fun x => scope.names.lookup x == some .cell, pn := [], xe := fun _ _ => False }
section
variable {X : Cx} {pins : List (Addr × Obj)} {σ : St} {H : Hp} {s : Shared}
theorem block_start {scope : Scope} {own : List (Str × Nat)} {fp : List Addr} (I : Inv X pins σ H s) (ok : BlkOk X.N X.env.scope scope own) (hN : X.N.Nodup) (hfp : ∀ b ∈ fp, FpOk X pins H b ∧ b < s.heap.objs.size) :
    Inv (X.blk s H scope (compEnvC scope (cellsFrom (s.heap.objs.size + 1) scope.names (cloFrom X.env.cells scope.names [])) s.heap.objs.size X.env) fp) [] (wipe σ (own.map (·.2))) H { s with heap := pushCells (s.heap.push { cls := .type "dict", data := .dict #[] }) scope.names } := by
  have hfree : ∀ y ∈ scope.names, y.2 = .free → ∃ c, X.env.cells.lookup y.1 = some c := fun y hy e => by
    rcases ok.free y hy e with k | k
    · exact I.ok.has _ (.inl k)
    · exact I.ok.has _ (.inr k)
  generalize hcenv : compEnvC scope (cellsFrom (s.heap.objs.size + 1) scope.names (cloFrom X.env.cells scope.names [])) s.heap.objs.size X.env = cenv
  have kp : ∀ b o, s.heap.get? b = some o → (pushCells (s.heap.push { cls := .type "dict", data := .dict #[] }) scope.names).get? b = some o := fun b o e => pushCells_keeps _ _ _ _ (Heap.get?_push_of_some _ e)
  have hL : cenv.locals = s.heap.objs.size := by rw [← hcenv]; rfl
  have hcl : cenv.cells = cellsFrom (s.heap.objs.size + 1) scope.names (cloFrom X.env.cells scope.names []) := by rw [← hcenv]; rfl
  have hsc : cenv.scope = relS scope X.env.scope := by rw [← hcenv]; rfl
  rw [← Heap.size_push s.heap { cls := .type "dict", data := .dict #[] }] at hcl
  have cm : ∀ {y c}, (y, c) ∈ cloFrom X.env.cells scope.names [] → X.env.cells.lookup y = some c ∧ c < s.heap.objs.size := fun {y c} hm => by
    rcases cloFrom_mem hm with hm | ⟨h1, rfl⟩
    · cases hm
    · obtain ⟨c, hc⟩ := hfree _ h1 rfl
      rw [hc]
      obtain ⟨w, z⟩ := I.cell _ _ hc
      exact ⟨rfl, z.lt⟩
  have mem : ∀ {y c}, cenv.cells.lookup y = some c → (X.env.cells.lookup y = some c ∧ c < s.heap.objs.size) ∨ (s.heap.objs.size + 1 ≤ c ∧ CellAt (pushCells (s.heap.push { cls := .type "dict", data := .dict #[] }) scope.names) c none) := fun {y c} e => by
    rw [hcl] at e
    rcases cells_mem (PySem.mem_of_lookup e) with hm | ⟨_, h2, h3⟩
    · exact .inl (cm hm)
    · rw [Heap.size_push] at h2; exact .inr ⟨h2, h3⟩
  have look : ∀ {y}, scope.names.lookup y = some .free → ∃ c, cenv.cells.lookup y = some c ∧ X.env.cells.lookup y = some c := fun {y} hl => by
    have hy : (y, NameKind.free) ∈ scope.names := PySem.mem_of_lookup hl
    obtain ⟨c', e'⟩ := mem_lookup (cells_acc (names := scope.names) (n := (s.heap.push { cls := .type "dict", data := .dict #[] }).objs.size) (cloFrom_has (cells := X.env.cells) (acc := []) hy))
    rw [← hcl] at e'
    refine ⟨c', e', ?_⟩
    rw [hcl] at e'
    rcases cells_mem (PySem.mem_of_lookup e') with hm | ⟨h1, _, _⟩
    · exact (cm hm).1
    · have := ok.uniq _ h1
      rw [hl] at this; cases this
  have okB : (X.blk s H scope cenv fp).Ok := by
    refine ⟨I.ok.mod, by show cenv.scope.kind = _; rw [hsc]; exact ok.kind, by show cenv.globals = _; rw [← hcenv]; exact I.ok.glob, by show cenv.builtins = _; rw [← hcenv]; exact I.ok.blt, by show s.heap.objs.size ≤ cenv.locals; rw [hL]; exact Nat.le_refl _,
      fun y z c e1 e2 => ?_, fun y hy => ?_, fun y c z e => ?_, I.ok.hd, I.ok.frames, .inl rfl, fun b hb => ⟨?_, fun y c e z => ?_⟩, I.bs, Nat.le_trans I.ok.bsz I.sz, fun b o e hb => ?_, fun b hb z => ?_, I.stack, I.stkFree⟩
    · have e1 : cenv.cells.lookup y = some c := e1
      have e2 : cenv.cells.lookup z = some c := e2
      rw [hcl] at e1 e2
      refine cells_inj (fun p hp => ?_) (fun y z c a b => I.ok.inj y z c (cm a).1 (cm b).1) (PySem.mem_of_lookup e1) (PySem.mem_of_lookup e2)
      rw [Heap.size_push]
      exact Nat.lt_succ_of_lt (cm (y := p.1) (c := p.2) hp).2
    · show ∃ c, cenv.cells.lookup y = some c
      have key : ∀ k, cenv.kindOf y = some k → (k = .cell ∨ k = .free) → ∃ c, cenv.cells.lookup y = some c := fun k hk hk' => by
        unfold Env.kindOf at hk
        rw [hsc] at hk
        obtain ⟨k', e, r⟩ := lookup_relS hk
        have : k' = .cell ∨ k' = .free := by
          rcases r with rfl | ⟨rfl, _⟩
          · exact hk'
          · exact .inr rfl
        rcases this with rfl | rfl
        · obtain ⟨c, hm⟩ := cells_has (n := (s.heap.push { cls := .type "dict", data := .dict #[] }).objs.size) (acc := cloFrom X.env.cells scope.names []) (PySem.mem_of_lookup e)
          obtain ⟨c', e'⟩ := mem_lookup hm
          exact ⟨c', by rw [hcl]; exact e'⟩
        · obtain ⟨c, h1, _⟩ := look e
          exact ⟨c, h1⟩
      rcases hy with hy | hy
      · exact key _ hy (.inl rfl)
      · exact key _ hy (.inr rfl)
    · have z : (scope.names.lookup y == some NameKind.cell) = true := z
      have z : scope.names.lookup y = some .cell := by simpa using z
      have e : cenv.cells.lookup y = some c := e
      rw [hcl] at e
      rcases cells_mem (PySem.mem_of_lookup e) with hm | ⟨_, h2, _⟩
      · rcases cloFrom_mem hm with hm | ⟨h1, _⟩
        · cases hm
        · have q := ok.uniq _ h1
          rw [z] at q; cases q
      · rw [Heap.size_push] at h2
        exact Nat.le_of_succ_le h2
    · show b ≠ cenv.locals
      rw [hL]; exact Nat.ne_of_lt (hfp b hb).2
    · have e : cenv.cells.lookup y = some c := e
      rcases mem e with ⟨h1, _⟩ | ⟨h1, _⟩
      · exact (hfp b hb).1.2.2.2.2.1 y c h1 z
      · have h2 : s.heap.objs.size + 1 ≤ b := by rw [← z]; exact h1
        exact absurd (Nat.lt_of_lt_of_le (hfp b hb).2 (Nat.le_of_succ_le h2)) (Nat.lt_irrefl _)
    · rcases (hfp b hb).1.2.2.2.1 with z | z
      · exact I.ok.noex b o e z
      · exact absurd (Nat.lt_of_lt_of_le (Heap.lt_size e) (Nat.le_trans I.ok.bsz z)) (Nat.lt_irrefl _)
    · rcases List.mem_cons.mp (I.stkSub b z) with z | z
      · exact (hfp b hb).1.2.1 z
      · exact (hfp b hb).1.2.2.1 z
  refine ⟨okB, rfl, I.bare, Un.kept kp, ⟨fun _ => none, ?_, fun i y av e1 e2 e3 => ?_⟩, fun y c e => ?_, ?_, fun y c e => ?_, fun p hp => ?_, I.hok.kept kp, by rw [wipe_length]; exact I.len⟩
  · show Heap.Ns _ cenv.locals _
    rw [hL]
    exact Heap.Ns.keeps (Heap.Ns.new ..) fun b o e => pushCells_keeps _ _ _ _ e
  · obtain ⟨e2, hne⟩ := wipe_some e2
    have hfr : scope.names.lookup y = some .free ∧ (cenv.kindOf y = some .cell ∨ cenv.kindOf y = some .free) := by
      have key : ∀ k, cenv.scope.names.lookup y = some k → k = .local ∨ k = .cell ∨ k = .free → scope.names.lookup y = some .free ∧ (cenv.kindOf y = some .cell ∨ cenv.kindOf y = some .free) := fun k hk hk' => by
        have hk0 := hk
        rw [hsc] at hk
        obtain ⟨k', e, r⟩ := lookup_relS hk
        have no : ¬ (k' = .local ∨ k' = .cell) := fun hh => by
          rcases ok.own _ (PySem.mem_of_lookup e) hh with e' | e'
          · obtain ⟨p, hp, hpy⟩ := List.mem_map.mp e'
            have e3 := ok.ix p hp
            have : p.1 = y := hpy
            rw [this] at e3
            exact hne (List.mem_map.mpr ⟨p, hp, nodup_ix hN e3 e1⟩)
          · exact e' (List.mem_of_getElem? e1)
        rcases r with rfl | ⟨rfl, rfl⟩
        · rcases hk' with rfl | rfl | rfl
          · exact absurd (.inl rfl) no
          · exact absurd (.inr rfl) no
          · exact ⟨e, .inr hk0⟩
        · exact ⟨e, .inl hk0⟩
      have e3 : Vis cenv.scope y := e3
      rcases e3 with e3 | e3 | e3
      · exact key _ e3 (.inl rfl)
      · exact key _ e3 (.inr (.inl rfl))
      · exact key _ e3 (.inr (.inr rfl))
    obtain ⟨m, hn, hl⟩ := I.loc
    have hvis : Vis X.env.scope y := (ok.free _ (PySem.mem_of_lookup hfr.1) rfl).elim (fun k => .inr (.inl k)) (fun k => .inr (.inr k))
    obtain ⟨w, r, q⟩ := hl i y av e1 e2 hvis
    refine ⟨w, r, .inr ⟨hfr.2, ?_⟩⟩
    obtain ⟨c, h1, h2⟩ := look hfr.1
    rcases q with ⟨k, _⟩ | ⟨_, c', e', z⟩
    · have k : X.env.scope.names.lookup y = some .local := k
      rcases ok.free _ (PySem.mem_of_lookup hfr.1) rfl with k' | k' <;> rw [show X.env.scope.names.lookup y = _ from k'] at k <;> cases k
    · rw [h2] at e'; cases e'
      exact ⟨c, h1, z.keeps kp⟩
  · have e : cenv.cells.lookup y = some c := e
    rcases mem e with ⟨h1, _⟩ | ⟨_, z⟩
    · obtain ⟨w, z⟩ := I.cell y c h1
      exact ⟨w, z.keeps kp⟩
    · exact ⟨_, z⟩
  · show H cenv.locals = none
    rw [hL]; exact I.hok.fresh (Nat.le_refl _)
  · have e : cenv.cells.lookup y = some c := e
    rcases mem e with ⟨h1, _⟩ | ⟨h1, _⟩
    · exact I.freeC y c h1
    · exact I.hok.fresh (Nat.le_of_succ_le h1)
  · exact absurd (show p ∈ ([] : List (Addr × Obj)) ++ [] from hp) (by simp)
theorem app_ok {E : Value → Shared → Prop} {D : Addr} {xs : List V} {y : V} {v : Value} {Q : Value → Shared → Prop} (I : Inv X pins σ H s) (hD : H D = some (.lst xs)) (hz : xs.length < sizeLine) (r : RelV y v)
    (h : ∀ s', Inv X pins σ (upd H D (.lst (xs ++ [y]))) s' → Q .none s') : wpAny (model X.prog X.w) X.A (call (.builtin "list.append") [.ref D, v]) Q E s := by
  obtain ⟨hz', its, n, ri, e⟩ := I.hok D _ hD
  have hl := ri.length
  refine append_at (hsz := by rw [List.size_toArray]; omega) e fun h' sb ho' => ?_
  refine h { s with heap := h' } (I.write (t' := s.toks) (by rw [hD]; trivial) (.inl rfl) (fun b u hb q => (sb.2 b hb).trans q) ⟨_, ho'⟩ ⟨by rw [List.length_append]; exact hz, its ++ [v], n + 1, ri.append (.cons r .nil), ?_⟩)
  rw [ho']
  simp
def PTs (X : Cx) (ifs : List Expr) (t : TT) : Prop :=
  ∀ (pins : List (Addr × Obj)) (s : Shared) (σ : St) (H : Hp) (Q : Bool → Hp → Prop), Inv X pins σ H s → t σ H Q →
    wpAny (model X.prog X.w) X.A (forIn ifs true fun c r => if r = true then do let ok ← isTrue c X.env (eval c X.env); pure (ForInStep.yield ok) else pure (ForInStep.yield r)) (TP X pins σ Q) X.xe s
def tYes : TT := fun _ H Q => Q true H
theorem pts_nil : PTs X [] tYes := fun _ _ _ H _ I h => wpAny_tests_nil ⟨H, I, h⟩
theorem pts_one {c : Expr} {t : TT} (h : PT X c t) : PTs X [c] t := fun pins s σ H Q I hw => wpAny_tests_one (h pins s σ H Q I hw)
end
theorem thnF {α : Type} {t : Sem α} {Q Q' : α → Shared → Prop} {M : Model} {A : Around} {E : Value → Shared → Prop} {s : Shared} (h : wpAny M A t Q (fun _ _ => False) s) (hQ : ∀ a s, Q a s → Q' a s) : wpAny M A t Q' E s := wpAny_mono h hQ fun _ _ z => False.elim z
theorem compLoop_any {prog : Program} {w : World} {A : Around} {R : Result → Shared → Prop} {s : Shared} {elt target iter : Expr} {ifs : List Expr} {scope : Scope} {pos : Pos} {it acc : Value} {env : Env} (I : Nat → Shared → Prop)
    (turn : ∀ n s, I n s → wpAny (model prog w) A (pyNext it) (fun r s₁ => match r with
      | none => R (.ok .next) s₁
      | some v => wpAny (model prog w) A (letOwnedTupleGo target it v) (fun _ s₁' => wpAny (model prog w) A (assign target env v) (fun _ s₂ =>
          wpAny (model prog w) A (forIn ifs true fun c r => if r = true then do let ok ← isTrue c env (eval c env); pure (ForInStep.yield ok) else pure (ForInStep.yield r)) (fun ok s₃ =>
            if ok = true then wpAny (model prog w) A (eval elt env) (fun x s₄ =>
              wpAny (model prog w) A (call (.builtin "list.append") [acc, x]) (fun _ s₅ => ∃ m, m < n ∧ I m s₅) (notedBy (model prog w) A env fun e s' => R (.error e) s') s₄) (notedBy (model prog w) A env fun e s' => R (.error e) s') s₃
            else ∃ m, m < n ∧ I m s₃) (notedBy (model prog w) A env fun e s' => R (.error e) s') s₂) (notedBy (model prog w) A env fun e s' => R (.error e) s') s₁') (notedBy (model prog w) A env fun e s' => R (.error e) s') s₁) (notedBy (model prog w) A env fun e s' => R (.error e) s') s)
    (n : Nat) (h : I n s) :
    codeAny (model prog w) A (.compLoop (.ListComp elt [⟨target, iter, ifs, 0⟩] scope pos) 0 it acc env) R s := by
  refine codeAny_loop rfl I (fun n s hI => ?_) n h
  show wpAny _ A ((compTurn (.ListComp elt [⟨target, iter, ifs, 0⟩] scope pos) 0 it acc env).onRaise (fun x => do noteFrame x env; theTreesLotGoes x)) _ _ s
  refine wpAny_noted ?_
  rw [compTurn_list]
  refine wpAny_bind (wpAny_standAt (wpAny_bind (wpAny_mono (turn n s hI) (fun r s₁ h₁ => ?_) fun _ _ h' => h')))
  cases r with
  | none => exact wpAny_pure h₁
  | some v =>
    refine wpAny_bind (wpAny_mono h₁ (fun _ s₁' h₁' => ?_) fun _ _ h' => h')
    refine wpAny_bind (wpAny_mono h₁' (fun _ s₂ h₂ => wpAny_bind (wpAny_mono h₂ (fun ok s₃ h₃ => ?_) fun _ _ h' => h')) fun _ _ h' => h')
    cases ok with
    | false => exact wpAny_pure ⟨rfl, h₃⟩
    | true =>
      exact wpAny_bind (wpAny_bind (wpAny_mono h₃ (fun x s₄ h₄ => wpAny_bind (wpAny_mono h₄ (fun _ s₅ h₅ => wpAny_pure (wpAny_pure ⟨rfl, h₅⟩)) fun _ _ h' => h')) fun _ _ h' => h'))
section
variable {X : Cx}
def tLc (wi : TI) (g : TG) (tt : TT) (te : TE) (vs : List Nat) : TE := fun σ H Q => wi σ H fun J H1 => ∀ D, H1 D = none → ∃ W : Nat → Nat → Hp → Prop, (∃ m, W 0 m (upd H1 D (.lst []))) ∧ ∀ i m H, W i m H →
  (J.stop i H ∧ Q (.ref D) H) ∨ (J.go i H ∧ ∃ Nx : Hp → Prop, (∀ H', Nx H' → ∃ m', m' < m ∧ W (i + 1) m' H') ∧ ∀ x H', J.yld i H x H' → g x (wipe σ vs) H' fun σ2 H2 => wipe σ2 vs = wipe σ vs ∧ tt σ2 H2 fun b H3 =>
    if b = true then te σ2 H3 fun y H4 => ∃ acc, H4 D = some (.lst acc) ∧ acc.length < sizeLine ∧ Nx (upd H4 D (.lst (acc ++ [y]))) else Nx H3)
theorem lc_core {pins : List (Addr × Obj)} {s : Shared} {σ : St} {H : Hp} {Q : VK} {elt tg iter : Expr} {ifs : List Expr} {scope : Scope} {own : List (Str × Nat)} {pos pos' : Pos} {wi : TI} {g : TG} {tt : TT} {te : TE} {use : Option (Value → Sem Unit)} {Qf : Value → Shared → Prop}
    (hc : X.calm = true) (hN : X.N.Nodup) (I : Inv X pins σ H s) (hi : PI X tg iter wi) (ok : BlkOk X.N X.env.scope scope own)
    (hg : ∀ (s : Shared) (H : Hp) (C : Addr) (cl : List (Str × Addr)) (fp : List Addr), PG (X.blk s H scope (compEnvC scope cl C X.env) fp) tg g) (ht : ∀ (s : Shared) (H : Hp) (C : Addr) (cl : List (Str × Addr)) (fp : List Addr), PTs (X.blk s H scope (compEnvC scope cl C X.env) fp) ifs tt)
    (he : ∀ (s : Shared) (H : Hp) (C : Addr) (cl : List (Str × Addr)) (fp : List Addr), PE (X.blk s H scope (compEnvC scope cl C X.env) fp) elt te) (hs : ∀ x, foldedSetIterable iter X.env x = pure x)
    (h : tLc wi g tt te (own.map (·.2)) σ H Q)
    (hRR : ∀ D C s' m H', Inv X pins σ H' s' → Q (.ref D) H' → s'.heap.Ns C m → FpOk X pins H' C → compPost (model X.prog X.w) X.A X.xe use Qf (.ref D) C (.ok .next) s') :
    wpAny (model X.prog X.w) X.A (comprehension (.ListComp elt [⟨tg, iter, ifs, 0⟩] scope pos) scope X.env pos' (newList []) false (eval iter X.env) use) Qf X.xe s := by
  have hfree : ∀ y ∈ scope.names, y.2 = .free → ∃ c, X.env.cells.lookup y.1 = some c := fun y hy e => by
    rcases ok.free y hy e with k | k
    · exact I.ok.has _ (.inl k)
    · exact I.ok.has _ (.inr k)
  refine wpAny_comprehension_free (use := use) rfl hs (closure_ok hfree) ok.kind (fun y hy e => by rw [ok.uniq y hy, e])
    (thn (hi pins s σ H _ I h) fun xv s1 hx => thn hx fun itv s2 h2 => ?_)
  obtain ⟨it, fp, tn, J, H2, e, I2, T, st2, f2, q⟩ := h2
  subst e
  refine wpAny_newObj_type (newEnv_comp ?_) (by show 0 ≤ sizeLine; decide)
  generalize hD : s2.heap.objs.size = D
  have hDn : H2 D = none := I2.hok.fresh (Nat.le_of_eq hD)
  obtain ⟨W, ⟨m0, w0⟩, turn⟩ := q D hDn
  -- the new list
  generalize hs3 : ({ s2 with heap := s2.heap.push { cls := .type "list", data := .seq ([] : List Value).toArray } } : Shared) = s3
  have I3 : Inv X pins σ (upd H2 D (.lst [])) s3 := by
    rw [← hs3]
    refine I2.laid (t' := s2.toks) (fun b o e => Heap.get?_push_of_some _ e) (Nat.le_of_eq hD) ⟨Nat.zero_le _, [], 0, .nil, ?_⟩
    rw [← hD]
    exact Heap.get?_push_size _ rfl
  have h3 : s3.heap = s2.heap.push { cls := .type "list", data := .seq ([] : List Value).toArray } := by rw [← hs3]
  have sz : ∀ b ∈ fp, b < s2.heap.objs.size := fun b hb => by
    obtain ⟨o, e, _⟩ := T.obj _ _ st2 b hb
    exact Heap.lt_size e
  have f3 : ∀ b ∈ fp, FpOk X pins (upd H2 D (.lst [])) b ∧ b < s3.heap.objs.size := fun b hb => by
    have hlt := sz b hb
    refine ⟨⟨?_, (f2 b hb).2⟩, by rw [h3, Heap.size_push]; exact Nat.lt_succ_of_lt hlt⟩
    rw [upd_ne (by rw [← hD]; exact Nat.ne_of_lt hlt)]
    exact (f2 b hb).1
  have st3 : tn 0 s3.heap := T.keep _ _ _ st2 fun b _ o e => by rw [h3]; exact Heap.get?_push_of_some _ e
  have I4 := block_start I3 ok hN f3
  have pg := hg s3 (upd H2 D (.lst [])) s3.heap.objs.size (cellsFrom (s3.heap.objs.size + 1) scope.names (cloFrom X.env.cells scope.names [])) fp
  have pt := ht s3 (upd H2 D (.lst [])) s3.heap.objs.size (cellsFrom (s3.heap.objs.size + 1) scope.names (cloFrom X.env.cells scope.names [])) fp
  have pe := he s3 (upd H2 D (.lst [])) s3.heap.objs.size (cellsFrom (s3.heap.objs.size + 1) scope.names (cloFrom X.env.cells scope.names [])) fp
  show codeAny _ _ (.compStart (.ListComp elt [⟨tg, iter, ifs, 0⟩] scope pos) 0 (.ref it) (.ref D) (compEnvC scope (cellsFrom (s3.heap.objs.size + 1) scope.names (cloFrom X.env.cells scope.names [])) s3.heap.objs.size X.env)) (compPost (model X.prog X.w) X.A X.xe use Qf (.ref D) s3.heap.objs.size) { s3 with heap := pushCells (s3.heap.push { cls := .type "dict", data := .dict #[] }) scope.names }
  have nfp : ∀ b ∈ fp, (upd H2 D (.lst [])) b = none := fun b hb => (f3 b hb).1.1
  generalize hce : compEnvC scope (cellsFrom (s3.heap.objs.size + 1) scope.names (cloFrom X.env.cells scope.names [])) s3.heap.objs.size X.env = ce at I4 pg pt pe ⊢
  have cL : ce.locals = s3.heap.objs.size := by subst hce; rfl
  generalize hH3 : upd H2 D (.lst []) = H3 at I3 I4 pg pt pe w0 nfp f3
  generalize hs4 : ({ s3 with heap := pushCells (s3.heap.push { cls := .type "dict", data := .dict #[] }) scope.names } : Shared) = s4 at I4 ⊢
  have st4 : tn 0 s4.heap := T.keep _ _ _ st3 fun b _ o e => by rw [← hs4]; exact pushCells_keeps _ _ _ _ (Heap.get?_push_of_some _ e)
  have stat : ∀ {σ' : St} {H' : Hp} {s' : Shared}, Inv (X.blk s3 H3 scope ce fp) [] σ' H' s' → (∀ b ∈ fp, H' b = none) → ∀ b ∈ fp, FpOk (X.blk s3 H3 scope ce fp) [] H' b := fun {σ' H' s'} I' hn b hb =>
    ⟨hn b hb, (I'.ok.exf b hb).1, I'.ok.exfs b hb, .inl hb, fun x c e => (I'.ok.exf b hb).2 x c e, fun p hp => absurd (show p ∈ ([] : List (Addr × Obj)) ++ [] from hp) (by simp)⟩
  have loop : codeAny (model X.prog X.w) X.A (.compLoop (.ListComp elt [⟨tg, iter, ifs, 0⟩] scope pos) 0 (.ref it) (.ref D) ce) (compPost (model X.prog X.w) X.A X.xe use Qf (.ref D) s3.heap.objs.size) s4 := by
    refine compLoop_any (fun n s' => ∃ i H', Inv (X.blk s3 H3 scope ce fp) [] (wipe σ (own.map (·.2))) H' s' ∧ tn i s'.heap ∧ (∀ b ∈ fp, H' b = none) ∧ W i n H') ?_ m0 ⟨0, H3, I4, st4, nfp, w0⟩
    rintro n s5 ⟨i, H5, I5, st5, n5, w5⟩
    rcases turn i n H5 w5 with ⟨stop, qq⟩ | ⟨go, Nx, hNx, step⟩
    · have td := T.done (X.blk s3 H3 scope ce fp) rfl rfl rfl hc i [] s5 _ H5 (fun _ _ => False) I5 (stat I5 n5) st5 stop
      refine thnF td fun r s6 ⟨hr, I6⟩ => ?_
      subst hr
      -- back in the def's context
      have I7 : Inv X pins σ H5 s6 := I3.call' (ch := fp) I6.os I6.base I6.hok I6.bare fun b hb => ⟨(f3 b hb).1.2.2.2.1, (f3 b hb).1.2.1, (f3 b hb).1.2.2.2.2.1, (f3 b hb).1.2.2.2.2.2⟩
      have nC : H5 s3.heap.objs.size = none := by
        have z : H5 ce.locals = none := I6.free
        rw [cL] at z
        exact z
      obtain ⟨m, hn, _⟩ := I6.loc
      have hn : s6.heap.Ns ce.locals m := hn
      rw [cL] at hn
      exact hRR D s3.heap.objs.size s6 m H5 I7 qq hn (I3.fpOk (Nat.le_refl _) nC)
    · have ti := T.item (X.blk s3 H3 scope ce fp) rfl rfl rfl hc i [] s5 _ H5 (fun _ _ => False) I5 (stat I5 n5) st5 go
      refine thnF ti fun r s6 ⟨u, hr, h6⟩ => ?_
      subst hr
      refine thnF h6 fun _ s7 ⟨x, H7, I7, r7, y7, st7, n7⟩ => ?_
      have I7' := I7.pinned (stat I7 n7) (T.obj _ _ st7)
      refine thnF (pg _ s7 _ H7 x u _ I7' r7 (step x H7 y7)) fun _ s8 ⟨σ8, H8, I8, hw8, q8⟩ => ?_
      refine thnF (pt _ s8 σ8 H8 _ I8 q8) fun b s9 ⟨H9, I9, q9⟩ => ?_
      -- the turn's end
      have fin : ∀ {s' : Shared} {H' : Hp}, Inv (X.blk s3 H3 scope ce fp) ([] ++ pinsAt fp s7.heap) σ8 H' s' → Nx H' → ∃ m, m < n ∧ ∃ i H', Inv (X.blk s3 H3 scope ce fp) [] (wipe σ (own.map (·.2))) H' s' ∧ tn i s'.heap ∧ (∀ b ∈ fp, H' b = none) ∧ W i m H' := fun {s' H'} I' nx => by
        obtain ⟨m', hm, w'⟩ := hNx H' nx
        have pin' : ∀ b ∈ fp, ∀ o, s7.heap.get? b = some o → s'.heap.get? b = some o ∧ H' b = none := fun b hb o e =>
          let z := I'.pin (b, o) (List.mem_append_right _ (List.mem_append_right _ (mem_pinsAt hb e)))
          ⟨z.1, z.2.1⟩
        have hl : (wipe σ (own.map (·.2))).length = σ8.length := by rw [← hw8, wipe_length]
        refine ⟨m', hm, i + 1, H', (I'.unpinned (pins := [])).weak hl (fun j v e => ?_), T.keep _ _ _ st7 fun b hb o e => (pin' b hb o e).1, fun b hb => ?_, w'⟩
        · rw [← hw8] at e
          exact (wipe_some e).1
        · obtain ⟨o, e, _⟩ := T.obj _ _ st7 b hb
          exact (pin' b hb o e).2
      cases b with
      | false =>
        simp only [Bool.false_eq_true, if_false] at q9 ⊢
        exact fin I9 q9
      | true =>
        simp only [if_true] at q9 ⊢
        refine thnF (pe _ s9 σ8 H9 _ I9 q9) fun z s10 ⟨yv, H10, I10, r10, acc, hD10, hz10, nx⟩ => ?_
        exact app_ok (X := X.blk s3 H3 scope ce fp) I10 hD10 hz10 r10 fun s11 I11 => fin I11 nx
  exact codeAny_compStart_list loop (T.self X.A 0 _ _ _ st4 loop)
theorem pe_lc {elt tg iter : Expr} {ifs : List Expr} {scope : Scope} {own : List (Str × Nat)} {pos : Pos} {wi : TI} {g : TG} {tt : TT} {te : TE} (hc : X.calm = true) (hN : X.N.Nodup) (hi : PI X tg iter wi) (ok : BlkOk X.N X.env.scope scope own)
    (hg : ∀ (s : Shared) (H : Hp) (C : Addr) (cl : List (Str × Addr)) (fp : List Addr), PG (X.blk s H scope (compEnvC scope cl C X.env) fp) tg g) (ht : ∀ (s : Shared) (H : Hp) (C : Addr) (cl : List (Str × Addr)) (fp : List Addr), PTs (X.blk s H scope (compEnvC scope cl C X.env) fp) ifs tt)
    (he : ∀ (s : Shared) (H : Hp) (C : Addr) (cl : List (Str × Addr)) (fp : List Addr), PE (X.blk s H scope (compEnvC scope cl C X.env) fp) elt te) (hs : ∀ x, foldedSetIterable iter X.env x = pure x := by intro _; rfl) :
    PE X (.ListComp elt [⟨tg, iter, ifs, 0⟩] scope pos) (tLc wi g tt te (own.map (·.2))) := by
  intro pins s σ H Q I h
  rw [eval_ListComp]
  refine lc_core hc hN I hi ok hg ht he hs h fun D C s' m H' I' q hn f => ⟨m, hn, fun h'' sb => ?_⟩
  obtain ⟨f0, f1, f2, f3, f4, f5⟩ := f
  exact ⟨.ref D, H', I'.turned (t' := s'.toks) (fun b o hb e => (sb.2 b hb).trans e) f0 f1 f3 f4 f5, rfl, q⟩
theorem ps_setLc {i : Nat} {y : Str} {py : Pos} {elt tg iter : Expr} {ifs : List Expr} {scope : Scope} {own : List (Str × Nat)} {pos spos : Pos} {wi : TI} {g : TG} {tt : TT} {te : TE} (hc : X.calm = true) (hN : X.N.Nodup) (hy : X.N[i]? = some y) (hyl : X.env.scope.names.lookup y = some .local)
    (hsw : swapsWith (.ListComp elt [⟨tg, iter, ifs, 0⟩] scope pos) (some (.Name y py)) spos.line X.env = pure true) (hi : PI X tg iter wi) (ok : BlkOk X.N X.env.scope scope own)
    (hg : ∀ (s : Shared) (H : Hp) (C : Addr) (cl : List (Str × Addr)) (fp : List Addr), PG (X.blk s H scope (compEnvC scope cl C X.env) fp) tg g) (ht : ∀ (s : Shared) (H : Hp) (C : Addr) (cl : List (Str × Addr)) (fp : List Addr), PTs (X.blk s H scope (compEnvC scope cl C X.env) fp) ifs tt)
    (he : ∀ (s : Shared) (H : Hp) (C : Addr) (cl : List (Str × Addr)) (fp : List Addr), PE (X.blk s H scope (compEnvC scope cl C X.env) fp) elt te) (hs : ∀ x, foldedSetIterable iter X.env x = pure x := by intro _; rfl) :
    PS X (.Assign [.Name y py] (.ListComp elt [⟨tg, iter, ifs, 0⟩] scope pos) spos) (tAsg (tLc wi g tt te (own.map (·.2))) (gName i)) := by
  intro pins s σ H D I h
  rw [exec_Assign_Name_used _ _ _ _ hsw]
  refine wpAny_bind (wpAny_standAt (wpAny_bind ?_))
  show wpAny _ X.A (do let _ ← comprehension (.ListComp elt [⟨tg, iter, ifs, 0⟩] scope pos) scope X.env (firstIterPos [⟨tg, iter, ifs, 0⟩] pos) (newList []) false (eval iter X.env) (some (assign (.Name y py) X.env))) _ _ s
  have h : tLc wi g tt te (own.map (·.2)) σ H (fun x H1 => gName i x σ H1 D.nx) := h
  refine wpAny_bind (thn (lc_core (Qf := fun _ s' => SP X pins D .next s') hc hN I hi ok hg ht he hs h fun L C s' m H' I' q hn f => ?_) fun _ s' hq => wpAny_pure (wpAny_pure hq))
  show wpAny _ _ (assign (.Name y py) X.env (.ref L)) _ _ _
  refine wpAny_assign_Name (store_ok2 (v := V.ref L) I' hN hy (.inl hyl) rfl (fun s2 I2 ⟨a, sb, ha⟩ => ?_) (.inr hyl))
  obtain ⟨f0, f1, f2, f3, f4, f5⟩ := f
  have haC : C ≠ a := by
    rcases ha with z | z
    · rw [z]; exact f1
    · exact fun e => f4 y a z e.symm
  refine ⟨m, hn.sameBut sb haC, fun h3 sb3 => ?_⟩
  exact ⟨_, H', I2.turned (t' := s2.toks) (fun b o hb e => (sb3.2 b hb).trans e) f0 f1 f3 f4 f5, q⟩
theorem sw_true {elt : Expr} {gs : List Comprehension} {scope : Scope} {pos py : Pos} {y : Str} {l : Nat} {env : Env} (hk : env.scope.kind = .function) (hy : env.scope.names.lookup y = some .local) (hl : (py.line == pos.line) = true)
    (ha : (scope.names.any fun (n, k) => n == y && (k == .local || k == .cell)) = false) : swapsWith (.ListComp elt gs scope pos) (some (.Name y py)) l env = pure true := by
  have ky : env.kindOf y = some .local := hy
  have hb : env.blockKind = .function := by unfold Env.blockKind; rw [hk]; rfl
  unfold swapsWith
  simp only [hb, ky, ha, Expr.pos, hl]
  rfl
end
theorem lc_range {lo : Int} {n : Nat} {g : TG} {tt : TT} {te : TE} {vs : List Nat} {σ : St} {H1 : Hp} {D : Addr} {Qd : Hp → Prop} (Pv : Nat → Hp → Prop) (h0 : Pv 0 (upd H1 D (.lst [])))
    (hs : ∀ i H, i < n → Pv i H → g (.int (lo + i)) (wipe σ vs) H fun σ2 H2 => wipe σ2 vs = wipe σ vs ∧ tt σ2 H2 fun b H3 =>
      if b = true then te σ2 H3 fun y H4 => ∃ acc, H4 D = some (.lst acc) ∧ acc.length < sizeLine ∧ Pv (i + 1) (upd H4 D (.lst (acc ++ [y]))) else Pv (i + 1) H3) (hd : ∀ H, Pv n H → Qd H) :
    ∃ W : Nat → Nat → Hp → Prop, (∃ m, W 0 m (upd H1 D (.lst []))) ∧ ∀ i m H, W i m H →
      ((Itr lo n).stop i H ∧ Qd H) ∨ ((Itr lo n).go i H ∧ ∃ Nx : Hp → Prop, (∀ H', Nx H' → ∃ m', m' < m ∧ W (i + 1) m' H') ∧ ∀ x H', (Itr lo n).yld i H x H' → g x (wipe σ vs) H' fun σ2 H2 => wipe σ2 vs = wipe σ vs ∧ tt σ2 H2 fun b H3 =>
        if b = true then te σ2 H3 fun y H4 => ∃ acc, H4 D = some (.lst acc) ∧ acc.length < sizeLine ∧ Nx (upd H4 D (.lst (acc ++ [y]))) else Nx H3) := by
  refine ⟨fun i m H => m = n - i ∧ i ≤ n ∧ Pv i H, ⟨n, by simp, Nat.zero_le _, h0⟩, ?_⟩
  rintro i m H ⟨rfl, hi, p⟩
  by_cases hlt : i < n
  · refine .inr ⟨hlt, Pv (i + 1), fun H' p' => ⟨n - (i + 1), by omega, rfl, hlt, p'⟩, fun x H' y => ?_⟩
    obtain ⟨e, y⟩ := y
    subst e y
    exact hs i _ hlt p
  · have e : i = n := by omega
    subst e
    exact .inl ⟨Nat.le_refl _, hd H p⟩
theorem lc_list {K : PySem.W.Frag} {a : Addr} {xs : List V} {g : TG} {tt : TT} {te : TE} {vs : List Nat} {σ : St} {H1 : Hp} {D : Addr} {Qd : Hp → Prop} (Pv : Nat → Hp → Prop) (h0 : Pv 0 (upd H1 D (.lst []))) (hl : ∀ i H, i ≤ xs.length → Pv i H → SqL K H a xs)
    (hs : ∀ i x H, xs[i]? = some x → Pv i H → g x (wipe σ vs) H fun σ2 H2 => wipe σ2 vs = wipe σ vs ∧ tt σ2 H2 fun b H3 =>
      if b = true then te σ2 H3 fun y H4 => ∃ acc, H4 D = some (.lst acc) ∧ acc.length < sizeLine ∧ Pv (i + 1) (upd H4 D (.lst (acc ++ [y]))) else Pv (i + 1) H3) (hd : ∀ H, Pv xs.length H → Qd H) :
    ∃ W : Nat → Nat → Hp → Prop, (∃ m, W 0 m (upd H1 D (.lst []))) ∧ ∀ i m H, W i m H →
      ((Itl K a).stop i H ∧ Qd H) ∨ ((Itl K a).go i H ∧ ∃ Nx : Hp → Prop, (∀ H', Nx H' → ∃ m', m' < m ∧ W (i + 1) m' H') ∧ ∀ x H', (Itl K a).yld i H x H' → g x (wipe σ vs) H' fun σ2 H2 => wipe σ2 vs = wipe σ vs ∧ tt σ2 H2 fun b H3 =>
        if b = true then te σ2 H3 fun y H4 => ∃ acc, H4 D = some (.lst acc) ∧ acc.length < sizeLine ∧ Nx (upd H4 D (.lst (acc ++ [y]))) else Nx H3) := by
  refine ⟨fun i m H => m = xs.length - i ∧ i ≤ xs.length ∧ Pv i H, ⟨xs.length, by simp, Nat.zero_le _, h0⟩, ?_⟩
  rintro i m H ⟨rfl, hi, p⟩
  have q := hl i H hi p
  by_cases hlt : i < xs.length
  · refine .inr ⟨⟨xs, xs[i], q, by simp [hlt]⟩, Pv (i + 1), fun H' p' => ⟨xs.length - (i + 1), by omega, rfl, hlt, p'⟩, fun x H' y => ?_⟩
    obtain ⟨e, y⟩ := y
    subst e
    exact hs i x _ (y xs q) p
  · have e : i = xs.length := by omega
    subst e
    exact .inl ⟨⟨xs, q, Nat.le_refl _⟩, hd H p⟩
def blkC (N : List Str) (sc scope : Scope) (own : List (Str × Nat)) : Bool :=
  (match scope.kind with | .function => true | _ => false) && (scope.names.all fun y => decide (scope.names.lookup y.1 = some y.2)) && (own.all fun p => decide (N[p.2]? = some p.1)) &&
    (scope.names.all fun y => match y.2 with
      | .free => (match sc.names.lookup y.1 with | some .cell => true | some .free => true | _ => false)
      | .local => decide (y.1 ∈ own.map (·.1)) || decide (y.1 ∉ N)
      | .cell => decide (y.1 ∈ own.map (·.1)) || decide (y.1 ∉ N)
      | _ => true)
theorem blkOk_by {N : List Str} {sc scope : Scope} {own : List (Str × Nat)} (h : blkC N sc scope own = true) : BlkOk N sc scope own := by
  unfold blkC at h
  simp only [Bool.and_eq_true, List.all_eq_true, decide_eq_true_eq] at h
  obtain ⟨⟨⟨h1, h2⟩, h3⟩, h4⟩ := h
  refine ⟨?_, h2, h3, fun y hy e => ?_, fun y hy e => ?_⟩
  · split at h1
    · assumption
    · cases h1
  · have q := h4 y hy
    simp only [e] at q
    split at q <;> first | exact .inl (by assumption) | exact .inr (by assumption) | cases q
  · have q := h4 y hy
    rcases e with e | e <;> (simp only [e, Bool.or_eq_true, decide_eq_true_eq] at q; exact q)
end L2
namespace L2
open PySem PySem.Spec PyProof.Rows
section
variable {prog : Program} {w : World} {A : Around} {R : Result → Shared → Prop} {s : Shared} {elt t0 i0 t1 i1 : Expr} {ifs0 ifs1 : List Expr} {scope : Scope} {pos : Pos} {it acc : Value} {env : Env}
end
section
variable {X : Cx}
end
end L2
namespace L2
open PySem PySem.Spec PyProof.Rows
section
variable {κ : Type} [DecidableEq κ]
end
section
variable {P : Program} {w : World} {H : Hp} {h : Heap} {a : Addr}
end
section
variable {X : Cx} {pins : List (Addr × Obj)} {σ : St} {H : Hp} {s : Shared} {a : Addr} {y v : V} {u r : Value} {o : Option V} {A : Around} {E : Value → Shared → Prop}
end
section
variable {X : Cx} {pins : List (Addr × Obj)} {σ : St} {H : Hp} {s : Shared} {a : Addr} {kvs : List (Key × V)} {k : Key} {u : Value} {A : Around} {E : Value → Shared → Prop}
end
def NoSl (i : Expr) : Prop := ∀ ov iv, subscripted i false ov iv = operate [ov, iv] (getItem ov iv)
theorem subD_of {prog : Program} {w : World} {A : Around} {E : Value → Shared → Prop} {s : Shared} {env : Env} {value slice : Expr} {pos : Pos} {T id : String} {Q : Value → Shared → Prop}
    (hl : typeLookup (.type T) "__getitem__" = pure (some (.builtin id))) (hs : NoSl slice)
    (h : wpAny (model prog w) A (eval value env) (fun o s₁ => wpAny (model prog w) A (eval slice env) (fun i s₂ => s₂.TypeIs o T ∧ wpAny (model prog w) A (getItem o i) Q E s₂) E s₁) E s) :
    wpAny (model prog w) A (eval (.Subscript value slice pos) env) Q E s := by
  refine Subscript_ (wpAny_mono h (fun o s₁ h₁ => wpAny_mono h₁ (fun i s₂ h₂ => ?_) fun _ _ x => x) fun _ _ x => x)
  obtain ⟨hT, h₂⟩ := h₂
  unfold subscriptTail
  refine wpAny_bind ?_
  rw [getitemInPython_of_ne hT.not_modules]
  refine wpAny_bind (wpAny_specialOf hT hl ?_)
  have fin : wpAny (model prog w) A (subscripted slice false o i) (fun r s₃ => wpAny (model prog w) A (letTemporaryGo value o r >>= fun _ => pure r) Q E s₃) E s₂ := by
    rw [hs o i]
    exact wpAny_operating (wpAny_mono h₂ (fun r s₃ h₃ => wpAny_bind (wpAny_letTemporaryGo (wpAny_pure h₃))) fun _ _ x => x)
  first
    | exact wpAny_pure (wpAny_bind fin)
    | exact wpAny_bind (wpAny_pure (wpAny_bind fin))
    | exact wpAny_bind fin
section
variable {X : Cx} {o i e value : Expr} {pos pos' tpos : Pos} {td ty tv : TE}
end
section
variable {X : Cx} {pos : Pos}
end
section
variable {X : Cx} {pins : List (Addr × Obj)} {σ : St} {H : Hp} {s : Shared} {a : Addr} {y d : V} {u r : Value} {o : Option V} {A : Around} {E : Value → Shared → Prop}
end
section
variable {X : Cx} {o e f : Expr} {apos cpos : Pos} {td ty tx : TE}
end
section
variable {X : Cx} {pins : List (Addr × Obj)} {σ : St} {H : Hp} {s : Shared} {a : Addr} {kvs : List (Key × V)} {A : Around} {E : Value → Shared → Prop}
end
section
variable {X : Cx} {pins : List (Addr × Obj)} {σ : St} {H : Hp} {s : Shared} {a : Addr} {y : V} {u : Value} {A : Around} {E : Value → Shared → Prop}
end
end L2
namespace L2
open PySem PySem.Spec PyProof.Rows
section
variable {prog : Program} {w : World} {A : Around} {E : Value → Shared → Prop}
end
section
variable {X : Cx}
end
end L2
namespace L2
open PySem PySem.Spec PyProof.Rows
section
variable {X : Cx} {pins : List (Addr × Obj)} {σ : St} {H : Hp} {s : Shared} {h' : Heap}
end
section
variable {X : Cx}
end
section
variable {X : Cx} {tg : Expr}
end
section
variable {X : Cx} {tg : Expr}
end
section
variable {prog : Program} {w : World} {A : Around} {E : Value → Shared → Prop} {s : Shared}
end
section
variable {X : Cx} {pins : List (Addr × Obj)} {σ : St} {H : Hp} {s : Shared} {d : Addr} {o : Obj}
end
section
variable {P : Program} {w : World} {K : PySem.W.Frag} {tg : Expr} {d : Addr} {o : Obj} {es : Array DictEntry} {ep : Nat}
end
section
variable {X : Cx} {tg e : Expr} {td : TE} {apos cpos : Pos}
end
end L2
section 
namespace Bits
open PySem PyProof.Rows
end Bits
end 
section 
namespace TL
open PySem PySem.Builtin PySem.Builtin.Str PySem.StrLaws
end TL
end 
namespace L2
open PySem PySem.Spec PyProof.Rows
section
variable {X : Cx} {pins : List (Addr × Obj)} {σ : St} {H : Hp} {s : Shared} {Q : VK}
end
section
variable {X : Cx}
end
section
variable {X : Cx} {o e : Expr} {to te : TE}
end
end L2
namespace L2
open PySem PySem.Spec PyProof.Rows
section
variable {X : Cx}
end
end L2
namespace Att
open PySem PySem.W PySem.Calls PyProof.Rows
section
variable {prog : Program} {w : World} {A : Around} {E : Value → Shared → Prop} {s : Shared} {K : Frag}
end
end Att
namespace L2
open PySem PySem.Spec PyProof.Rows
theorem vals_ints : ∀ {vs : List Value} {ns : List Int}, IntsAre vs ns → Vals (ns.map V.int) vs
  | _, _, .nil => .nil
  | _, _, .cons n t h => .cons ⟨t, rfl⟩ (vals_ints h)
end L2
namespace L2
open PySem PySem.Spec PyProof.Rows
abbrev KOf {K : PySem.W.Frag} {h : Heap} (_ : K.In h) : PySem.W.Frag := K
end L2
namespace L2
open PySem PySem.Spec PyProof.Rows
def inClass (s : Stmt) (j : Nat) : Stmt := match s with
  | .ClassDef _ _ _ body _ _ _ _ _ _ _ => body.getD j (.Pass ⟨0, 0, 0, 0⟩)
  | _ => .Pass ⟨0, 0, 0, 0⟩
def defArgs (s : Stmt) : Arguments := match s with
  | .FunctionDef _ a _ _ _ _ _ _ _ _ => a
  | _ => { posonlyargs := [], args := [], vararg := none, kwonlyargs := [], kw_defaults := [], kwarg := none, defaults := [] }
def defBody (s : Stmt) : List Stmt := match s with
  | .FunctionDef _ _ b _ _ _ _ _ _ _ => b
  | _ => []
def defScope (s : Stmt) : Scope := match s with
  | .FunctionDef _ _ _ _ _ _ sc _ _ _ => sc
  | _ => { kind := .function, names := [], isGenerator := false, isCoroutine := false }
abbrev CX0 : CXT := fun _ _ _ _ _ _ => False
abbrev E0 : XK := fun _ _ _ => False
theorem pass0 {X : Cx} : Passes CX0 X E0 := fun _ _ _ _ _ _ _ h => h.elim
structure Fun (K : PySem.W.Frag) (x qual : Str) (st : Stmt) (f : Addr) (fd : FuncData) : Prop where
  ex : ∃ (oc : Value) (od : Option Addr) (kV doc pm : Value) (an : Option Addr) (cdv ct : Value) (osl : Array (Option Value)),
    fd = PySem.W.fnOf x qual (defArgs st) (defBody st) (defScope st) .none kV doc pm an cdv ct ∧ K.lookup f = some ⟨oc, od, .func fd, osl⟩ ∧ PySem.W.codeIn K cdv qual = true
  kp : PySem.W.keepIn K (.ref f) = true
section
variable {P : Program} {w : World} {K : PySem.W.Frag} {mg : Str → Option Value} {base : Heap}
theorem Fun.ok {x qual : Str} {st : Stmt} {f : Addr} {fd : FuncData} {N ps : List Str} {k : Nat} {sp : Sp} (F : Fun K x qual st f fd) (S : FnScope N ps (defScope st)) (len : ∀ vs H Q E, sp vs H Q E → vs.length = ps.length)
    (hbody : ∀ (cdv : Value) (A : Around) (outer : List Env) (s : Shared) (H : Hp) (vs : List V) (Q : VK) (E : XK), Room k (A.deeper (envOfC qual (defScope st) s.heap.objs.size f cdv)) → sp vs H Q E →
      ∃ t, PSs (cxOf CX0 P w K mg base N qual (defScope st) f cdv A outer s H E).nox (defBody st) t ∧ t { nx := fun _ H' => Q .non H', rt := Q } (start N vs) H) : FnOk P w K mg base CX0 (k + 1) f fd ps sp := by
  obtain ⟨oc, od, kV, doc, pm, an, cdv, ct, osl, rfl, lk, hcd⟩ := F.ex
  refine fn_of lk hcd S len fun A outer s H vs Q E hr hsp => ?_
  obtain ⟨t, h, q⟩ := hbody cdv A outer s H vs Q E hr hsp
  exact ⟨t, h.nox, q⟩
theorem Fun.binds {x qual : Str} {st : Stmt} {f : Addr} {fd : FuncData} {ps : List Str} (F : Fun K x qual st f fd)
    (h : ∀ (kV doc pm : Value) (an : Option Addr) (cdv ct : Value) (us : List Value), us.length = ps.length → bindArgs (PySem.W.fnOf x qual (defArgs st) (defBody st) (defScope st) .none kV doc pm an cdv ct) ⟨us, []⟩ = pure (ps.zip us)) : Binds K fd ps [] := by
  obtain ⟨oc, od, kV, doc, pm, an, cdv, ct, osl, rfl, lk, hcd⟩ := F.ex
  exact .all (h kV doc pm an cdv ct)
theorem fun_mk {x qual : Str} {st : Stmt} {f : Addr} {oc : Value} {od an : Option Addr} {osl : Array (Option Value)} {kV doc pm cdv ct : Value} (l : K.lookup f = some ⟨oc, od, .func (PySem.W.fnOf x qual (defArgs st) (defBody st) (defScope st) .none kV doc pm an cdv ct), osl⟩)
    (c : PySem.W.codeIn K cdv qual = true) (k : PySem.W.keepIn K (.ref f) = true) : Fun K x qual st f (PySem.W.fnOf x qual (defArgs st) (defBody st) (defScope st) .none kV doc pm an cdv ct) := ⟨⟨oc, od, kV, doc, pm, an, cdv, ct, osl, rfl, l, c⟩, k⟩
end
section
variable {X : Cx}
theorem pv (i : Nat) {x : Str} {pos : Pos} (hN : X.N[i]? = some x := by rfl) (hv : Vis X.env.scope x := by first | exact Or.inl rfl | exact Or.inr (Or.inl rfl) | exact Or.inr (Or.inr rfl)) (hd : (x == ("__debug__" : Str)) = false := by decide)
    (hcd : (x == ("__classdict__" : Str)) = false := by decide) : PE X (.Name x pos) (tVar i) := pe_var hN hv hd hcd
end
theorem iteF {A B : Prop} (h : B) : if false = true then A else B := by
  rw [if_neg Bool.false_ne_true]
  exact h
theorem iteT {A B : Prop} (h : A) : if true = true then A else B := by
  rw [if_pos rfl]
  exact h
theorem ite2 {c A B : Prop} [Decidable c] (h1 : c → A) (h2 : ¬ c → B) : if c then A else B := by
  by_cases h : c
  · rw [if_pos h]
    exact h1 h
  · rw [if_neg h]
    exact h2 h
def Same (H H' : Hp) : Prop := ∀ b o, H b = some o → H' b = some o
theorem Same.refl (H : Hp) : Same H H := fun _ _ h => h
theorem Same.trans {H H1 H2 : Hp} (a : Same H H1) (b : Same H1 H2) : Same H H2 := fun c o h => b c o (a c o h)
theorem Same.free {H H' : Hp} (e : Same H H') {l : Addr} (h : H' l = Option.none) : H l = Option.none := by
  cases q : H l with
  | none => rfl
  | some o =>
    rw [e l o q] at h
    cases h
theorem Same.seq {K : PySem.W.Frag} {H H' : Hp} {a : Addr} {xs : List V} (e : Same H H') (h : SqL K H a xs) : SqL K H' a xs := by
  rcases h with (h | ⟨o, h⟩) | h
  · exact .inl (.inl (e _ _ h))
  · exact .inl (.inr ⟨o, e _ _ h⟩)
  · exact .inr h
section
variable {κ : Type} [DecidableEq κ]
end
theorem at_of {xs : List V} {z : Int} {j : Nat} {v : V} (e : z = (j : Int)) (h : xs[j]? = some v) : atI xs z = some v := by
  rw [e]
  exact atI_nat h
theorem Same.made {H H1 : Hp} {x dx C : Addr} (nx : H x = Option.none) (nd : H dx = Option.none) (k : ∀ b o, (upd (upd H dx (.own x)) x (.ins C dx [])) b = some o → b ≠ x → H1 b = some o) : Same H H1 := fun b o e =>
  k b o (by rw [upd_ne (ne_of_none e nx), upd_ne (ne_of_none e nd)]; exact e) (ne_of_none e nx)
end L2
end
noncomputable section
set_option Elab.async false
set_option linter.all false
set_option maxRecDepth 100000
set_option maxHeartbeats 2000000
namespace L2
open PySem PySem.Spec PyProof.Rows
open PySem.W (WData Codec OpenSpec Well WellAll ReadsW ReadsAllW)
mutual
/-- x stands for the datum d, lists and tuples all the way -/
inductive Dw (K : PySem.W.Frag) (H : Hp) : V → WData → Prop
  | non : Dw K H .non .none
  | bl (b : Bool) : Dw K H (.bl b) (.bool b)
  | int (i : Int) : Dw K H (.int i) (.int i)
  | str (x : Str) : Dw K H (.str x) (.str x)
  | byt (b : Array UInt8) : Dw K H (.byt b) (.bytes b.toList)
  | lst {a : Addr} {xs : List V} {ds : List WData} : SqL K H a xs → DwAll K H xs ds → Dw K H (.ref a) (.list ds)
  | tup {a : Addr} {xs : List V} {ds : List WData} : SqT K H a xs → DwAll K H xs ds → Dw K H (.ref a) (.tuple ds)
inductive DwAll (K : PySem.W.Frag) (H : Hp) : List V → List WData → Prop
  | nil : DwAll K H [] []
  | cons {v : V} {vs : List V} {d : WData} {ds : List WData} : Dw K H v d → DwAll K H vs ds → DwAll K H (v :: vs) (d :: ds)
end
theorem dw_ints {K : PySem.W.Frag} {H : Hp} : ∀ ns : List Int, DwAll K H (ns.map V.int) (ns.map WData.int)
  | [] => .nil
  | n :: r => .cons (.int n) (dw_ints r)
theorem ints_dw {K : PySem.W.Frag} {H : Hp} : ∀ (ns : List Int) (xs : List V), DwAll K H xs (ns.map WData.int) → xs = ns.map V.int
  | [], xs, h => by
    cases h
    rfl
  | n :: r, xs, h => by
    cases h with
    | cons h1 h2 =>
      cases h1
      rw [ints_dw r _ h2] <;> rfl
section
variable {P : Program} {w : World} {K : PySem.W.Frag} {H : Hp} {h : Heap} {R : PySem.W.WRecords} {cl : Str → Option Addr}
theorem sqL_at {a : Addr} {xs : List V} (hok : HOk P w H h) (KX : K.In h) (q : SqL K H a xs) : ∃ (its : List Value) (o : Obj) (n : Nat), Vals xs its ∧ h.get? a = some o ∧ o.cls = .type "list" ∧ o.data = .seq its.toArray n := by
  rcases q with q | ⟨o, its, n, e, hc, _, hd, _, hv⟩
  · obtain ⟨_, its, n, hv, e⟩ := (show ObjOk P w H h a (.lst xs) from q.ok hok)
    exact ⟨its, _, n, hv, e, rfl, rfl⟩
  · exact ⟨its.toList, o, n, hv, KX _ _ e, hc, by simp [hd]⟩
theorem sqT_at {a : Addr} {xs : List V} (hok : HOk P w H h) (KX : K.In h) (q : SqT K H a xs) : ∃ (its : List Value) (o : Obj) (n : Nat), Vals xs its ∧ h.get? a = some o ∧ o.cls = .type "tuple" ∧ o.data = .seq its.toArray n := by
  rcases q with q | ⟨o, its, n, e, hc, hd, _, hv⟩
  · obtain ⟨_, its, hv, o, e, hc, n, hd⟩ := (show ObjOk P w H h a (.tup xs) from q.ok hok)
    exact ⟨its, o, n, hv, e, hc, hd⟩
  · exact ⟨its.toList, o, n, hv, KX _ _ e, hc, by simp [hd]⟩
mutual
theorem Dw.reads (hok : HOk P w H h) (KX : K.In h) : ∀ (d : WData) (v : V) (u : Value), Dw K H v d → RelV v u → ∃ as, ReadsW R cl h u d as
  | .none, _, _, x, r => by
    cases x
    cases r
    exact ⟨_, ReadsW.none⟩
  | .bool b, _, _, x, r => by
    cases x
    cases r
    exact ⟨_, ReadsW.bool b⟩
  | .int i, _, _, x, r => by
    cases x
    obtain ⟨t, rfl⟩ := r
    exact ⟨_, ReadsW.int i t⟩
  | .str s, _, _, x, r => by
    cases x
    obtain ⟨t, rfl⟩ := r
    exact ⟨_, ReadsW.str s t⟩
  | .bytes b, _, _, x, r => by
    cases x
    obtain ⟨t, rfl⟩ := r
    exact ⟨_, ReadsW.bytes _ t⟩
  | .list ds, _, _, x, r => by
    cases x with
    | lst hs ha =>
      cases r
      obtain ⟨its, o, n, rv, ho, hc, hd⟩ := sqL_at hok KX hs
      obtain ⟨as, hr⟩ := Dw.readsAll hok KX ds _ its ha rv
      exact ⟨_, ReadsW.list ho hc hd hr⟩
  | .tuple ds, _, _, x, r => by
    cases x with
    | tup hs ha =>
      cases r
      obtain ⟨its, o, n, rv, ho, hc, hd⟩ := sqT_at hok KX hs
      obtain ⟨as, hr⟩ := Dw.readsAll hok KX ds _ its ha rv
      exact ⟨_, ReadsW.tuple ho hc hd hr⟩
  | .float _, _, _, x, _ => by cases x
  | .dict _, _, _, x, _ => by cases x
  | .bytearray _, _, _, x, _ => by cases x
  | .set _, _, _, x, _ => by cases x
  | .frozenset _, _, _, x, _ => by cases x
  | .obj _ _, _, _, x, _ => by cases x
theorem Dw.readsAll (hok : HOk P w H h) (KX : K.In h) : ∀ (ds : List WData) (vs : List V) (us : List Value), DwAll K H vs ds → Vals vs us → ∃ as, ReadsAllW R cl h us ds as
  | [], _, _, x, r => by
    cases x
    cases r
    exact ⟨_, ReadsAllW.nil⟩
  | d :: ds, _, _, x, r => by
    cases x with
    | cons h1 h2 =>
      cases r with
      | cons r1 r2 =>
        obtain ⟨as, q1⟩ := Dw.reads hok KX d _ _ h1 r1
        obtain ⟨bs, q2⟩ := Dw.readsAll hok KX ds _ _ h2 r2
        exact ⟨_, ReadsAllW.cons q1 q2⟩
end
end
mutual
/-- data that a codec tells -/
def plW : WData → Bool
  | .none => true
  | .bool _ => true
  | .int _ => true
  | .str _ => true
  | .bytes _ => true
  | .list xs => plWs xs
  | .tuple xs => plWs xs
  | _ => false
def plWs : List WData → Bool
  | [] => true
  | x :: r => plW x && plWs r
end
theorem plWs_map {α : Type} {f : α → WData} (h : ∀ a, plW (f a) = true) : ∀ l : List α, plWs (l.map f) = true
  | [] => rfl
  | x :: r => by
    show (plW (f x) && plWs (r.map f)) = true
    rw [h x, plWs_map h r] <;> rfl
theorem pl_enc : ∀ (c : Codec) (a : c.denote), plW (c.enc a) = true
  | .unit, _ => rfl
  | .bool, _ => rfl
  | .int _ _, _ => rfl
  | .nat _ _, _ => rfl
  | .u8, _ => rfl
  | .bytes _ _, _ => rfl
  | .text _ _ _ _, _ => rfl
  | .list _ _ c, a => plWs_map (fun x => pl_enc c x) a
  | .pair c d, a => by
    show (plW (c.enc a.1) && (plW (d.enc a.2) && true)) = true
    rw [pl_enc c a.1, pl_enc d a.2] <;> rfl
  | .triple c d e, a => by
    show (plW (c.enc a.1) && (plW (d.enc a.2.1) && (plW (e.enc a.2.2) && true))) = true
    rw [pl_enc c a.1, pl_enc d a.2.1, pl_enc e a.2.2] <;> rfl
  | .option c, none => rfl
  | .option c, some x => pl_enc c x
theorem pl_encAll : ∀ (cs : List Codec) (a : Codec.denoteAll cs), plWs (Codec.encAll cs a) = true
  | [], _ => rfl
  | c :: cs, a => by
    show (plW (c.enc a.1) && plWs (Codec.encAll cs a.2)) = true
    rw [pl_enc c a.1, pl_encAll cs a.2] <;> rfl
theorem weight_mem : ∀ {xs : List WData} {d : WData}, d ∈ xs → d.weight ≤ WData.weightAll xs
  | [], d, h => absurd h (by simp)
  | x :: r, d, h => by
    show d.weight ≤ x.weight + 1 + WData.weightAll r
    rcases List.mem_cons.mp h with e | m
    · rw [e]
      omega
    · have z := weight_mem m
      omega
def toV : Value → V
  | .none => .non
  | .bool b => .bl b
  | .int i _ => .int i
  | .str x _ => .str x
  | .bytes b _ => .byt b
  | .ref a => .ref a
  | _ => .non
def OkU (A : List Addr) : Value → Prop
  | .none => True
  | .bool _ => True
  | .int _ _ => True
  | .str _ _ => True
  | .bytes _ _ => True
  | .ref a => a ∈ A
  | _ => False
theorem OkU.mono {A B : List Addr} (h : ∀ a ∈ A, a ∈ B) : ∀ {u : Value}, OkU A u → OkU B u := fun {u} x => by
  cases u with
  | ref a => exact h a x
  | none => trivial
  | bool b => trivial
  | int i t => trivial
  | str s t => trivial
  | bytes b t => trivial
  | _ => exact False.elim x
theorem relV_toV {A : List Addr} {u : Value} (x : OkU A u) : RelV (toV u) u := by
  cases u with
  | ref a => rfl
  | none => rfl
  | bool b => rfl
  | int i t => exact ⟨t, rfl⟩
  | str s t => exact ⟨t, rfl⟩
  | bytes b t => exact ⟨t, rfl⟩
  | _ => exact False.elim x
theorem vals_toV {A : List Addr} : ∀ {vs : List Value}, (∀ u ∈ vs, OkU A u) → Vals (vs.map toV) vs
  | [], _ => .nil
  | u :: r, h => .cons (relV_toV (h u (List.mem_cons_self ..))) (vals_toV fun x hx => h x (List.mem_cons_of_mem _ hx))
def ArgOb (h : Heap) (A : List Addr) (a : Addr) : Prop := ∃ vs : List Value, vs.length ≤ sizeLine ∧ (∀ u ∈ vs, OkU A u) ∧
  (h.get? a = some { cls := .type "list", data := .seq vs.toArray } ∨ h.get? a = some { cls := .type "tuple", data := .seq vs.toArray })
theorem ArgOb.mono {h : Heap} {A B : List Addr} {a : Addr} (k : ∀ a ∈ A, a ∈ B) (x : ArgOb h A a) : ArgOb h B a := by
  obtain ⟨vs, h1, h2, h3⟩ := x
  exact ⟨vs, h1, fun u hu => (h2 u hu).mono k, h3⟩
theorem wellAll_len {P : Params} {h : Heap} : ∀ {vs : List Value} {ds : List WData}, WellAll P h vs ds → vs.length = ds.length
  | _, _, .nil => rfl
  | _, _, .cons _ b => by
    show _ + 1 = _ + 1
    rw [wellAll_len b]
theorem well_list {P : Params} {h : Heap} {v : Value} {ds : List WData} (x : Well P h v (.list ds)) : ∃ (a : Addr) (vs : List Value), v = .ref a ∧ h.get? a = some { cls := .type "list", data := .seq vs.toArray } ∧ WellAll P h vs ds := by
  cases x with
  | list ho hall => exact ⟨_, _, rfl, ho, hall⟩
theorem well_tuple {P : Params} {h : Heap} {v : Value} {ds : List WData} (x : Well P h v (.tuple ds)) : ∃ (a : Addr) (vs : List Value), v = .ref a ∧ h.get? a = some { cls := .type "tuple", data := .seq vs.toArray } ∧ WellAll P h vs ds := by
  cases x with
  | tuple ho hall => exact ⟨_, _, rfl, ho, hall⟩
theorem well_cons {P : Params} {h : Heap} {us : List Value} {d : WData} {ds : List WData} (x : WellAll P h us (d :: ds)) : ∃ (v : Value) (vs : List Value), us = v :: vs ∧ Well P h v d ∧ WellAll P h vs ds := by
  cases x with
  | cons a b => exact ⟨_, _, rfl, a, b⟩
theorem line_of {n : Nat} (h : n ≤ 1048576) : n ≤ sizeLine := Nat.le_trans h (by decide)
section
variable {P : Params} {h : Heap}
mutual
theorem area_one : ∀ (d : WData) (v : Value), Well P h v d → plW d = true → d.weight ≤ 1048576 → ∃ A : List Addr, OkU A v ∧ ∀ a ∈ A, ArgOb h A a
  | .none, _, x, _, _ => by
    cases x
    exact ⟨[], trivial, fun a m => absurd m (by simp)⟩
  | .bool b, _, x, _, _ => by
    cases x
    exact ⟨[], trivial, fun a m => absurd m (by simp)⟩
  | .int i, _, x, _, _ => by
    cases x
    exact ⟨[], trivial, fun a m => absurd m (by simp)⟩
  | .str s, _, x, _, _ => by
    cases x
    exact ⟨[], trivial, fun a m => absurd m (by simp)⟩
  | .bytes b, _, x, _, _ => by
    cases x
    exact ⟨[], trivial, fun a m => absurd m (by simp)⟩
  | .list ds, _, x, p, z => by
    obtain ⟨a, vs, rfl, ho, hall⟩ := well_list x
    have z2 : WData.weightAll ds ≤ 1048576 := z
    obtain ⟨A, h1, h2⟩ := area_all ds _ hall p fun d hd => Nat.le_trans (weight_mem hd) z2
    have k : ∀ b ∈ A, b ∈ a :: A := fun b hb => List.mem_cons_of_mem _ hb
    refine ⟨a :: A, List.mem_cons_self .., fun b hb => ?_⟩
    rcases List.mem_cons.mp hb with e | m
    · rw [e]
      exact ⟨vs, line_of (by rw [wellAll_len hall]; exact Nat.le_trans (PySem.W.length_le_weightAllW ds) z2), fun u hu => (h1 u hu).mono k, .inl ho⟩
    · exact (h2 b m).mono k
  | .tuple ds, _, x, p, z => by
    obtain ⟨a, vs, rfl, ho, hall⟩ := well_tuple x
    have z2 : WData.weightAll ds ≤ 1048576 := z
    obtain ⟨A, h1, h2⟩ := area_all ds _ hall p fun d hd => Nat.le_trans (weight_mem hd) z2
    have k : ∀ b ∈ A, b ∈ a :: A := fun b hb => List.mem_cons_of_mem _ hb
    refine ⟨a :: A, List.mem_cons_self .., fun b hb => ?_⟩
    rcases List.mem_cons.mp hb with e | m
    · rw [e]
      exact ⟨vs, line_of (by rw [wellAll_len hall]; exact Nat.le_trans (PySem.W.length_le_weightAllW ds) z2), fun u hu => (h1 u hu).mono k, .inr ho⟩
    · exact (h2 b m).mono k
  | .float _, _, _, p, _ => Bool.noConfusion (show false = true from p)
  | .dict _, _, _, p, _ => Bool.noConfusion (show false = true from p)
  | .bytearray _, _, _, p, _ => Bool.noConfusion (show false = true from p)
  | .set _, _, _, p, _ => Bool.noConfusion (show false = true from p)
  | .frozenset _, _, _, p, _ => Bool.noConfusion (show false = true from p)
  | .obj _ _, _, _, p, _ => Bool.noConfusion (show false = true from p)
theorem area_all : ∀ (ds : List WData) (vs : List Value), WellAll P h vs ds → plWs ds = true → (∀ d ∈ ds, d.weight ≤ 1048576) → ∃ A : List Addr, (∀ u ∈ vs, OkU A u) ∧ ∀ a ∈ A, ArgOb h A a
  | [], _, x, _, _ => by
    cases x
    exact ⟨[], fun u m => absurd m (by simp), fun a m => absurd m (by simp)⟩
  | d :: ds, _, x, p, z => by
    obtain ⟨v, vs, rfl, x1, x2⟩ := well_cons x
    have q : plW d = true ∧ plWs ds = true := Bool.and_eq_true_iff.mp p
    obtain ⟨A, a1, a2⟩ := area_one d v x1 q.1 (z d (List.mem_cons_self ..))
    obtain ⟨B, b1, b2⟩ := area_all ds vs x2 q.2 fun e he => z e (List.mem_cons_of_mem _ he)
    have kA : ∀ b ∈ A, b ∈ A ++ B := fun b hb => List.mem_append.mpr (.inl hb)
    have kB : ∀ b ∈ B, b ∈ A ++ B := fun b hb => List.mem_append.mpr (.inr hb)
    refine ⟨A ++ B, fun u hu => ?_, fun b hb => ?_⟩
    · rcases List.mem_cons.mp hu with e | m
      · rw [e]
        exact a1.mono kA
      · exact (b1 u m).mono kB
    · rcases List.mem_append.mp hb with m | m
      · exact (a2 b m).mono kA
      · exact (b2 b m).mono kB
end
end
def hoOf (o : Obj) : Option HO := match o.data with
  | .seq vs _ => if (o.cls == Value.type "list") = true then some (.frz o (.lst (vs.toList.map toV))) else some (.frz o (.tup (vs.toList.map toV)))
  | _ => none
def argH (K : PySem.W.Frag) (h : Heap) (A : List Addr) : Hp := fun b => if b ∈ A then (if (K.lookup b).isNone = true then (h.get? b).bind hoOf else none) else none
def OnlyF (H : Hp) : Prop := ∀ b, H b = none ∨ ∃ o u, H b = some (.frz o u)
theorem hoOf_lst (vs : List Value) : hoOf { cls := .type "list", data := .seq vs.toArray } = some (.frz { cls := .type "list", data := .seq vs.toArray } (.lst (vs.map toV))) := by
  show (if (Value.type "list" == Value.type "list") = true then some (HO.frz { cls := .type "list", data := .seq vs.toArray } (.lst (vs.toArray.toList.map toV))) else some (HO.frz { cls := .type "list", data := .seq vs.toArray } (.tup (vs.toArray.toList.map toV)))) = _
  rw [if_pos (beq_self_eq_true _)]
theorem hoOf_tup (vs : List Value) : hoOf { cls := .type "tuple", data := .seq vs.toArray } = some (.frz { cls := .type "tuple", data := .seq vs.toArray } (.tup (vs.map toV))) := by
  show (if (Value.type "tuple" == Value.type "list") = true then some (HO.frz { cls := .type "tuple", data := .seq vs.toArray } (.lst (vs.toArray.toList.map toV))) else some (HO.frz { cls := .type "tuple", data := .seq vs.toArray } (.tup (vs.toArray.toList.map toV)))) = _
  rw [if_neg (by decide)]
section
variable {P : Program} {w : World} {K : PySem.W.Frag} {h : Heap} {A : List Addr}
theorem argH_at {b : Addr} {o : Obj} (hb : b ∈ A) (hk : K.lookup b = none) (e : h.get? b = some o) : argH K h A b = hoOf o := by
  unfold argH
  rw [if_pos hb, hk, if_pos (show (none : Option Obj).isNone = true from rfl), e] <;> rfl
theorem of_argH {b : Addr} {u : HO} (q : argH K h A b = some u) : b ∈ A ∧ K.lookup b = none := by
  unfold argH at q
  by_cases hb : b ∈ A
  · rw [if_pos hb] at q
    cases hk : K.lookup b with
    | none => exact ⟨hb, rfl⟩
    | some o =>
      rw [hk, if_neg (by simp)] at q
      cases q
  · rw [if_neg hb] at q
    cases q
theorem argH_is (ar : ∀ a ∈ A, ArgOb h A a) {b : Addr} {u : HO} (q : argH K h A b = some u) : K.lookup b = none ∧ ∃ vs : List Value, vs.length ≤ sizeLine ∧ (∀ u ∈ vs, OkU A u) ∧
    ((h.get? b = some { cls := .type "list", data := .seq vs.toArray } ∧ u = .frz { cls := .type "list", data := .seq vs.toArray } (.lst (vs.map toV))) ∨
     (h.get? b = some { cls := .type "tuple", data := .seq vs.toArray } ∧ u = .frz { cls := .type "tuple", data := .seq vs.toArray } (.tup (vs.map toV)))) := by
  obtain ⟨hb, hk⟩ := of_argH q
  obtain ⟨vs, h1, h2, h3⟩ := ar b hb
  refine ⟨hk, vs, h1, h2, ?_⟩
  rcases h3 with e | e
  · rw [argH_at hb hk e, hoOf_lst] at q
    exact .inl ⟨e, (Option.some.inj q).symm⟩
  · rw [argH_at hb hk e, hoOf_tup] at q
    exact .inr ⟨e, (Option.some.inj q).symm⟩
theorem argH_only (ar : ∀ a ∈ A, ArgOb h A a) : OnlyF (argH K h A) := fun b => by
  cases q : argH K h A b with
  | none => exact .inl rfl
  | some u =>
    obtain ⟨_, vs, _, _, ⟨_, e⟩ | ⟨_, e⟩⟩ := argH_is ar q
    · exact .inr ⟨_, _, by rw [e]⟩
    · exact .inr ⟨_, _, by rw [e]⟩
theorem argH_ok (ar : ∀ a ∈ A, ArgOb h A a) : HOk P w (argH K h A) h := fun b u q => by
  obtain ⟨_, vs, h1, h2, ⟨e, rfl⟩ | ⟨e, rfl⟩⟩ := argH_is ar q
  · exact ⟨e, by rw [List.length_map]; exact h1, vs, _, vals_toV h2, e⟩
  · exact ⟨e, by rw [List.length_map]; exact h1, vs, vals_toV h2, _, e, rfl, _, rfl⟩
theorem seq_inj {c c' : Value} {vs us : List Value} (e : (some { cls := c, data := .seq vs.toArray } : Option Obj) = some { cls := c', data := .seq us.toArray }) : c = c' ∧ vs = us := by
  have e1 := Option.some.inj e
  have e2 : c = c' := congrArg Obj.cls e1
  have e3 : Data.seq vs.toArray = Data.seq us.toArray := congrArg Obj.data e1
  injection e3 with e4
  refine ⟨e2, ?_⟩
  have e5 := congrArg Array.toList e4
  simpa using e5
theorem argL (KX : K.In h) (ar : ∀ a ∈ A, ArgOb h A a) {a : Addr} {vs : List Value} (ha : a ∈ A) (e : h.get? a = some { cls := .type "list", data := .seq vs.toArray }) : (∀ u ∈ vs, OkU A u) ∧ SqL K (argH K h A) a (vs.map toV) := by
  obtain ⟨us, h1, h2, h3⟩ := ar a ha
  have hu : us = vs := by
    rcases h3 with q | q
    · rw [e] at q
      exact (seq_inj q).2.symm
    · rw [e] at q
      exact absurd (Value.type.inj (seq_inj q).1) (by decide)
  subst hu
  refine ⟨h2, ?_⟩
  cases hk : K.lookup a with
  | none => exact .inl (.inr ⟨_, by rw [argH_at ha hk e, hoOf_lst]⟩)
  | some o =>
    have e2 := KX a o hk
    rw [e] at e2
    obtain rfl := Option.some.inj e2
    exact .inr ⟨_, us.toArray, _, hk, rfl, rfl, rfl, by rw [List.size_toArray]; exact h1, by simpa using vals_toV h2⟩
theorem argT (KX : K.In h) (ar : ∀ a ∈ A, ArgOb h A a) {a : Addr} {vs : List Value} (ha : a ∈ A) (e : h.get? a = some { cls := .type "tuple", data := .seq vs.toArray }) : (∀ u ∈ vs, OkU A u) ∧ SqT K (argH K h A) a (vs.map toV) := by
  obtain ⟨us, h1, h2, h3⟩ := ar a ha
  have hu : us = vs := by
    rcases h3 with q | q
    · rw [e] at q
      exact absurd (Value.type.inj (seq_inj q).1) (by decide)
    · rw [e] at q
      exact (seq_inj q).2.symm
  subst hu
  refine ⟨h2, ?_⟩
  cases hk : K.lookup a with
  | none => exact .inl (.inr ⟨_, by rw [argH_at ha hk e, hoOf_tup]⟩)
  | some o =>
    have e2 := KX a o hk
    rw [e] at e2
    obtain rfl := Option.some.inj e2
    exact .inr ⟨_, us.toArray, _, hk, rfl, rfl, by rw [List.size_toArray]; exact h1, by simpa using vals_toV h2⟩
mutual
theorem dw_one {Pm : Params} (KX : K.In h) (ar : ∀ a ∈ A, ArgOb h A a) : ∀ (d : WData) (v : Value), Well Pm h v d → plW d = true → OkU A v → Dw K (argH K h A) (toV v) d
  | .none, _, x, _, _ => by
    cases x
    exact .non
  | .bool b, _, x, _, _ => by
    cases x
    exact .bl b
  | .int i, _, x, _, _ => by
    cases x
    exact .int i
  | .str s, _, x, _, _ => by
    cases x
    exact .str s
  | .bytes b, _, x, _, _ => by
    cases x
    have z := Dw.byt (K := K) (H := argH K h A) b.toArray
    exact z
  | .list ds, _, x, p, hu => by
    obtain ⟨a, vs, rfl, ho, hall⟩ := well_list x
    obtain ⟨h2, hs⟩ := argL KX ar hu ho
    exact .lst hs (dw_all KX ar ds _ hall p h2)
  | .tuple ds, _, x, p, hu => by
    obtain ⟨a, vs, rfl, ho, hall⟩ := well_tuple x
    obtain ⟨h2, hs⟩ := argT KX ar hu ho
    exact .tup hs (dw_all KX ar ds _ hall p h2)
  | .float _, _, _, p, _ => Bool.noConfusion (show false = true from p)
  | .dict _, _, _, p, _ => Bool.noConfusion (show false = true from p)
  | .bytearray _, _, _, p, _ => Bool.noConfusion (show false = true from p)
  | .set _, _, _, p, _ => Bool.noConfusion (show false = true from p)
  | .frozenset _, _, _, p, _ => Bool.noConfusion (show false = true from p)
  | .obj _ _, _, _, p, _ => Bool.noConfusion (show false = true from p)
theorem dw_all {Pm : Params} (KX : K.In h) (ar : ∀ a ∈ A, ArgOb h A a) : ∀ (ds : List WData) (vs : List Value), WellAll Pm h vs ds → plWs ds = true → (∀ u ∈ vs, OkU A u) → DwAll K (argH K h A) (vs.map toV) ds
  | [], _, x, _, _ => by
    cases x
    exact .nil
  | d :: ds, _, x, p, hu => by
    obtain ⟨v, vs, rfl, x1, x2⟩ := well_cons x
    have q : plW d = true ∧ plWs ds = true := Bool.and_eq_true_iff.mp p
    exact .cons (dw_one KX ar d v x1 q.1 (hu _ (List.mem_cons_self ..))) (dw_all KX ar ds vs x2 q.2 fun u m => hu u (List.mem_cons_of_mem _ m))
end
end
theorem spec_call {P : Program} {w : World} {K : PySem.W.Frag} {mg mb : Str → Option Value} {CX : CXT} {k : Nat} {fa : Addr} {fd : FuncData} {ps : List Str} {sp : Sp} {s₁ : Shared} {vals : List Value} {ds : List WData} {R : PySem.W.WRecords} {cl : Str → Option Addr} {d0 : WData}
    (KX : K.In s₁.heap) (hns : s₁.heap.Ns mainGlobals mg) (hb : s₁.heap.Ns builtinsNs mb) (hbb : ∀ x : Str, x ≠ "__name__" → mb x = bootBuiltins x) (hlim : s₁.heap.NoLimit) (hg : s₁.gens = #[])
    (hwl : WellAll w.params s₁.heap vals ds) (hpl : plWs ds = true) (hwt : ∀ d ∈ ds, d.weight ≤ 1048576) (hr : Room k callerA)
    (F : ∀ base : Heap, K.In base → base.Ns mainGlobals mg → FnOk P w K mg base CX k fa fd ps sp) (hbind : ∀ (s : Shared) (us : List Value), us.length = ps.length → BindsTo s fd ⟨us, []⟩ (ps.zip us)) (hlen : ds.length = ps.length)
    (hsp : ∀ (H : Hp) (xs : List V), OnlyF H → DwAll K H xs ds → sp xs H (fun v H' => Dw K H' v d0) fun _ _ _ => False)
    (hCX : ∀ H e s', CX [] H s₁ (fun _ _ _ => False) e s' → False) :
    codeAny (model P w) callerA (.call (.ref fa) ⟨vals, []⟩) (fun r s' => ∃ u as, r = .ok (.ret u) ∧ ReadsW R cl s'.heap u d0 as ∧ OldK s₁.heap s'.heap ∧ s'.os = s₁.os ∧ AllBare s'.gens) s₁ := by
  obtain ⟨A, ho, ar⟩ := area_all ds vals hwl hpl hwt
  have hO : OnlyF (argH K s₁.heap A) := argH_only ar
  have hok : HOk P w (argH K s₁.heap A) s₁.heap := argH_ok ar
  have hS := dw_all KX ar ds vals hwl hpl ho
  have hV := vals_toV ho
  have hK : ∀ b u, argH K s₁.heap A b = some u → K.lookup b = none := fun b u q => (argH_is ar q).1
  have noA : ∀ {b : Addr} {o : Obj} {es : Array DictEntry} {ep : Nat}, s₁.heap.get? b = some o → o.data = .dict es ep → argH K s₁.heap A b = none := fun {b o es ep} e d => by
    cases q : argH K s₁.heap A b with
    | none => rfl
    | some u =>
      obtain ⟨_, vs, _, _, ⟨e2, _⟩ | ⟨e2, _⟩⟩ := argH_is ar q
      · rw [e2] at e
        cases e
        have d' : Data.seq vs.toArray _ = Data.dict es ep := d
        cases d'
      · rw [e2] at e
        cases e
        have d' : Data.seq vs.toArray _ = Data.dict es ep := d
        cases d'
  generalize argH K s₁.heap A = H at hO hok hS hK noA
  have base_of : ∀ {b : Addr} {o : Obj}, s₁.heap.get? b = some o → H b = none → (hidT s₁.heap H).get? b = some o := fun e n => hidT_get e n
  have nsK : ∀ {b : Addr} {m : Str → Option Value}, s₁.heap.Ns b m → (hidT s₁.heap H).Ns b m := fun {b m} ⟨o, es, ep, e, d, r⟩ => ⟨o, es, ep, base_of e (noA e d), d, r⟩
  have nK : ∀ b o, K.lookup b = some o → H b = none := fun b o e => by
    cases q : H b with
    | none => rfl
    | some u =>
      rw [hK b u q] at e
      cases e
  have hKb : K.In (hidT s₁.heap H) := fun b o e => base_of (KX b o e) (nK b o e)
  have hM : Mod K mg (hidT s₁.heap H) := ⟨hKb, nsK hns, ⟨mb, nsK hb, hbb⟩, let ⟨mc, h1, h2⟩ := hlim; ⟨mc, nsK h1, h2⟩⟩
  have e0 : Env0 P w K mg (hidT s₁.heap H) callerA [] s₁ H := ⟨rfl, hM, fun b o e => of_hidT e, Nat.le_of_eq (hidT_size _ _), trivial, fun b hb => absurd (show b ∈ ([] : List Addr) from hb) (by simp), hok, .of_eq hg⟩
  have hl : vals.length = ps.length := by rw [wellAll_len hwl]; exact hlen
  refine codeAny_mono ((F _ hKb (nsK hns)).run callerA [] s₁ H ⟨vals, []⟩ vals (vals.map toV) _ _ hr e0 (hbind s₁ vals hl) hV (hsp H _ hO hS)) fun r s' x => ?_
  cases r with
  | error e => exact (hCX H e s' x).elim
  | ok fl =>
    cases fl with
    | next => exact False.elim x
    | brk => exact False.elim x
    | cont => exact False.elim x
    | ret u =>
      obtain ⟨v, H', os, bare, un, hok', r', q⟩ := x
      have kept : ∀ b o, s₁.heap.get? b = some o → s'.heap.get? b = some o := fun b o e => by
        cases q2 : H b with
        | none => exact un.keep b o e q2 (by intro z; exact absurd (show b ∈ ([] : List Addr) from z) (by simp)) (by simp)
        | some u2 =>
          rcases hO b with z | ⟨ob, u3, z⟩
          · rw [q2] at z
            cases z
          · have z2 := un.frzs b ob _ z
            obtain ⟨e1, _⟩ := hok b _ z
            obtain ⟨e2, _⟩ := hok' b _ z2
            rw [e] at e1
            cases e1
            exact e2
      have KX' : K.In s'.heap := fun b o e => kept b o (KX b o e)
      obtain ⟨as, hrd⟩ := Dw.reads (R := R) (cl := cl) hok' KX' d0 v u q r'
      exact ⟨u, as, rfl, hrd, OldK.of_keep kept, os, bare⟩
theorem layable_weight {ds : List WData} (h : WData.layableAll ds = true) : ∀ d ∈ ds, d.weight ≤ 1048576 := fun d hd =>
  (PySem.W.layableW_iff.mp (List.all_eq_true.mp h d hd)).2.2
theorem encAll_len : ∀ (cs : List Codec) (a : Codec.denoteAll cs), (Codec.encAll cs a).length = cs.length
  | [], _ => rfl
  | c :: cs, a => by
    show (Codec.encAll cs a.2).length + 1 = cs.length + 1
    rw [encAll_len cs a.2]
theorem walk_spec {r : OpenSpec} {k : Nat} {q : Program} {loose : List Str} {XP : (Str → Option Value) → Heap → Prop} {YP : World → Heap → Prop} {d : DefRec} {K : Params → PySem.W.Frag} {CX : World → CXT} {ps : List Str} {sp : World → Sp}
    (hwell : r.wellSaid = true) (hdf : d.params.defaults = []) (hlen : r.args.length = ps.length) (hr : Room k callerA)
    (hY : ∀ (w : World) (h : Heap), YP w h → (K w.params).In h)
    (F : ∀ (w : World) (mg : Str → Option Value) (fa : Addr) (h : Heap), YP w h → (K w.params).In h → h.Ns mainGlobals mg → mg d.name = some (.ref fa) →
      ∃ fd : FuncData, (∀ (s : Shared) (us : List Value), us.length = ps.length → BindsTo s fd ⟨us, []⟩ (ps.zip us)) ∧
        ∀ base : Heap, (K w.params).In base → base.Ns mainGlobals mg → FnOk r.prog w (K w.params) mg base (CX w) k fa fd ps (sp w))
    (hsp : ∀ (w : World) (H : Hp) (xs : List V) (a : Codec.denoteAll r.args), OnlyF H → Codec.withinAll r.args a = true → Codec.app r.args r.asked a = true → DwAll (K w.params) H xs (Codec.encAll r.args a) →
      sp w xs H (fun v H' => Dw (K w.params) H' v (r.ret.enc (Codec.app r.args r.f a))) fun _ _ _ => False)
    (hCX : ∀ (w : World) (H : Hp) (s : Shared) (e : Value) (s' : Shared), CX w [] H s (fun _ _ _ => False) e s' → False) :
    PySem.W.WalkOS q loose XP YP r d [] (fun f vs => PySem.call f vs) := by
  intro w s_0 s₁ mg mb G Y fa o pm cd doc dV kV ho hd hcd hD hmg hg args vals as hpre hlay hrd hwl hlo
  obtain ⟨a, e1, e2⟩ := PySem.W.os_pre_some hpre
  obtain ⟨e3, hwi⟩ := Codec.encAll_of_decAll r.args args a e1
  subst e3
  have KX := hY w _ Y
  obtain ⟨fd, hb, hF⟩ := F w mg fa _ Y KX G.T.g hmg
  refine PySem.W.enter_call (codeAny_mono (spec_call (R := []) (cl := classAt s_0.heap) (d0 := r.ret.enc (Codec.app r.args r.f a)) KX G.T.g G.T.b G.T.builtins G.T.nolimit hg hwl (pl_encAll _ _) (layable_weight hlay) hr hF hb (by rw [encAll_len]; exact hlen)
    (fun H xs hO hS => hsp w H xs a hO hwi e2 hS) fun H e s' => hCX w H s₁ e s') fun r' s' hq => ?_)
  obtain ⟨u, as', rfl, h1, h2, h3, h4⟩ := hq
  exact ⟨.inl ⟨u, _, as', rfl, fun _ => rfl, h1, (OpenSpec.post_iff hwell hwi _ _).mpr rfl, fun z => Bool.noConfusion (show false = true from z)⟩, h2, h3, h4⟩
theorem walk_specK {r : OpenSpec} {k : Nat} {q : Program} {loose : List Str} {XP : (Str → Option Value) → Heap → Prop} {YP : World → Heap → Prop} {d : DefRec} {K : Params → PySem.W.Frag} {CX : CXT} {ps : List Str} {sp : PySem.W.Frag → Sp}
    (hwell : r.wellSaid = true) (hdf : d.params.defaults = []) (hlen : r.args.length = ps.length) (hr : Room k callerA)
    (hY : ∀ (w : World) (h : Heap), YP w h → (K w.params).In h)
    (F : ∀ (w : World) (mg : Str → Option Value) (fa : Addr) (h : Heap), YP w h → (K w.params).In h → h.Ns mainGlobals mg → mg d.name = some (.ref fa) →
      ∃ fd : FuncData, (∀ (s : Shared) (us : List Value), us.length = ps.length → BindsTo s fd ⟨us, []⟩ (ps.zip us)) ∧
        ∀ base : Heap, (K w.params).In base → base.Ns mainGlobals mg → FnOk r.prog w (K w.params) mg base CX k fa fd ps (sp (K w.params)))
    (hsp : ∀ (K : PySem.W.Frag) (H : Hp) (xs : List V) (a : Codec.denoteAll r.args), OnlyF H → Codec.withinAll r.args a = true → Codec.app r.args r.asked a = true → DwAll K H xs (Codec.encAll r.args a) →
      sp K xs H (fun v H' => Dw K H' v (r.ret.enc (Codec.app r.args r.f a))) fun _ _ _ => False)
    (hCX : ∀ (H : Hp) (s : Shared) (e : Value) (s' : Shared), CX [] H s (fun _ _ _ => False) e s' → False) :
    PySem.W.WalkOS q loose XP YP r d [] (fun f vs => PySem.call f vs) :=
  walk_spec (K := K) (CX := fun _ => CX) (sp := fun w => sp (K w.params)) hwell hdf hlen hr hY F (fun w H xs a h1 h2 h3 h4 => hsp (K w.params) H xs a h1 h2 h3 h4) fun _ H s e s' => hCX H s e s'
end L2
end
noncomputable section
set_option linter.all false
namespace VR
open Km457 (Valley Village at_ lineGo line climb meet)

abbrev up (s : Valley) (v : Nat) : Nat := (at_ s v).up
abbrev ln (s : Valley) (v : Nat) : Nat := (at_ s v).long
/-- a valley as the calls make it -/
structure WF (s : Valley) : Prop where
  pos : 0 < s.length
  few : s.length ≤ 14
  up0 : up s 0 = 0
  ln0 : ln s 0 = 0
  upl : ∀ v, 0 < v → up s v < v
  ln1 : ∀ v, 0 < v → v < s.length → 1 ≤ ln s v ∧ ln s v ≤ 1000

theorem ksum_go : ∀ (l : List Nat) (a : Nat), l.foldl (· + ·) a = a + l.sum
  | [], a => by simp
  | x :: l, a => by rw [List.foldl_cons, ksum_go l, List.sum_cons]; omega
theorem ksum (l : List Nat) : Km457.sum l = l.sum := by unfold Km457.sum; rw [ksum_go]; omega
theorem ksum' (l : List Nat) : Km460.sum l = l.sum := by unfold Km460.sum; rw [ksum_go]; omega

section
variable {s : Valley} (W : WF s)
include W

theorem lineGo_st : ∀ (f g v : Nat), v ≤ f → v ≤ g → lineGo s f v = lineGo s g v
  | 0, g, v, h, _ => by
    have : v = 0 := by omega
    subst this
    cases g <;> simp [lineGo]
  | f + 1, g, v, h, h2 => by
    by_cases hv : v = 0
    · subst hv
      cases g <;> simp [lineGo]
    · have hu := W.upl v (by omega)
      obtain ⟨g, rfl⟩ : ∃ k, g = k + 1 := ⟨g - 1, by omega⟩
      simp only [lineGo, if_neg hv]
      rw [lineGo_st f g _ (by unfold up at hu; omega) (by unfold up at hu; omega)]
theorem line_zero : line s 0 = [0] := by
  unfold line
  cases s.length <;> simp [lineGo]
theorem line_pos {v : Nat} (hv : 0 < v) (h : v < s.length) : line s v = v :: line s (up s v) := by
  have hu := W.upl v hv
  unfold line
  obtain ⟨g, hg⟩ : ∃ k, s.length = k + 1 := ⟨s.length - 1, by omega⟩
  rw [hg]
  show (if v = 0 then [0] else v :: lineGo s g (at_ s v).up) = _
  rw [if_neg (show ¬ v = 0 by omega), lineGo_st W g (g + 1) _ (by unfold up at hu; omega) (by unfold up at hu; omega)]
theorem line_head {v : Nat} (h : v < s.length) : ∃ t, line s v = v :: t := by
  by_cases hv : v = 0
  · subst hv; exact ⟨[], line_zero W⟩
  · exact ⟨_, line_pos W (by omega) h⟩
theorem line_le : ∀ (v : Nat), v < s.length → ∀ x ∈ line s v, x ≤ v := by
  intro v
  induction v using Nat.strongRecOn with
  | _ v ih =>
    intro h x hx
    by_cases hv : v = 0
    · subst hv; rw [line_zero W] at hx; simp at hx; omega
    · have hu := W.upl v (by omega)
      rw [line_pos W (by omega) h] at hx
      rcases List.mem_cons.mp hx with rfl | hx
      · omega
      · have := ih _ hu (by omega) x hx
        omega

theorem find_congr {α : Type} {p q : α → Bool} : ∀ {l : List α}, (∀ x ∈ l, p x = q x) → l.find? p = l.find? q
  | [], _ => rfl
  | x :: l, h => by
    rw [List.find?_cons, List.find?_cons, h x (List.mem_cons_self), find_congr fun y hy => h y (List.mem_cons_of_mem _ hy)]

theorem meet_self {v : Nat} (h : v < s.length) : meet s v v = v := by
  obtain ⟨t, ht⟩ := line_head W h
  unfold meet
  rw [ht, List.find?_cons_of_pos (by simp)]
  rfl
theorem meet_gt {v w : Nat} (hw : w < v) (h : v < s.length) : meet s v w = meet s (up s v) w := by
  unfold meet
  rw [line_pos W (by omega) h, List.find?_cons_of_neg]
  intro hc
  have hm : v ∈ line s w := by simpa using hc
  have := line_le W w (by omega) v hm
  omega
theorem meet_lt {v w : Nat} (hw : v < w) (h : w < s.length) : meet s v w = meet s v (up s w) := by
  unfold meet
  rw [line_pos W (v := w) (by omega) h]
  rw [find_congr W (q := fun x => (line s (up s w)).contains x)]
  intro x hx
  have := line_le W v (by omega) x hx
  rw [List.contains_cons]
  have : (x == w) = false := by simp; omega
  rw [this, Bool.false_or]
theorem meet_le2 {v w : Nat} (h : w < s.length) : meet s v w ≤ w := by
  unfold meet
  cases e : (line s v).find? fun x => (line s w).contains x with
  | none => simp
  | some x =>
    have := List.find?_some e
    exact line_le W w h x (by simpa using this)
theorem meet_le1 {v w : Nat} (h : v < s.length) : meet s v w ≤ v := by
  unfold meet
  cases e : (line s v).find? fun x => (line s w).contains x with
  | none => simp
  | some x => exact line_le W v h x (List.mem_of_find?_eq_some e)

abbrev bt (s : Valley) (v w : Nat) : List Nat := Km460.between s v w
theorem bt_self {v : Nat} (h : v < s.length) : bt s v v = [v] := by
  obtain ⟨t, ht⟩ := line_head W h
  unfold bt Km460.between
  simp only [meet_self W h, ht]
  simp
theorem bt_gt {v w : Nat} (hw : w < v) (h : v < s.length) : bt s v w = v :: bt s (up s v) w := by
  have hm : ¬ v = meet s (up s v) w := by
    have := meet_le2 W (v := up s v) (w := w) (by omega)
    omega
  unfold bt Km460.between
  simp only [meet_gt W hw h]
  rw [line_pos W (by omega) h]
  simp [List.takeWhile_cons, hm]
theorem bt_lt {v w : Nat} (hw : v < w) (h : w < s.length) : bt s v w = bt s v (up s w) ++ [w] := by
  have hm : ¬ w = meet s v (up s w) := by
    have := meet_le1 W (v := v) (w := up s w) (by omega)
    omega
  unfold bt Km460.between
  simp only [meet_lt W hw h]
  rw [line_pos W (v := w) (by omega) h]
  simp [List.takeWhile_cons, hm]

abbrev far (s : Valley) (v w : Nat) : Nat := Km457.far s v w
theorem far_self {v : Nat} (h : v < s.length) : far s v v = 0 := by
  obtain ⟨t, ht⟩ := line_head W h
  unfold far Km457.far climb
  simp [meet_self W h, ht, ksum]
theorem far_gt {v w : Nat} (hw : w < v) (h : v < s.length) : far s v w = ln s v + far s (up s v) w := by
  have hm : ¬ v = meet s (up s v) w := by
    have := meet_le2 W (v := up s v) (w := w) (by omega)
    omega
  unfold far Km457.far climb
  simp only [meet_gt W hw h, ksum]
  rw [line_pos W (by omega) h]
  simp [List.takeWhile_cons, hm, ln]
  omega
theorem far_lt {v w : Nat} (hw : v < w) (h : w < s.length) : far s v w = far s v (up s w) + ln s w := by
  have hm : ¬ w = meet s v (up s w) := by
    have := meet_le1 W (v := v) (w := up s w) (by omega)
    omega
  unfold far Km457.far climb
  simp only [meet_lt W hw h, ksum]
  rw [line_pos W (v := w) (by omega) h]
  simp [List.takeWhile_cons, hm, ln]
  omega

/-- induction along the way between -/
theorem bt_ind {P : Nat → Nat → Prop} (hs : ∀ v, v < s.length → P v v) (hg : ∀ v w, w < v → v < s.length → P (up s v) w → P v w) (hl : ∀ v w, v < w → w < s.length → P v (up s w) → P v w) :
    ∀ v w, v < s.length → w < s.length → P v w := by
  have key : ∀ n v w, v + w < n → v < s.length → w < s.length → P v w := by
    intro n
    induction n with
    | zero => intro v w h; omega
    | succ n ih =>
      intro v w h hv hw
      rcases Nat.lt_trichotomy v w with e | e | e
      · have hu := W.upl w (by omega)
        exact hl v w e hw (ih _ _ (by omega) hv (by omega))
      · subst e; exact hs v hv
      · have hu := W.upl v (by omega)
        exact hg v w e hv (ih _ _ (by omega) (by omega) hw)
  exact fun v w => key (v + w + 1) v w (by omega)

theorem bt_le : ∀ v w, v < s.length → w < s.length → ∀ x ∈ bt s v w, x ≤ max v w := by
  refine bt_ind W ?_ ?_ ?_
  · intro v h x hx; rw [bt_self W h] at hx; simp at hx; omega
  · intro v w hw h ih x hx
    have hu := W.upl v (by omega)
    rw [bt_gt W hw h] at hx
    rcases List.mem_cons.mp hx with rfl | hx
    · omega
    · have := ih x hx; omega
  · intro v w hw h ih x hx
    have hu := W.upl w (by omega)
    rw [bt_lt W hw h] at hx
    rcases List.mem_append.mp hx with hx | hx
    · have := ih x hx; omega
    · simp at hx; omega
theorem bt_in {v w x : Nat} (hv : v < s.length) (hw : w < s.length) (hx : x ∈ bt s v w) : x < s.length := by
  have := bt_le W v w hv hw x hx; omega
theorem bt_head : ∀ v w, v < s.length → w < s.length → ∃ t, bt s v w = v :: t := by
  refine bt_ind W ?_ ?_ ?_
  · intro v h; exact ⟨[], bt_self W h⟩
  · intro v w hw h _; exact ⟨_, bt_gt W hw h⟩
  · intro v w hw h ⟨t, e⟩; exact ⟨t ++ [w], by rw [bt_lt W hw h, e]; rfl⟩
theorem bt_last : ∀ v w, v < s.length → w < s.length → ∃ t, bt s v w = t ++ [w] := by
  refine bt_ind W ?_ ?_ ?_
  · intro v h; exact ⟨[], bt_self W h⟩
  · intro v w hw h ⟨t, e⟩; exact ⟨v :: t, by rw [bt_gt W hw h, e]; rfl⟩
  · intro v w hw h _; exact ⟨_, bt_lt W hw h⟩
theorem bt_nodup : ∀ v w, v < s.length → w < s.length → (bt s v w).Nodup := by
  refine bt_ind W ?_ ?_ ?_
  · intro v h; rw [bt_self W h]; simp
  · intro v w hw h ih
    have hu := W.upl v (by omega)
    rw [bt_gt W hw h]
    refine List.nodup_cons.mpr ⟨fun hm => ?_, ih⟩
    have := bt_le W _ _ (by omega) (by omega) _ hm
    omega
  · intro v w hw h ih
    have hu := W.upl w (by omega)
    rw [bt_lt W hw h]
    refine List.nodup_append.mpr ⟨ih, by simp, fun x hx y hy e => ?_⟩
    simp at hy
    subst hy e
    have := bt_le W _ _ (by omega) (by omega) _ hx
    omega
theorem nodup_len : ∀ (n : Nat) (l : List Nat), l.Nodup → (∀ x ∈ l, x < n) → l.length ≤ n := by
  intro n l h1 h2
  have : l.length ≤ (List.range n).length := h1.length_le_of_subset fun x hx => List.mem_range.mpr (h2 x hx)
  simpa using this
theorem bt_few {v w : Nat} (hv : v < s.length) (hw : w < s.length) : (bt s v w).length ≤ s.length :=
  nodup_len W _ _ (bt_nodup W v w hv hw) fun x hx => bt_in W hv hw hx
end
end VR
end
noncomputable section
set_option linter.all false
namespace VR
open Km457 (Valley Village at_ lineGo line climb meet)

/-- beside each other -/
def Adj (s : Valley) (v w : Nat) : Prop := (0 < w ∧ up s w = v) ∨ (0 < v ∧ up s v = w)
theorem Adj.symm {s : Valley} {v w : Nat} (h : Adj s v w) : Adj s w v := h.elim .inr .inl

section
variable {s : Valley} (W : WF s)
include W

theorem step_up {w : Nat} (hw : 0 < w) (hws : w < s.length) : ∀ a, a < s.length → (bt s a (up s w) = bt s a w ++ [up s w] ∨ bt s a w = bt s a (up s w) ++ [w]) := by
  intro a
  have hu := W.upl w hw
  induction a using Nat.strongRecOn with
  | _ a ih =>
    intro ha
    rcases Nat.lt_trichotomy a w with e | e | e
    · exact .inr (bt_lt W e hws)
    · subst e
      refine .inl ?_
      rw [bt_gt W hu hws, bt_self W (by omega), bt_self W hws]
      rfl
    · have hua := W.upl a (by omega)
      rw [bt_gt W (v := a) (w := up s w) (by omega) ha, bt_gt W (v := a) (w := w) e ha]
      rcases ih _ hua (by omega) with q | q
      · exact .inl (by rw [q]; rfl)
      · exact .inr (by rw [q]; rfl)
/-- of two beside each other the way to one goes by the other -/
theorem step_adj {a v w : Nat} (ha : a < s.length) (hv : v < s.length) (hw : w < s.length) (h : Adj s v w) : bt s a v = bt s a w ++ [v] ∨ bt s a w = bt s a v ++ [w] := by
  rcases h with ⟨h0, e⟩ | ⟨h0, e⟩
  · subst e; exact step_up W h0 hw a ha
  · subst e; exact (step_up W h0 hv a ha).symm
theorem bt_pre : ∀ a F, a < s.length → F < s.length → ∀ x ∈ bt s a F, ∃ t, bt s a F = bt s a x ++ t := by
  refine bt_ind W ?_ ?_ ?_
  · intro v h x hx
    rw [bt_self W h] at hx
    simp at hx
    subst hx
    exact ⟨[], by simp⟩
  · intro v w hw h ih x hx
    have hu := W.upl v (by omega)
    rw [bt_gt W hw h] at hx ⊢
    rcases List.mem_cons.mp hx with rfl | hx
    · exact ⟨_, by rw [bt_self W h]; rfl⟩
    · have := bt_le W _ _ (by omega) (by omega) x hx
      obtain ⟨t, e⟩ := ih x hx
      exact ⟨t, by rw [bt_gt W (by omega) h, e]; rfl⟩
  · intro v w hw h ih x hx
    rw [bt_lt W hw h] at hx ⊢
    rcases List.mem_append.mp hx with hx | hx
    · obtain ⟨t, e⟩ := ih x hx
      exact ⟨t ++ [w], by rw [e, List.append_assoc]⟩
    · simp at hx
      subst hx
      exact ⟨[], by rw [bt_lt W hw h]; simp⟩
theorem bt_ne {a v : Nat} (ha : a < s.length) (hv : v < s.length) : bt s a v ≠ [] := by
  obtain ⟨t, e⟩ := bt_head W a v ha hv
  rw [e]; simp
theorem bt_mem_last {a v : Nat} (ha : a < s.length) (hv : v < s.length) : v ∈ bt s a v := by
  obtain ⟨t, e⟩ := bt_last W a v ha hv
  rw [e]; simp
theorem bt_mem_head {a v : Nat} (ha : a < s.length) (hv : v < s.length) : a ∈ bt s a v := by
  obtain ⟨t, e⟩ := bt_head W a v ha hv
  rw [e]; simp
theorem bt_inj {a v w : Nat} (ha : a < s.length) (hv : v < s.length) (hw : w < s.length) (e : bt s a v = bt s a w) : v = w := by
  obtain ⟨t, e1⟩ := bt_last W a v ha hv
  obtain ⟨u, e2⟩ := bt_last W a w ha hw
  rw [e1, e2] at e
  have := (List.append_inj' e rfl).2
  simpa using this

/-- two villages one behind the other on a way: the way to the second is the way to the first and it -/
theorem bt_cut {a F : Nat} (ha : a < s.length) (hF : F < s.length) {A t : List Nat} {w : Nat} (e : bt s a F = A ++ w :: t) : bt s a w = A ++ [w] := by
  have hm : w ∈ bt s a F := by rw [e]; simp
  have hw := bt_in W ha hF hm
  obtain ⟨u, e2⟩ := bt_pre W a F ha hF w hm
  obtain ⟨B, e3⟩ := bt_last W a w ha hw
  have nd := bt_nodup W a F ha hF
  rw [e2, e3, List.append_assoc] at e
  rw [e2, e3, List.append_assoc] at nd
  have key : ∀ (A B t u : List Nat), (B ++ ([w] ++ u)).Nodup → B ++ ([w] ++ u) = A ++ w :: t → B = A := by
    intro A
    induction A with
    | nil =>
      intro B t u nd e
      cases B with
      | nil => rfl
      | cons b B =>
        simp at e nd
        exact absurd e.1 (by intro z; exact nd.1.2.1 z)
    | cons x A ih =>
      intro B t u nd e
      cases B with
      | nil =>
        simp at e nd
        have : w ∈ u := by rw [e.2]; simp
        exact absurd this nd.1
      | cons b B =>
        simp only [List.cons_append, List.cons.injEq] at e
        rw [e.1, ih B t u (by simp only [List.cons_append, List.nodup_cons] at nd; exact nd.2) e.2]
  rw [e3, key A B t u nd e]

/-- on a way, one behind another are beside each other -/
theorem bt_adj : ∀ a F, a < s.length → F < s.length → ∀ (A t : List Nat) (v w : Nat), bt s a F = A ++ v :: w :: t → Adj s v w := by
  refine bt_ind W ?_ ?_ ?_
  · intro v h A t x y e
    rw [bt_self W h] at e
    have := congrArg List.length e
    simp at this
    omega
  · intro v w hw h ih A t x y e
    have hu := W.upl v (by omega)
    rw [bt_gt W hw h] at e
    cases A with
    | nil =>
      simp only [List.nil_append, List.cons.injEq] at e
      obtain ⟨t', e'⟩ := bt_head W (up s v) w (by omega) (by omega)
      rw [e'] at e
      have e2 : up s v = y := by simpa using (List.cons.inj e.2).1
      exact .inr ⟨by omega, by rw [← e.1]; exact e2⟩
    | cons b A =>
      simp only [List.cons_append, List.cons.injEq] at e
      exact ih A t x y e.2
  · intro v w hw h ih A t x y e
    have hu := W.upl w (by omega)
    rw [bt_lt W hw h] at e
    rcases List.eq_nil_or_concat t with rfl | ⟨t', z, rfl⟩
    · obtain ⟨B, e'⟩ := bt_last W v (up s w) (by omega) (by omega)
      rw [e', show A ++ [x, y] = (A ++ [x]) ++ [y] by simp] at e
      have e1 := List.append_inj' e rfl
      have e2 := List.append_inj' e1.1 rfl
      have e3 : w = y := by simpa using e1.2
      have e4 : up s w = x := by simpa using e2.2
      exact .inl ⟨by omega, by rw [← e3]; exact e4⟩
    · rw [show A ++ x :: y :: t'.concat z = (A ++ x :: y :: t') ++ [z] by simp] at e
      have e1 := List.append_inj' e rfl
      exact ih A t' x y e1.1

theorem far_adj {v w : Nat} (hv : v < s.length) (hw : w < s.length) (h : Adj s v w) : far s v w = ln s (max v w) := by
  rcases h with ⟨h0, e⟩ | ⟨h0, e⟩
  · have := W.upl w h0
    subst e
    rw [far_lt W (by omega) hw, far_self W (by omega), Nat.max_eq_right (by omega)]
    omega
  · have := W.upl v h0
    subst e
    rw [far_gt W (by omega) hv, far_self W (by omega), Nat.max_eq_left (by omega)]
    omega
theorem far_comm : ∀ v w, v < s.length → w < s.length → far s v w = far s w v := by
  refine bt_ind W ?_ ?_ ?_
  · intro v h; rfl
  · intro v w hw h ih
    rw [far_gt W hw h, far_lt W (v := w) (w := v) hw h, ih]
    omega
  · intro v w hw h ih
    rw [far_lt W hw h, far_gt W (v := w) (w := v) hw h, ih]
    omega
/-- one step further -/
theorem far_step {a v w : Nat} (ha : a < s.length) (hv : v < s.length) (hw : w < s.length) (h : Adj s v w) (e : bt s a w = bt s a v ++ [w]) : far s a w = far s a v + ln s (max v w) := by
  have key : ∀ a, a < s.length → bt s a w = bt s a v ++ [w] → far s a w = far s a v + ln s (max v w) := by
    intro a
    induction a using Nat.strongRecOn with
    | _ a ih =>
      intro ha e
      rcases h with ⟨h0, q⟩ | ⟨h0, q⟩
      · have hu := W.upl w h0
        rcases Nat.lt_trichotomy a w with z | z | z
        · rw [far_lt W z hw, q, Nat.max_eq_right (by omega)]
        · subst z
          rw [bt_self W ha] at e
          have h1 := congrArg List.length e
          obtain ⟨u, hne⟩ := bt_head W a v ha hv
          rw [hne] at h1
          simp at h1
        · have hua := W.upl a (by omega)
          rw [bt_gt W z ha, bt_gt W (v := a) (w := v) (by omega) ha] at e
          have e' : bt s (up s a) w = bt s (up s a) v ++ [w] := by simpa using e
          rw [far_gt W z ha, far_gt W (v := a) (w := v) (by omega) ha, ih _ hua (by omega) e']
          omega
      · have hu := W.upl v h0
        rcases Nat.lt_trichotomy a v with z | z | z
        · exfalso
          rw [bt_lt W z hv, q] at e
          have := congrArg List.length e
          simp at this
        · subst z
          subst q
          rw [far_gt W hu ha, far_self W ha, far_self W (by omega), Nat.max_eq_left (by omega)]
          omega
        · have hua := W.upl a (by omega)
          rw [bt_gt W (v := a) (w := w) (by omega) ha, bt_gt W (v := a) (w := v) z ha] at e
          have e' : bt s (up s a) w = bt s (up s a) v ++ [w] := by simpa using e
          rw [far_gt W (v := a) (w := w) (by omega) ha, far_gt W (v := a) (w := v) z ha, ih _ hua (by omega) e']
          omega
  exact key a ha e
theorem far_pos {v w : Nat} (hv : v < s.length) (hw : w < s.length) (h : v ≠ w) : 0 < far s v w := by
  rcases Nat.lt_or_gt_of_ne h with z | z
  · rw [far_lt W z hw]
    have := (W.ln1 w (by omega) hw).1
    omega
  · rw [far_gt W z hv]
    have := (W.ln1 v (by omega) hv).1
    omega

/-! ### the roads of a walk -/
/-- a walk from village to village beside each other -/
def Walk (s : Valley) : List Nat → Prop
  | [] => True
  | [v] => v < s.length
  | v :: w :: l => v < s.length ∧ Adj s v w ∧ Walk s (w :: l)
omit W in
theorem Walk.hd {v : Nat} {l : List Nat} (h : Walk s (v :: l)) : v < s.length := by
  cases l with
  | nil => exact h
  | cons w l => exact h.1
omit W in
theorem Walk.tl {v : Nat} {l : List Nat} (h : Walk s (v :: l)) : Walk s l := by
  cases l with
  | nil => trivial
  | cons w l => exact h.2.2
omit W in
theorem Walk.app : ∀ {l : List Nat} {v w : Nat} {r : List Nat}, Walk s (l ++ [v]) → Adj s v w → Walk s (w :: r) → Walk s (l ++ v :: w :: r)
  | [], v, w, r, h1, h2, h3 => ⟨h1, h2, h3⟩
  | [x], v, w, r, h1, h2, h3 => ⟨h1.1, h1.2.1, Walk.app (l := []) h1.2.2 h2 h3⟩
  | x :: y :: l, v, w, r, h1, h2, h3 => ⟨h1.1, h1.2.1, Walk.app (l := y :: l) h1.2.2 h2 h3⟩
omit W in
theorem Walk.left : ∀ {l r : List Nat}, Walk s (l ++ r) → Walk s l
  | [], r, h => trivial
  | [x], r, h => h.hd
  | x :: y :: l, r, h => ⟨h.1, h.2.1, Walk.left (l := y :: l) h.2.2⟩
omit W in
theorem Walk.right : ∀ {l r : List Nat}, Walk s (l ++ r) → Walk s r
  | [], r, h => h
  | x :: l, r, h => Walk.right (l := l) h.tl
omit W in
theorem Walk.all : ∀ {l : List Nat}, Walk s l → ∀ x ∈ l, x < s.length
  | [], _, x, hx => by simp at hx
  | v :: l, h, x, hx => by
    rcases List.mem_cons.mp hx with rfl | hx
    · exact h.hd
    · exact Walk.all h.tl x hx
/-- the roads of a walk, by the greater village -/
def rds : List Nat → List Nat
  | [] => []
  | [_] => []
  | v :: w :: l => max v w :: rds (w :: l)
omit W in
theorem rds_app : ∀ (l : List Nat) (v : Nat) (r : List Nat), rds (l ++ v :: r) = rds (l ++ [v]) ++ rds (v :: r)
  | [], v, r => by simp [rds]
  | [x], v, r => by simp [rds]
  | x :: y :: l, v, r => by
    have := rds_app (y :: l) v r
    simp only [List.cons_append] at this ⊢
    simp only [rds, this, List.cons_append]
theorem long_rds : ∀ {l : List Nat}, Walk s l → Km460.long s l = ((rds l).map (ln s)).sum
  | [], _ => rfl
  | [_], _ => rfl
  | v :: w :: l, h => by
    show Km457.far s v w + Km460.long s (w :: l) = _
    rw [long_rds h.2.2]
    have := far_adj W h.1 h.2.2.hd h.2.1
    unfold far at this
    rw [this]
    simp [rds]
theorem bt_walk : ∀ v w, v < s.length → w < s.length → Walk s (bt s v w) := by
  intro a F ha hF
  have key : ∀ l, ∀ A, bt s a F = A ++ l → Walk s l := by
    intro l
    induction l with
    | nil => intro A e; trivial
    | cons x l ih =>
      intro A e
      have hx := bt_in W ha hF (x := x) (by rw [e]; simp)
      cases l with
      | nil => exact hx
      | cons y l => exact ⟨hx, bt_adj W a F ha hF A l x y e, ih (A ++ [x]) (by rw [e]; simp)⟩
  exact key _ [] rfl
theorem far_rds : ∀ v w, v < s.length → w < s.length → far s v w = ((rds (bt s v w)).map (ln s)).sum := by
  refine bt_ind W ?_ ?_ ?_
  · intro v h; rw [far_self W h, bt_self W h]; rfl
  · intro v w hw h ih
    have hu := W.upl v (by omega)
    obtain ⟨t, e⟩ := bt_head W (up s v) w (by omega) (by omega)
    rw [far_gt W hw h, bt_gt W hw h, ih, e]
    simp only [rds, List.map_cons, List.sum_cons]
    rw [Nat.max_eq_left (by omega)]
  · intro v w hw h ih
    have hu := W.upl w (by omega)
    obtain ⟨t, e⟩ := bt_last W v (up s w) (by omega) (by omega)
    rw [far_lt W hw h, bt_lt W hw h, ih, e, List.append_assoc]
    show _ = ((rds (t ++ up s w :: [w])).map (ln s)).sum
    rw [rds_app t (up s w) [w]]
    simp only [rds, List.map_append, List.sum_append_nat, List.map_cons, List.map_nil, List.sum_cons, List.sum_nil]
    rw [Nat.max_eq_right (by omega)]
    omega
/-- a road of the way between: both its villages are on it -/
theorem rds_bt : ∀ a w, a < s.length → w < s.length → ∀ x, x ∈ rds (bt s a w) ↔ (x ≠ 0 ∧ x ∈ bt s a w ∧ up s x ∈ bt s a w) := by
  refine bt_ind W ?_ ?_ ?_
  · intro v h x
    rw [bt_self W h]
    simp only [rds, List.mem_singleton]
    constructor
    · intro z; cases z
    · rintro ⟨h0, rfl, e⟩
      have := W.upl x (by omega)
      omega
  · intro v w hw h ih x
    have hu := W.upl v (by omega)
    obtain ⟨t, e⟩ := bt_head W (up s v) w (by omega) (by omega)
    have hmem := ih x
    have nov : v ∉ bt s (up s v) w := fun z => by have := bt_le W _ _ (by omega) (by omega) v z; omega
    rw [bt_gt W hw h]
    have er : rds (v :: bt s (up s v) w) = v :: rds (bt s (up s v) w) := by
      rw [e]; simp only [rds]; rw [Nat.max_eq_left (by omega)]
    rw [er, List.mem_cons, hmem]
    constructor
    · rintro (rfl | ⟨h0, h1, h2⟩)
      · exact ⟨by omega, by simp, List.mem_cons_of_mem _ (by rw [e]; simp)⟩
      · exact ⟨h0, List.mem_cons_of_mem _ h1, List.mem_cons_of_mem _ h2⟩
    · rintro ⟨h0, h1, h2⟩
      rcases List.mem_cons.mp h1 with rfl | h1
      · exact .inl rfl
      · refine .inr ⟨h0, h1, ?_⟩
        rcases List.mem_cons.mp h2 with z | h2
        · have := bt_le W _ _ (by omega) (by omega) x h1
          have := W.upl x (by omega)
          omega
        · exact h2
  · intro v w hw h ih x
    have hu := W.upl w (by omega)
    obtain ⟨t, e⟩ := bt_last W v (up s w) (by omega) (by omega)
    have hmem := ih x
    rw [bt_lt W hw h]
    have er : rds (bt s v (up s w) ++ [w]) = rds (bt s v (up s w)) ++ [w] := by
      rw [e, List.append_assoc]
      show rds (t ++ up s w :: [w]) = _
      rw [rds_app t]
      simp only [rds]
      rw [Nat.max_eq_right (by omega)]
    rw [er, List.mem_append, hmem, List.mem_singleton]
    constructor
    · rintro (⟨h0, h1, h2⟩ | rfl)
      · exact ⟨h0, List.mem_append_left _ h1, List.mem_append_left _ h2⟩
      · exact ⟨by omega, by simp, List.mem_append_left _ (by rw [e]; simp)⟩
    · rintro ⟨h0, h1, h2⟩
      rcases List.mem_append.mp h1 with h1 | h1
      · refine .inl ⟨h0, h1, ?_⟩
        rcases List.mem_append.mp h2 with h2 | h2
        · exact h2
        · simp at h2
          have := bt_le W _ _ (by omega) (by omega) x h1
          have := W.upl x (by omega)
          omega
      · simp at h1
        exact .inr h1
end
end VR
end
noncomputable section
set_option linter.all false
namespace VR
open Km457 (Valley Village at_ lineGo line climb meet)
open Km460 (nexts tourGo)

theorem mem_nexts {s : Valley} {r : List Nat} {v w : Nat} : w ∈ nexts s r v ↔ w < s.length ∧ ((w ∈ r ∧ up s w = v ∧ w ≠ 0) ∨ (v ∈ r ∧ up s v = w ∧ v ≠ 0)) := by
  unfold nexts Km457.all
  rw [List.mem_filter, List.mem_range]
  simp [and_assoc]
theorem nexts_sorted {s : Valley} {r : List Nat} {v : Nat} : (nexts s r v).Pairwise (· < ·) := by
  unfold nexts Km457.all
  exact List.Pairwise.filter _ List.pairwise_lt_range
theorem nodup_of_lt {l : List Nat} (h : l.Pairwise (· < ·)) : l.Nodup := h.imp fun h => Nat.ne_of_lt h
theorem nexts_nodup {s : Valley} {r : List Nat} {v : Nat} : (nexts s r v).Nodup := nodup_of_lt nexts_sorted
theorem nexts_adj {s : Valley} {r : List Nat} {v w : Nat} (h : w ∈ nexts s r v) : Adj s v w := by
  rcases (mem_nexts.mp h).2 with ⟨_, h1, h2⟩ | ⟨_, h1, h2⟩
  · exact .inl ⟨by omega, h1⟩
  · exact .inr ⟨by omega, h1⟩
/-- the road to a next village -/
theorem nexts_road {s : Valley} (W : WF s) {r : List Nat} {v w : Nat} (h : w ∈ nexts s r v) : max v w ∈ r := by
  rcases (mem_nexts.mp h).2 with ⟨h0, h1, h2⟩ | ⟨h0, h1, h2⟩
  · have := W.upl w (by omega)
    rw [Nat.max_eq_right (by omega)]; exact h0
  · have := W.upl v (by omega)
    rw [Nat.max_eq_left (by omega)]; exact h0
theorem nexts_of_road {s : Valley} (W : WF s) {r : List Nat} {v w : Nat} (hw : w < s.length) (h : Adj s v w) (hr : max v w ∈ r) : w ∈ nexts s r v := by
  refine mem_nexts.mpr ⟨hw, ?_⟩
  rcases h with ⟨h0, h1⟩ | ⟨h0, h1⟩
  · have := W.upl w (by omega)
    rw [Nat.max_eq_right (by omega)] at hr
    exact .inl ⟨hr, h1, by omega⟩
  · have := W.upl v (by omega)
    rw [Nat.max_eq_left (by omega)] at hr
    exact .inr ⟨hr, h1, by omega⟩

/-- the next villages, but for one, those of e last -/
def ord (s : Valley) (r e : List Nat) (from_ v : Nat) : List Nat :=
  (((nexts s r v).filter fun w => w != from_).filter fun w => !e.contains w) ++ (((nexts s r v).filter fun w => w != from_).filter fun w => e.contains w)
theorem tour_succ (s : Valley) (r e : List Nat) (f from_ v : Nat) : tourGo s r e (f + 1) from_ v = (ord s r e from_ v).flatMap fun w => [w] ++ tourGo s r e f v w ++ [v] := rfl
theorem mem_ord {s : Valley} {r e : List Nat} {from_ v w : Nat} : w ∈ ord s r e from_ v ↔ w ∈ nexts s r v ∧ w ≠ from_ := by
  unfold ord
  simp only [List.mem_append, List.mem_filter]
  constructor
  · rintro (⟨⟨h1, h2⟩, _⟩ | ⟨⟨h1, h2⟩, _⟩) <;> exact ⟨h1, by simpa using h2⟩
  · rintro ⟨h1, h2⟩
    by_cases h : e.contains w = true
    · exact .inr ⟨⟨h1, by simpa using h2⟩, h⟩
    · exact .inl ⟨⟨h1, by simpa using h2⟩, by simpa using h⟩
theorem nodup_filter {l : List Nat} (p : Nat → Bool) (h : l.Nodup) : (l.filter p).Nodup := List.Pairwise.filter p h
theorem ord_nodup {s : Valley} {r e : List Nat} {from_ v : Nat} : (ord s r e from_ v).Nodup := by
  unfold ord
  refine List.nodup_append.mpr ⟨nodup_filter _ (nodup_filter _ nexts_nodup), nodup_filter _ (nodup_filter _ nexts_nodup), ?_⟩
  intro x hx y hy z
  subst z
  have h1 := (List.mem_filter.mp hx).2
  have h2 := (List.mem_filter.mp hy).2
  rw [h2] at h1
  cases h1

/-- the roads that a tour goes, each once -/
def rdsGo (s : Valley) (r e : List Nat) : Nat → Nat → Nat → List Nat
  | 0, _, _ => []
  | f + 1, from_, v => (ord s r e from_ v).flatMap fun w => max v w :: rdsGo s r e f v w

section
variable {s : Valley} (W : WF s)
include W

/-- a tour comes back, and its roads -/
theorem tour_walk (r e : List Nat) : ∀ (f from_ v : Nat), v < s.length → Walk s (v :: tourGo s r e f from_ v) ∧ (∃ t, v :: tourGo s r e f from_ v = t ++ [v]) ∧
    ((rds (v :: tourGo s r e f from_ v)).map (ln s)).sum = 2 * ((rdsGo s r e f from_ v).map (ln s)).sum := by
  intro f
  induction f with
  | zero => intro from_ v hv; exact ⟨hv, ⟨[], rfl⟩, rfl⟩
  | succ f ih =>
    intro from_ v hv
    rw [tour_succ]
    show _ ∧ _ ∧ _ = 2 * (((ord s r e from_ v).flatMap fun w => max v w :: rdsGo s r e f v w).map (ln s)).sum
    have key : ∀ (l : List Nat), (∀ w ∈ l, w ∈ nexts s r v) →
        Walk s (v :: l.flatMap fun w => [w] ++ tourGo s r e f v w ++ [v]) ∧ (∃ t, (v :: l.flatMap fun w => [w] ++ tourGo s r e f v w ++ [v]) = t ++ [v]) ∧
        ((rds (v :: l.flatMap fun w => [w] ++ tourGo s r e f v w ++ [v])).map (ln s)).sum = 2 * ((l.flatMap fun w => max v w :: rdsGo s r e f v w).map (ln s)).sum := by
      intro l
      induction l with
      | nil => intro _; exact ⟨hv, ⟨[], rfl⟩, rfl⟩
      | cons w l ihl =>
        intro hl
        obtain ⟨k1, ⟨t, k2⟩, k3⟩ := ihl fun x hx => hl x (List.mem_cons_of_mem _ hx)
        have hn := hl w List.mem_cons_self
        have hw := (mem_nexts.mp hn).1
        have ha := nexts_adj hn
        obtain ⟨i1, ⟨u, i2⟩, i3⟩ := ih v w hw
        rw [List.flatMap_cons]
        have e1 : (v :: ([w] ++ tourGo s r e f v w ++ [v] ++ l.flatMap fun w => [w] ++ tourGo s r e f v w ++ [v])) =
            [v] ++ ((w :: tourGo s r e f v w) ++ (v :: l.flatMap fun w => [w] ++ tourGo s r e f v w ++ [v])) := by simp
        rw [e1]
        generalize (l.flatMap fun w => [w] ++ tourGo s r e f v w ++ [v]) = rest at *
        refine ⟨?_, ?_, ?_⟩
        · rw [i2, List.append_assoc]
          have z : Walk s (u ++ w :: v :: rest) := Walk.app (by rw [← i2]; exact i1) ha.symm k1
          rw [i2] at i1
          have z2 : ∃ y, u ++ [w] ++ (v :: rest) = w :: y := by
            rw [← i2]; exact ⟨_, rfl⟩
          obtain ⟨y, hy⟩ := z2
          rw [List.append_assoc] at hy
          rw [hy] 
          refine ⟨hv, ha, ?_⟩
          rw [← hy]
          exact z
        · exact ⟨[v] ++ (w :: tourGo s r e f v w) ++ t, by rw [k2]; simp⟩
        · have e2 : rds ([v] ++ ((w :: tourGo s r e f v w) ++ v :: rest)) = max v w :: (rds (w :: tourGo s r e f v w) ++ (max w v :: rds (v :: rest))) := by
            show max v w :: rds (w :: (tourGo s r e f v w ++ v :: rest)) = _
            have : w :: (tourGo s r e f v w ++ v :: rest) = u ++ w :: v :: rest := by
              have q : w :: (tourGo s r e f v w ++ v :: rest) = (w :: tourGo s r e f v w) ++ v :: rest := rfl
              rw [q, i2]; simp
            rw [this, rds_app u w (v :: rest), ← i2]
            rfl
          rw [e2, List.flatMap_cons]
          simp only [List.map_cons, List.sum_cons, List.map_append, List.sum_append_nat, List.cons_append]
          rw [i3, k3, Nat.max_comm w v]
          omega
    exact key _ fun w hw => (mem_ord.mp hw).1

/-- where a tour from a has come, from where -/
def Came (s : Valley) (a from_ v : Nat) : Prop := (v = a ∧ s.length ≤ from_) ∨ (from_ < s.length ∧ bt s a v = bt s a from_ ++ [v])
theorem came_next {a from_ v w : Nat} (ha : a < s.length) (hv : v < s.length) (hw : w < s.length) (h : Came s a from_ v) (hadj : Adj s v w) (hne : w ≠ from_) : bt s a w = bt s a v ++ [w] := by
  rcases step_adj W ha hv hw hadj with q | q
  · exfalso
    rcases h with ⟨rfl, h⟩ | ⟨hf, h⟩
    · rw [bt_self W ha] at q
      have := congrArg List.length q
      obtain ⟨t, e⟩ := bt_head W v w ha hw
      rw [e] at this
      simp at this
    · rw [h] at q
      have := (List.append_inj' q rfl).1
      exact hne (bt_inj W ha hf hw this).symm
  · exact q
theorem came_on {a from_ v w : Nat} (ha : a < s.length) (hv : v < s.length) (hw : w < s.length) (h : Came s a from_ v) (hadj : Adj s v w) (hne : w ≠ from_) : Came s a v w :=
  .inr ⟨hv, came_next W ha hv hw h hadj hne⟩

/-- the far end of a road, seen from a -/
def FE (s : Valley) (a x y : Nat) : Prop := 0 < x ∧ ((y = x ∧ bt s a x = bt s a (up s x) ++ [x]) ∨ (y = up s x ∧ bt s a (up s x) = bt s a x ++ [up s x]))
theorem FE.uniq {a x y z : Nat} (h : FE s a x y) (h' : FE s a x z) : y = z := by
  obtain ⟨_, h⟩ := h
  obtain ⟨_, h'⟩ := h'
  rcases h with ⟨e1, h⟩ | ⟨e1, h⟩
  · rcases h' with ⟨e2, h'⟩ | ⟨e2, h'⟩
    · rw [e1, e2]
    · exfalso
      have l1 := congrArg List.length h
      have l2 := congrArg List.length h'
      simp at l1 l2
      omega
  · rcases h' with ⟨e2, h'⟩ | ⟨e2, h'⟩
    · exfalso
      have l1 := congrArg List.length h
      have l2 := congrArg List.length h'
      simp at l1 l2
      omega
    · rw [e1, e2]
theorem FE.of {a v w : Nat} (h : Adj s v w) (e : bt s a w = bt s a v ++ [w]) : FE s a (max v w) w := by
  rcases h with ⟨h0, h1⟩ | ⟨h0, h1⟩
  · have := W.upl w h0
    rw [Nat.max_eq_right (by omega)]
    exact ⟨h0, .inl ⟨rfl, by rw [h1]; exact e⟩⟩
  · have := W.upl v h0
    rw [Nat.max_eq_left (by omega)]
    exact ⟨h0, .inr ⟨h1.symm, by rw [h1]; exact e⟩⟩
/-- the road by its far end -/
theorem FE.road {a x v w : Nat} (ha : a < s.length) (hv : v < s.length) (hx : x < s.length) (h : FE s a x w) (hadj : Adj s v w) (e : bt s a w = bt s a v ++ [w]) : x = max v w := by
  obtain ⟨h0, h⟩ := h
  have hu := W.upl x h0
  rcases h with ⟨e1, h⟩ | ⟨e1, h⟩
  · subst e1
    rw [h] at e
    have := bt_inj W ha (by omega) hv (List.append_inj' e rfl).1
    rw [← this, Nat.max_eq_right (by omega)]
  · subst e1
    rw [h] at e
    have := bt_inj W ha hx hv (List.append_inj' e rfl).1
    rw [← this, Nat.max_eq_left (by omega)]

theorem rdsGo_mem {r e : List Nat} {a : Nat} (ha : a < s.length) : ∀ (f from_ v : Nat), v < s.length → Came s a from_ v → ∀ x ∈ rdsGo s r e f from_ v,
    x ∈ r ∧ ∃ y t, FE s a x y ∧ bt s a y = bt s a v ++ t ∧ t ≠ [] := by
  intro f
  induction f with
  | zero => intro from_ v hv hc x hx; simp [rdsGo] at hx
  | succ f ih =>
    intro from_ v hv hc x hx
    simp only [rdsGo, List.mem_flatMap] at hx
    obtain ⟨w, hw, hx⟩ := hx
    obtain ⟨hn, hne⟩ := mem_ord.mp hw
    have hws := (mem_nexts.mp hn).1
    have hadj := nexts_adj hn
    have e1 := came_next W ha hv hws hc hadj hne
    rcases List.mem_cons.mp hx with rfl | hx
    · exact ⟨nexts_road W hn, w, [w], FE.of W hadj e1, e1, by simp⟩
    · obtain ⟨h1, y, t, h2, h3, h4⟩ := ih v w hws (came_on W ha hv hws hc hadj hne) x hx
      exact ⟨h1, y, w :: t, h2, by rw [h3, e1, List.append_assoc]; rfl, by simp⟩
theorem rdsGo_nodup {r e : List Nat} {a : Nat} (ha : a < s.length) : ∀ (f from_ v : Nat), v < s.length → Came s a from_ v → (rdsGo s r e f from_ v).Nodup := by
  intro f
  induction f with
  | zero => intro from_ v hv hc; simp [rdsGo]
  | succ f ih =>
    intro from_ v hv hc
    simp only [rdsGo]
    -- what stands in the part of w has its far end beyond w
    have part : ∀ w ∈ ord s r e from_ v, ∀ x ∈ max v w :: rdsGo s r e f v w, ∃ y t, FE s a x y ∧ bt s a y = bt s a v ++ w :: t := by
      intro w hw x hx
      obtain ⟨hn, hne⟩ := mem_ord.mp hw
      have hws := (mem_nexts.mp hn).1
      have hadj := nexts_adj hn
      have e1 := came_next W ha hv hws hc hadj hne
      rcases List.mem_cons.mp hx with rfl | hx
      · exact ⟨w, [], FE.of W hadj e1, e1⟩
      · obtain ⟨h1, y, t, h2, h3, h4⟩ := rdsGo_mem W ha f v w hws (came_on W ha hv hws hc hadj hne) x hx
        exact ⟨y, t, h2, by rw [h3, e1, List.append_assoc]; rfl⟩
    refine List.pairwise_flatMap.mpr ⟨fun w hw => ?_, ?_⟩
    · obtain ⟨hn, hne⟩ := mem_ord.mp hw
      have hws := (mem_nexts.mp hn).1
      have hadj := nexts_adj hn
      have e1 := came_next W ha hv hws hc hadj hne
      refine List.nodup_cons.mpr ⟨fun hm => ?_, ih v w hws (came_on W ha hv hws hc hadj hne)⟩
      obtain ⟨h1, y, t, h2, h3, h4⟩ := rdsGo_mem W ha f v w hws (came_on W ha hv hws hc hadj hne) _ hm
      have := FE.uniq W h2 (FE.of W hadj e1)
      subst this
      have := congrArg List.length h3
      simp at this
      exact h4 this
    · have nd : (ord s r e from_ v).Pairwise (· ≠ ·) := ord_nodup
      refine List.Pairwise.imp_of_mem ?_ nd
      intro w1 w2 hw1 hw2 hne x hx y hy hxy
      subst hxy
      obtain ⟨y1, t1, f1, b1⟩ := part w1 hw1 x hx
      obtain ⟨y2, t2, f2, b2⟩ := part w2 hw2 x hy
      have := FE.uniq W f1 f2
      subst this
      rw [b1] at b2
      have := List.append_cancel_left b2
      exact hne (List.cons.inj this).1

/-- r holds the roads of the way to y -/
def Full (s : Valley) (a : Nat) (r : List Nat) (y : Nat) : Prop := ∀ (A t : List Nat) (v w : Nat), bt s a y = A ++ v :: w :: t → max v w ∈ r
theorem rdsGo_has {r e : List Nat} {a x y : Nat} (ha : a < s.length) (hx : x < s.length) (hy : y < s.length) (hfe : FE s a x y) (hfull : Full s a r y) :
    ∀ (f from_ v : Nat) (t : List Nat), v < s.length → Came s a from_ v → bt s a y = bt s a v ++ t → t ≠ [] → t.length ≤ f → x ∈ rdsGo s r e f from_ v := by
  intro f
  induction f with
  | zero => intro from_ v t hv hc he ht hl; cases t with
    | nil => exact absurd rfl ht
    | cons _ _ => simp at hl
  | succ f ih =>
    intro from_ v t hv hc he ht hl
    cases t with
    | nil => exact absurd rfl ht
    | cons w t =>
      obtain ⟨B, eB⟩ := bt_last W a v ha hv
      have e2 : bt s a y = B ++ v :: w :: t := by rw [he, eB]; simp
      have hadj := bt_adj W a y ha hy B t v w e2
      have hws : w < s.length := bt_in W ha hy (x := w) (by rw [he]; simp)
      have e1 : bt s a w = bt s a v ++ [w] := bt_cut W ha hy he
      have hne : w ≠ from_ := by
        rcases hc with ⟨rfl, h⟩ | ⟨hf, h⟩
        · omega
        · intro z
          subst z
          have l1 := congrArg List.length h
          have l2 := congrArg List.length e1
          simp at l1 l2
          omega
      have hr := hfull B t v w e2
      have hn : w ∈ ord s r e from_ v := mem_ord.mpr ⟨nexts_of_road W hws hadj hr, hne⟩
      simp only [rdsGo, List.mem_flatMap]
      refine ⟨w, hn, ?_⟩
      cases t with
      | nil =>
        have : y = w := bt_inj W ha hy hws (by rw [e1, he])
        subst this
        rw [FE.road W ha hv hx hfe hadj e1]
        simp
      | cons z t =>
        refine List.mem_cons_of_mem _ (ih v w (z :: t) hws (came_on W ha hv hws hc hadj hne) ?_ (by simp) (by simp at hl ⊢; omega))
        rw [he, e1]; simp
end
end VR
end
noncomputable section
set_option linter.all false
namespace VR
open Km457 (Valley Village at_ lineGo line climb meet)
open Km460 (nexts tourGo roads)

section
variable {s : Valley} (W : WF s)
include W

omit W in
theorem mem_roads {a x : Nat} {l : List Nat} : x ∈ roads s a l ↔ x < s.length ∧ x ≠ 0 ∧ ∃ c ∈ l, x ∈ bt s a c ∧ up s x ∈ bt s a c := by
  unfold roads Km457.all
  rw [List.mem_filter, List.mem_range]
  simp
omit W in
theorem roads_sorted {a : Nat} {l : List Nat} : (roads s a l).Pairwise (· < ·) := by
  unfold roads Km457.all
  exact List.Pairwise.filter _ List.pairwise_lt_range
theorem mem_roads' {a x : Nat} {l : List Nat} (ha : a < s.length) (hl : ∀ c ∈ l, c < s.length) : x ∈ roads s a l ↔ ∃ c ∈ l, x ∈ rds (bt s a c) := by
  rw [mem_roads]
  constructor
  · rintro ⟨h1, h2, c, hc, h3, h4⟩
    exact ⟨c, hc, (rds_bt W a c ha (hl c hc) x).mpr ⟨h2, h3, h4⟩⟩
  · rintro ⟨c, hc, h⟩
    obtain ⟨h2, h3, h4⟩ := (rds_bt W a c ha (hl c hc) x).mp h
    exact ⟨bt_in W ha (hl c hc) h3, h2, c, hc, h3, h4⟩
theorem full_of {a y c : Nat} {l : List Nat} (ha : a < s.length) (hl : ∀ c ∈ l, c < s.length) (hc : c ∈ l) (hy : y ∈ bt s a c) : Full s a (roads s a l) y := by
  intro A t v w e
  obtain ⟨u, e2⟩ := bt_pre W a c ha (hl c hc) y hy
  rw [e] at e2
  have hys := bt_in W ha (hl c hc) hy
  have hadj := bt_adj W a y ha hys A t v w e
  have hv : v ∈ bt s a c := by rw [e2]; simp
  have hw : w ∈ bt s a c := by rw [e2]; simp
  have hvs := bt_in W ha (hl c hc) hv
  have hws := bt_in W ha (hl c hc) hw
  rcases hadj with ⟨h0, h1⟩ | ⟨h0, h1⟩
  · have := W.upl w h0
    rw [Nat.max_eq_right (by omega)]
    exact mem_roads.mpr ⟨hws, by omega, c, hc, hw, by rw [h1]; exact hv⟩
  · have := W.upl v h0
    rw [Nat.max_eq_left (by omega)]
    exact mem_roads.mpr ⟨hvs, by omega, c, hc, hv, by rw [h1]; exact hw⟩
theorem full_self {a : Nat} {r : List Nat} (ha : a < s.length) : Full s a r a := by
  intro A t v w e
  rw [bt_self W ha] at e
  have := congrArg List.length e
  simp at this
  omega
theorem came_start {a n : Nat} (hn : s.length ≤ n) : Came s a n a := .inl ⟨rfl, hn⟩
/-- every road of a tour once: the roads that are needed -/
theorem rdsGo_perm {a : Nat} {l e : List Nat} (ha : a < s.length) (hl : ∀ c ∈ l, c < s.length) : (rdsGo s (roads s a l) e (s.length + 1) s.length a).Perm (roads s a l) := by
  refine (List.perm_ext_iff_of_nodup (rdsGo_nodup W ha _ _ _ ha (came_start W (Nat.le_refl _))) (nodup_of_lt roads_sorted)).mpr fun x => ⟨fun h => (rdsGo_mem W ha _ _ _ ha (came_start W (Nat.le_refl _)) x h).1, fun h => ?_⟩
  obtain ⟨h1, h2, c, hc, h3, h4⟩ := mem_roads.mp h
  have hu := W.upl x (by omega)
  have go : ∀ y z, y < s.length → z < s.length → y ∈ bt s a c → FE s a x y → bt s a y = bt s a z ++ [y] → x ∈ rdsGo s (roads s a l) e (s.length + 1) s.length a := by
    intro y z hy hz hyc hfe he
    obtain ⟨t, et⟩ := bt_head W a y ha hy
    have hlen := bt_few W ha hy
    obtain ⟨u, eu⟩ := bt_head W a z ha hz
    refine rdsGo_has W ha h1 hy hfe (full_of W ha hl hc hyc) (s.length + 1) s.length a t ha (came_start W (Nat.le_refl _)) (by rw [et, bt_self W ha]; rfl) ?_ ?_
    · intro z'
      rw [et, eu, z'] at he
      have := congrArg List.length he
      simp at this
    · rw [et] at hlen
      simp at hlen
      omega
  rcases step_up W (by omega) h1 a ha with q | q
  · exact go (up s x) x (by omega) h1 h4 ⟨by omega, .inr ⟨rfl, q⟩⟩ q
  · exact go x (up s x) h1 (by omega) h3 ⟨by omega, .inl ⟨rfl, q⟩⟩ q
theorem tour_long {a : Nat} {l e : List Nat} (ha : a < s.length) (hl : ∀ c ∈ l, c < s.length) :
    Walk s (a :: tourGo s (roads s a l) e (s.length + 1) s.length a) ∧ ((rds (a :: tourGo s (roads s a l) e (s.length + 1) s.length a)).map (ln s)).sum = Km460.round s a l := by
  obtain ⟨h1, _, h3⟩ := tour_walk W (roads s a l) e (s.length + 1) s.length a ha
  refine ⟨h1, ?_⟩
  rw [h3]
  unfold Km460.round Km460.length
  rw [ksum', ((rdsGo_perm W (e := e) ha hl).map (ln s)).sum_nat]

/-- a round's walk is as long as told -/
theorem round_long {a : Nat} {l : List Nat} (ha : a < s.length) (hl : ∀ c ∈ l, c < s.length) : Walk s (Km460.tour s a l) ∧ ((rds (Km460.tour s a l)).map (ln s)).sum = Km460.round s a l :=
  tour_long W ha hl

/-! ### the farthest -/
omit W in
theorem far_fold (a : Nat) (l : List Nat) : ∀ (L : List Nat) (r0 : Nat), 
    let F := L.foldl (fun r v => if l.contains v = true ∧ Km457.far s a r < Km457.far s a v then v else r) r0
    (F = r0 ∨ (F ∈ l ∧ F ∈ L)) ∧ far s a r0 ≤ far s a F ∧ ∀ v ∈ L, v ∈ l → far s a v ≤ far s a F := by
  intro L
  induction L with
  | nil => intro r0; exact ⟨.inl rfl, Nat.le_refl _, by simp⟩
  | cons x L ih =>
    intro r0
    simp only [List.foldl_cons]
    by_cases hc : l.contains x = true ∧ Km457.far s a r0 < Km457.far s a x
    · rw [if_pos hc]
      obtain ⟨h1, h2, h3⟩ := ih x
      have hx : x ∈ l := by simpa using hc.1
      refine ⟨?_, Nat.le_trans (Nat.le_of_lt hc.2) h2, ?_⟩
      · rcases h1 with h1 | ⟨h1, h1'⟩
        · rw [h1]; exact .inr ⟨hx, by simp⟩
        · exact .inr ⟨h1, List.mem_cons_of_mem _ h1'⟩
      · intro v hv hvl
        rcases List.mem_cons.mp hv with rfl | hv
        · exact h2
        · exact h3 v hv hvl
    · rw [if_neg hc]
      obtain ⟨h1, h2, h3⟩ := ih r0
      refine ⟨?_, h2, ?_⟩
      · rcases h1 with h1 | ⟨h1, h1'⟩
        · exact .inl h1
        · exact .inr ⟨h1, List.mem_cons_of_mem _ h1'⟩
      · intro v hv hvl
        rcases List.mem_cons.mp hv with rfl | hv
        · have : ¬ Km457.far s a r0 < Km457.far s a v := fun z => hc ⟨by simpa using hvl, z⟩
          unfold far at *
          omega
        · exact h3 v hv hvl
theorem farthest_or {a : Nat} {l : List Nat} : Km460.farthest s a l = a ∨ Km460.farthest s a l ∈ l := by
  have := (far_fold (s := s) a l (Km457.all s) a).1
  unfold Km460.farthest
  rcases this with h | h
  · exact .inl h
  · exact .inr h.1
theorem farthest_lt {a : Nat} {l : List Nat} (ha : a < s.length) (hl : ∀ c ∈ l, c < s.length) : Km460.farthest s a l < s.length := by
  rcases farthest_or W (a := a) (l := l) with h | h
  · rw [h]; exact ha
  · exact hl _ h
theorem farthest_max {a : Nat} {l : List Nat} (hl : ∀ c ∈ l, c < s.length) : ∀ c ∈ l, far s a c ≤ far s a (Km460.farthest s a l) := fun c hc =>
  (far_fold (s := s) a l (Km457.all s) a).2.2 c (List.mem_range.mpr (hl c hc)) hc
theorem farthest_full {a : Nat} {l : List Nat} (ha : a < s.length) (hl : ∀ c ∈ l, c < s.length) : Full s a (roads s a l) (Km460.farthest s a l) := by
  rcases farthest_or W (a := a) (l := l) with h | h
  · rw [h]; exact full_self W ha
  · exact full_of W ha hl h (bt_mem_last W ha (hl _ h))
/-- where the farthest is the beginning no road is needed -/
theorem farthest_none {a : Nat} {l : List Nat} (ha : a < s.length) (hl : ∀ c ∈ l, c < s.length) (h : Km460.farthest s a l = a) : roads s a l = [] := by
  refine List.eq_nil_iff_forall_not_mem.mpr fun x hx => ?_
  obtain ⟨c, hc, hx⟩ := (mem_roads' W ha hl).mp hx
  have h1 := farthest_max W (a := a) hl c hc
  rw [h, far_self W ha] at h1
  have : c = a := by
    by_cases e : c = a
    · exact e
    · have := far_pos W ha (hl c hc) (Ne.symm e)
      omega
  rw [this, bt_self W ha] at hx
  simp [rds] at hx

/-! ### trips: as the program goes them -/
def trips (s : Valley) (r : List Nat) : Nat → List Nat → Nat → List Nat
  | 0, _, v => [v]
  | f + 1, skip, v => v :: ((nexts s r v).filter fun w => !skip.contains w).flatMap fun w => trips s r f [v] w ++ [v]
omit W in
theorem ord_nil {r : List Nat} {from_ v : Nat} : ord s r [] from_ v = (nexts s r v).filter fun w => w != from_ := by
  unfold ord
  have e1 : (((nexts s r v).filter fun w => w != from_).filter fun w => !([] : List Nat).contains w) = (nexts s r v).filter fun w => w != from_ := List.filter_eq_self.mpr (by simp)
  have e2 : (((nexts s r v).filter fun w => w != from_).filter fun w => ([] : List Nat).contains w) = [] := List.filter_eq_nil_iff.mpr (by simp)
  rw [e1, e2, List.append_nil]
omit W in
theorem trips_tour {r : List Nat} : ∀ (f from_ v : Nat), trips s r f [from_] v = v :: tourGo s r [] f from_ v := by
  intro f
  induction f with
  | zero => intro from_ v; rfl
  | succ f ih =>
    intro from_ v
    rw [tour_succ, ord_nil]
    show v :: ((nexts s r v).filter fun w => !([from_] : List Nat).contains w).flatMap (fun w => trips s r f [v] w ++ [v]) = _
    have e1 : ((nexts s r v).filter fun w => !([from_] : List Nat).contains w) = (nexts s r v).filter fun w => w != from_ := by
      refine List.filter_congr fun x _ => ?_
      rw [List.contains_cons, List.contains_nil, Bool.or_false]
      rfl
    rw [e1]
    congr 1
    refine congrArg (fun g => List.flatMap g _) (funext fun w => ?_)
    rw [ih v w]
    rfl
omit W in
theorem trips_root {r : List Nat} {n : Nat} (hn : s.length ≤ n) (f v : Nat) : trips s r f [] v = v :: tourGo s r [] f n v := by
  cases f with
  | zero => rfl
  | succ f =>
    rw [tour_succ, ord_nil]
    show v :: ((nexts s r v).filter fun w => !([] : List Nat).contains w).flatMap (fun w => trips s r f [v] w ++ [v]) = _
    have e1 : ((nexts s r v).filter fun w => !([] : List Nat).contains w) = nexts s r v := List.filter_eq_self.mpr (by simp)
    have e2 : ((nexts s r v).filter fun w => w != n) = nexts s r v := List.filter_eq_self.mpr fun x hx => by
      have := (mem_nexts.mp hx).1
      simp
      omega
    rw [e1, e2]
    congr 1
    refine congrArg (fun g => List.flatMap g _) (funext fun w => ?_)
    rw [trips_tour f v w]
    rfl
omit W in
theorem flatMap_congr' {α β : Type} {f g : α → List β} : ∀ {l : List α}, (∀ x ∈ l, f x = g x) → l.flatMap f = l.flatMap g
  | [], _ => rfl
  | x :: l, h => by
    rw [List.flatMap_cons, List.flatMap_cons, h x List.mem_cons_self, flatMap_congr' fun y hy => h y (List.mem_cons_of_mem _ hy)]
/-- enough is enough -/
theorem tour_fuel {r e : List Nat} {a : Nat} (ha : a < s.length) : ∀ (f g from_ v : Nat), v < s.length → Came s a from_ v → s.length + 1 ≤ f + (bt s a v).length → s.length + 1 ≤ g + (bt s a v).length →
    tourGo s r e f from_ v = tourGo s r e g from_ v := by
  intro f
  induction f with
  | zero =>
    intro g from_ v hv hc h1 h2
    have := bt_few W ha hv
    omega
  | succ f ih =>
    intro g from_ v hv hc h1 h2
    have := bt_few W ha hv
    obtain ⟨g, rfl⟩ : ∃ k, g = k + 1 := ⟨g - 1, by omega⟩
    rw [tour_succ, tour_succ]
    refine flatMap_congr' fun w hw => ?_
    obtain ⟨hn, hne⟩ := mem_ord.mp hw
    have hws := (mem_nexts.mp hn).1
    have hadj := nexts_adj hn
    have e1 := came_next W ha hv hws hc hadj hne
    have l1 := congrArg List.length e1
    simp at l1
    rw [ih g v w hws (came_on W ha hv hws hc hadj hne) (by omega) (by omega)]
/-- off the straight way its turn is none -/
theorem tour_off {r : List Nat} {a F : Nat} (ha : a < s.length) (hF : F < s.length) : ∀ (f v w : Nat), v < s.length → w < s.length → bt s a w = bt s a v ++ [w] → w ∉ bt s a F →
    tourGo s r (bt s a F) f v w = tourGo s r [] f v w := by
  intro f
  induction f with
  | zero => intro v w _ _ _ _; rfl
  | succ f ih =>
    intro v w hv hw he hn
    rw [tour_succ, tour_succ]
    have off : ∀ x ∈ (nexts s r w).filter fun x => x != v, x < s.length ∧ bt s a x = bt s a w ++ [x] ∧ x ∉ bt s a F := by
      intro x hx
      obtain ⟨h1, h2⟩ := List.mem_filter.mp hx
      have hxs := (mem_nexts.mp h1).1
      have hc : Came s a v w := .inr ⟨hv, he⟩
      have e1 := came_next W ha hw hxs hc (nexts_adj h1) (by simpa using h2)
      refine ⟨hxs, e1, fun hm => hn ?_⟩
      obtain ⟨t, et⟩ := bt_pre W a F ha hF x hm
      rw [et, e1]
      exact List.mem_append_left _ (List.mem_append_left _ (bt_mem_last W ha hw))
    have e1 : ord s r (bt s a F) v w = ord s r [] v w := by
      rw [ord_nil]
      unfold ord
      have a1 : (((nexts s r w).filter fun x => x != v).filter fun x => !(bt s a F).contains x) = (nexts s r w).filter fun x => x != v := List.filter_eq_self.mpr fun x hx => by
        have := (off x hx).2.2
        simpa using this
      have a2 : (((nexts s r w).filter fun x => x != v).filter fun x => (bt s a F).contains x) = [] := List.filter_eq_nil_iff.mpr fun x hx => by
        have := (off x hx).2.2
        simpa using this
      rw [a1, a2, List.append_nil]
    rw [e1]
    refine flatMap_congr' fun x hx => ?_
    rw [ord_nil] at hx
    obtain ⟨h1, h2, h3⟩ := off x hx
    rw [ih w x hw h1 h2 h3]

/-- at a village of the straight way: what is gone to and back ahead -/
theorem trips_on {r : List Nat} {a F from_ v f : Nat} (ha : a < s.length) (hF : F < s.length) (hv : v < s.length) (hc : Came s a from_ v) (hfr : from_ ∈ bt s a F ∨ s.length ≤ from_) (hvF : v ∈ bt s a F) (hf : s.length ≤ f + (bt s a v).length) :
    (v :: ((((nexts s r v).filter fun w => w != from_).filter fun w => !(bt s a F).contains w).flatMap fun w => [w] ++ tourGo s r (bt s a F) f v w ++ [v])) = trips s r (s.length + 1) (bt s a F) v := by
  show _ = v :: ((nexts s r v).filter fun w => !(bt s a F).contains w).flatMap fun w => trips s r s.length [v] w ++ [v]
  have e1 : (((nexts s r v).filter fun w => w != from_).filter fun w => !(bt s a F).contains w) = (nexts s r v).filter fun w => !(bt s a F).contains w := by
    rw [List.filter_filter]
    refine List.filter_congr fun x hx => ?_
    have hxs := (mem_nexts.mp hx).1
    by_cases hm : x ∈ bt s a F
    · simp [hm]
    · have : x ≠ from_ := by
        rintro rfl
        rcases hfr with z | z
        · exact hm z
        · omega
      simp [hm, this]
  rw [e1]
  congr 1
  refine flatMap_congr' fun w hw => ?_
  obtain ⟨h1, h2⟩ := List.mem_filter.mp hw
  have hws := (mem_nexts.mp h1).1
  have hnF : w ∉ bt s a F := by simpa using h2
  have hne : w ≠ from_ := by
    rintro rfl
    rcases hfr with z | z
    · exact hnF z
    · omega
  have e2 := came_next W ha hv hws hc (nexts_adj h1) hne
  have l2 := congrArg List.length e2
  simp at l2
  have hc2 : Came s a v w := .inr ⟨hv, e2⟩
  rw [trips_tour, tour_off W ha hF f v w hv hws e2 hnF]
  rw [tour_fuel W ha f s.length v w hws hc2 (by omega) (by omega)]
  rfl
omit W in
theorem trips_ends {r : List Nat} : ∀ (f : Nat) (skip : List Nat) (v : Nat), ∃ t, trips s r f skip v = t ++ [v]
  | 0, _, v => ⟨[], rfl⟩
  | f + 1, skip, v => by
    show ∃ t, v :: ((nexts s r v).filter fun w => !skip.contains w).flatMap (fun w => trips s r f [v] w ++ [v]) = t ++ [v]
    rcases List.eq_nil_or_concat ((nexts s r v).filter fun w => !skip.contains w) with e | ⟨l, w, e⟩
    · rw [e]; exact ⟨[], rfl⟩
    · rw [e]
      exact ⟨v :: (l.flatMap (fun w => trips s r f [v] w ++ [v]) ++ trips s r f [v] w), by simp⟩
omit W in
theorem single {l : List Nat} {w : Nat} (nd : l.Nodup) (h : ∀ x, x ∈ l ↔ x = w) : l = [w] := by
  cases l with
  | nil => exact absurd ((h w).mpr rfl) (by simp)
  | cons x l =>
    have hx := (h x).mp (by simp)
    subst hx
    cases l with
    | nil => rfl
    | cons y l =>
      have hy := (h y).mp (by simp)
      subst hy
      simp at nd
/-- the tour that goes last toward F: the way to F, then straight back -/
theorem way_parts {r : List Nat} {a F : Nat} (ha : a < s.length) (hF : F < s.length) (hfull : Full s a r F) : ∀ (post pre : List Nat) (f from_ v : Nat), bt s a F = pre ++ v :: post → Came s a from_ v → (from_ ∈ bt s a F ∨ s.length ≤ from_) →
    s.length + 1 ≤ f + (bt s a v).length →
    v :: tourGo s r (bt s a F) f from_ v = (v :: post).flatMap (fun x => trips s r (s.length + 1) (bt s a F) x) ++ (v :: post).dropLast.reverse := by
  intro post
  induction post with
  | nil =>
    intro pre f from_ v he hc hfr hf
    have hvm : v ∈ bt s a F := by rw [he]; simp
    have hv := bt_in W ha hF hvm
    have hfew := bt_few W ha hv
    obtain ⟨f, rfl⟩ : ∃ k, f = k + 1 := ⟨f - 1, by omega⟩
    have none_on : (((nexts s r v).filter fun w => w != from_).filter fun w => (bt s a F).contains w) = [] := List.filter_eq_nil_iff.mpr fun x hx => by
      intro hm
      have hm : x ∈ bt s a F := by simpa using hm
      obtain ⟨h1, h2⟩ := List.mem_filter.mp hx
      have hxs := (mem_nexts.mp h1).1
      have e1 := came_next W ha hv hxs hc (nexts_adj h1) (by simpa using h2)
      obtain ⟨t, et⟩ := bt_pre W a F ha hF x hm
      have ev : bt s a v = pre ++ [v] := bt_cut W ha hF he
      rw [he, e1, ev] at et
      have := congrArg List.length et
      simp at this
    rw [tour_succ]
    unfold ord
    rw [none_on, List.append_nil, trips_on W ha hF hv hc hfr hvm (by omega)]
    simp
  | cons w post ih =>
    intro pre f from_ v he hc hfr hf
    have hvm : v ∈ bt s a F := by rw [he]; simp
    have hwm : w ∈ bt s a F := by rw [he]; simp
    have hv := bt_in W ha hF hvm
    have hw := bt_in W ha hF hwm
    have hfew := bt_few W ha hv
    obtain ⟨f, rfl⟩ : ∃ k, f = k + 1 := ⟨f - 1, by omega⟩
    have ev : bt s a v = pre ++ [v] := bt_cut W ha hF he
    have he2 : bt s a F = (pre ++ [v]) ++ w :: post := by rw [he]; simp
    have ew : bt s a w = pre ++ [v] ++ [w] := bt_cut W ha hF he2
    have evw : bt s a w = bt s a v ++ [w] := by rw [ew, ev]
    have hadj := bt_adj W a F ha hF pre post v w he
    have hne : w ≠ from_ := by
      rcases hc with ⟨rfl, h⟩ | ⟨hf, h⟩
      · omega
      · intro z
        subst z
        have l1 := congrArg List.length h
        have l2 := congrArg List.length evw
        simp at l1 l2
        omega
    have hmax := hfull pre post v w he
    have on : (((nexts s r v).filter fun w => w != from_).filter fun w => (bt s a F).contains w) = [w] := by
      refine single (nodup_filter _ (nodup_filter _ nexts_nodup)) fun x => ⟨fun hx => ?_, fun hx => ?_⟩
      · obtain ⟨hx1, hx2⟩ := List.mem_filter.mp hx
        obtain ⟨h1, h2⟩ := List.mem_filter.mp hx1
        have hm : x ∈ bt s a F := by simpa using hx2
        have hxs := (mem_nexts.mp h1).1
        have e1 := came_next W ha hv hxs hc (nexts_adj h1) (by simpa using h2)
        obtain ⟨t, et⟩ := bt_pre W a F ha hF x hm
        rw [he2, e1, ev, List.append_assoc (pre ++ [v])] at et
        have := List.append_cancel_left et
        exact (List.cons.inj this).1.symm
      · subst hx
        refine List.mem_filter.mpr ⟨List.mem_filter.mpr ⟨nexts_of_road W hw hadj hmax, by simpa using hne⟩, by simpa using hwm⟩
    have l2 := congrArg List.length evw
    simp at l2
    have hi := ih (pre ++ [v]) f v w he2 (.inr ⟨hv, evw⟩) (.inl hvm) (by omega)
    rw [tour_succ]
    unfold ord
    rw [on, List.flatMap_append]
    have e3 : (v :: ((((nexts s r v).filter fun w => w != from_).filter fun w => !(bt s a F).contains w).flatMap (fun w => [w] ++ tourGo s r (bt s a F) f v w ++ [v]) ++ [w].flatMap fun w => [w] ++ tourGo s r (bt s a F) f v w ++ [v])) =
        (v :: (((nexts s r v).filter fun w => w != from_).filter fun w => !(bt s a F).contains w).flatMap fun w => [w] ++ tourGo s r (bt s a F) f v w ++ [v]) ++ ((w :: tourGo s r (bt s a F) f v w) ++ [v]) := by simp
    rw [e3, trips_on W ha hF hv hc hfr hvm (by omega), hi, List.flatMap_cons]
    simp
omit W in
theorem take_to {X B : List Nat} {F : Nat} (hB : F ∉ B) (t : List Nat) (ht : t = (X ++ [F]) ++ B) : t.take (t.length - ((t.reverse).takeWhile fun x => x != F).length) = X ++ [F] := by
  subst ht
  have e1 : ((X ++ [F] ++ B).reverse).takeWhile (fun x => x != F) = B.reverse := by
    rw [List.reverse_append, List.reverse_append]
    rw [List.takeWhile_append]
    have tw : ∀ l : List Nat, F ∉ l → l.takeWhile (fun x => x != F) = l := by
      intro l
      induction l with
      | nil => intro _; rfl
      | cons x l ih =>
        intro h
        have hx : (x != F) = true := by simp; rintro rfl; exact h (by simp)
        rw [List.takeWhile_cons, if_pos hx, ih fun z => h (List.mem_cons_of_mem _ z)]
    have : B.reverse.takeWhile (fun x => x != F) = B.reverse := tw _ fun z => hB (List.mem_reverse.mp z)
    rw [this, if_pos rfl]
    simp
  rw [e1]
  have : (X ++ [F] ++ B).length - B.reverse.length = (X ++ [F]).length := by simp; omega
  rw [this]
  exact List.take_left
/-- THE WAY, as the program goes it -/
theorem way_eq {a : Nat} {l : List Nat} (ha : a < s.length) (hl : ∀ c ∈ l, c < s.length) :
    Km460.way s a l = (bt s a (Km460.farthest s a l)).flatMap (fun x => trips s (roads s a l) (s.length + 1) (bt s a (Km460.farthest s a l)) x) := by
  unfold Km460.way
  have hF := farthest_lt W ha hl
  have hfull := farthest_full W ha hl
  have hnone := farthest_none W ha hl
  generalize Km460.farthest s a l = F at *
  dsimp only
  by_cases e : F = a
  · rw [if_pos e]
    have hr := hnone e
    subst e
    rw [bt_self W hF, hr]
    have : nexts s [] F = [] := List.eq_nil_iff_forall_not_mem.mpr fun x hx => by
      have := (mem_nexts.mp hx).2
      simp at this
    simp [trips, this]
  · rw [if_neg e]
    obtain ⟨t, et⟩ := bt_head W a F ha hF
    have hp := way_parts W (r := roads s a l) ha hF hfull t [] (s.length + 1) s.length a (by rw [et]; rfl) (came_start W (Nat.le_refl _)) (.inr (Nat.le_refl _)) (by omega)
    obtain ⟨u, eu⟩ := bt_last W a F ha hF
    have nd := bt_nodup W a F ha hF
    rw [← et] at hp
    have hd : (bt s a F).dropLast = u := by rw [eu]; simp
    rw [hd] at hp
    obtain ⟨z, ez⟩ := trips_ends (s := s) (r := roads s a l) (s.length + 1) (bt s a F) F
    have eX : (bt s a F).flatMap (fun x => trips s (roads s a l) (s.length + 1) (bt s a F) x) = (u.flatMap (fun x => trips s (roads s a l) (s.length + 1) (bt s a F) x) ++ z) ++ [F] := by
      have : (bt s a F).flatMap (fun x => trips s (roads s a l) (s.length + 1) (bt s a F) x) = (u ++ [F]).flatMap (fun x => trips s (roads s a l) (s.length + 1) (bt s a F) x) := by
        exact congrArg (fun q => List.flatMap (fun x => trips s (roads s a l) (s.length + 1) (bt s a F) x) q) eu
      rw [this, List.flatMap_append]
      simp only [List.flatMap_cons, List.flatMap_nil, List.append_nil]
      rw [ez, List.append_assoc]
    rw [eX] at hp ⊢
    refine take_to (B := u.reverse) ?_ _ hp
    intro hm
    have hm : F ∈ u := List.mem_reverse.mp hm
    rw [eu] at nd
    exact (List.nodup_append.mp nd).2.2 F hm F (by simp) rfl
theorem tour_eq {a : Nat} {l : List Nat} : Km460.tour s a l = trips s (roads s a l) (s.length + 1) [] a := by
  rw [trips_root (Nat.le_refl s.length)]
  rfl
end
end VR
end
noncomputable section
set_option linter.all false
namespace VR
open Km457 (Valley Village at_ lineGo line climb meet)
open Km460 (nexts tourGo roads)

theorem rds_reverse : ∀ (l : List Nat), rds l.reverse = (rds l).reverse
  | [] => rfl
  | [x] => rfl
  | x :: y :: l => by
    have ih := rds_reverse (y :: l)
    have e : (x :: y :: l).reverse = l.reverse ++ y :: [x] := by simp
    rw [e, rds_app l.reverse y [x], show l.reverse ++ [y] = (y :: l).reverse by simp, ih]
    simp [rds, Nat.max_comm]
/-- one village more -/
theorem rds_take {l : List Nat} {i : Nat} {x y : Nat} (hx : l[i]? = some x) (hy : l[i + 1]? = some y) : rds (l.take (i + 2)) = rds (l.take (i + 1)) ++ [max x y] := by
  have h1 : l.take (i + 1) = l.take i ++ [x] := by rw [List.take_add_one, hx]; rfl
  have h2 : l.take (i + 2) = l.take i ++ x :: [y] := by rw [List.take_add_one, hy, h1]; simp
  rw [h2, h1, rds_app (l.take i) x [y]]
  rfl
theorem rds_one (l : List Nat) : rds (l.take 1) = [] := by
  cases l with
  | nil => rfl
  | cons x l => rfl
theorem rds_length : ∀ (l : List Nat), (rds l).length = l.length - 1
  | [] => rfl
  | [_] => rfl
  | v :: w :: l => by
    have := rds_length (w :: l)
    simp [rds] at this ⊢
    omega

theorem sorted_ext {l m : List Nat} (hl : l.Pairwise (· < ·)) (hm : m.Pairwise (· < ·)) (h : ∀ x, x ∈ l ↔ x ∈ m) : l = m :=
  List.Perm.eq_of_pairwise (le := (· < ·)) (fun a b _ _ h1 h2 => by omega) hl hm ((List.perm_ext_iff_of_nodup (nodup_of_lt hl) (nodup_of_lt hm)).mpr h)

theorem kbits_go : ∀ (l : List Nat) (a : Nat), l.foldl (fun w k => w + 2 ^ k) a = a + (l.map (2 ^ ·)).sum
  | [], a => by simp
  | x :: l, a => by rw [List.foldl_cons, kbits_go l]; simp; omega
theorem kbits (l : List Nat) : Km460.bits l = (l.map (2 ^ ·)).sum := by unfold Km460.bits; rw [kbits_go]; omega
theorem kbits_perm {l m : List Nat} (h : l.Perm m) : Km460.bits l = Km460.bits m := by
  rw [kbits, kbits]; exact (h.map _).sum_nat

theorem fill_eq {n : Nat} {l : List Nat} (h : l.length ≤ n) : Km460.fill n l = l ++ List.replicate (n - l.length) 0 := by
  unfold Km460.fill
  rw [List.take_of_length_le h]

section
variable {s : Valley} (W : WF s)
include W

/-- the tour toward the farthest: the way, and straight back -/
theorem way_tour {a : Nat} {l : List Nat} (ha : a < s.length) (hl : ∀ c ∈ l, c < s.length) : ∃ u, bt s a (Km460.farthest s a l) = u ++ [Km460.farthest s a l] ∧
    a :: tourGo s (roads s a l) (bt s a (Km460.farthest s a l)) (s.length + 1) s.length a = Km460.way s a l ++ u.reverse := by
  have hF := farthest_lt W ha hl
  have hfull := farthest_full W ha hl
  obtain ⟨u, eu⟩ := bt_last W a _ ha hF
  obtain ⟨t, et⟩ := bt_head W a _ ha hF
  refine ⟨u, eu, ?_⟩
  rw [way_eq W ha hl]
  have hp := way_parts W (r := roads s a l) ha hF hfull t [] (s.length + 1) s.length a (by rw [et]; rfl) (came_start W (Nat.le_refl _)) (.inr (Nat.le_refl _)) (by omega)
  rw [← et] at hp
  rw [hp]
  congr 1
  rw [eu]
  simp
theorem way_end {a : Nat} {l : List Nat} (ha : a < s.length) (hl : ∀ c ∈ l, c < s.length) : ∃ z, Km460.way s a l = z ++ [Km460.farthest s a l] := by
  have hF := farthest_lt W ha hl
  rw [way_eq W ha hl]
  generalize Km460.farthest s a l = F at *
  obtain ⟨u, eu⟩ := bt_last W a F ha hF
  obtain ⟨z, ez⟩ := trips_ends (s := s) (r := roads s a l) (s.length + 1) (bt s a F) F
  refine ⟨u.flatMap (fun x => trips s (roads s a l) (s.length + 1) (bt s a F) x) ++ z, ?_⟩
  have : (bt s a F).flatMap (fun x => trips s (roads s a l) (s.length + 1) (bt s a F) x) = (u ++ [F]).flatMap (fun x => trips s (roads s a l) (s.length + 1) (bt s a F) x) := by
    exact congrArg (fun q => List.flatMap (fun x => trips s (roads s a l) (s.length + 1) (bt s a F) x) q) eu
  rw [this, List.flatMap_append]
  simp only [List.flatMap_cons, List.flatMap_nil, List.append_nil]
  rw [ez, List.append_assoc]
theorem way_walk {a : Nat} {l : List Nat} (ha : a < s.length) (hl : ∀ c ∈ l, c < s.length) : Walk s (Km460.way s a l) := by
  obtain ⟨u, eu, e⟩ := way_tour W ha hl
  have := (tour_long W (e := bt s a (Km460.farthest s a l)) ha hl).1
  rw [e] at this
  exact this.left
/-- how long the way is -/
theorem way_long {a : Nat} {l : List Nat} (ha : a < s.length) (hl : ∀ c ∈ l, c < s.length) : ((rds (Km460.way s a l)).map (ln s)).sum = Km460.once s a l := by
  obtain ⟨u, eu, e⟩ := way_tour W ha hl
  obtain ⟨z, ez⟩ := way_end W ha hl
  have hF := farthest_lt W ha hl
  have h1 := (tour_long W (e := bt s a (Km460.farthest s a l)) ha hl).2
  have h2 := far_rds W a _ ha hF
  rw [e, ez, List.append_assoc, show [Km460.farthest s a l] ++ u.reverse = Km460.farthest s a l :: u.reverse from rfl, rds_app z, ← ez] at h1
  have e3 : Km460.farthest s a l :: u.reverse = (bt s a (Km460.farthest s a l)).reverse := by rw [eu]; simp
  rw [e3, rds_reverse, List.map_append, List.sum_append_nat, List.map_reverse, List.sum_reverse, ← h2] at h1
  unfold Km460.once
  unfold far at h1
  omega
theorem when_eq : ∀ {l : List Nat}, Walk s l → ∀ w, Km460.when s l w = if w ∈ l then some (((rds (l.take (l.idxOf w + 1))).map (ln s)).sum) else none := by
  intro l
  induction l with
  | nil => intro _ w; simp [Km460.when]
  | cons v l ih =>
    intro h w
    unfold Km460.when
    by_cases e : v = w
    · subst e
      simp [rds]
    · rw [if_neg e]
      cases l with
      | nil =>
        have : ¬ w = v := fun z => e z.symm
        simp [this]
      | cons x l =>
        dsimp only
        rw [ih h.2.2 w]
        have e' : ¬ w = v := fun z => e z.symm
        by_cases hm : w ∈ x :: l
        · rw [if_pos hm, if_pos (List.mem_cons_of_mem _ hm)]
          have hix : (v :: x :: l).idxOf w = (x :: l).idxOf w + 1 := by
            rw [List.idxOf_cons]
            have : (v == w) = false := by simpa using e
            rw [this]; rfl
          rw [hix]
          have ht : (v :: x :: l).take ((x :: l).idxOf w + 1 + 1) = v :: x :: l.take ((x :: l).idxOf w) := by simp
          have ht2 : (x :: l).take ((x :: l).idxOf w + 1) = x :: l.take ((x :: l).idxOf w) := by simp
          rw [ht, ht2]
          simp only [rds, List.map_cons, List.sum_cons, Option.map_some]
          have := far_adj W h.1 h.2.2.hd h.2.1
          unfold far at this
          rw [this]
          congr 1
          omega
        · rw [if_neg hm, if_neg (by intro z; rcases List.mem_cons.mp z with z | z; exact e' z; exact hm z)]
          rfl

/-! ### what the program reckons -/
/-- the villages beside one, as the program takes them -/
theorem beside_eq {r : List Nat} {v : Nat} (hv : v < s.length) (hr : r.Pairwise (· < ·)) (hr0 : ∀ x ∈ r, x ≠ 0 ∧ x < s.length) :
    nexts s r v = (if v ∈ r then [up s v] else []) ++ r.filter (fun w => up s w == v) := by
  refine sorted_ext nexts_sorted ?_ fun x => ?_
  · refine List.pairwise_append.mpr ⟨?_, List.Pairwise.filter _ hr, ?_⟩
    · split <;> simp
    · intro a ha b hb
      split at ha
      · rename_i hvr
        simp at ha
        obtain ⟨hb1, hb2⟩ := List.mem_filter.mp hb
        have hb2 : up s b = v := by simpa using hb2
        have h1 := W.upl v (by have := (hr0 v hvr).1; omega)
        have h2 := W.upl b (by have := (hr0 b hb1).1; omega)
        omega
      · cases ha
  · rw [mem_nexts, List.mem_append, List.mem_filter]
    constructor
    · rintro ⟨h1, ⟨h2, h3, h4⟩ | ⟨h2, h3, h4⟩⟩
      · exact .inr ⟨h2, by simpa using h3⟩
      · exact .inl (by rw [if_pos h2]; simp [h3])
    · rintro (h | ⟨h1, h2⟩)
      · split at h
        · rename_i hvr
          simp at h
          have h1 := W.upl v (by have := (hr0 v hvr).1; omega)
          exact ⟨by omega, .inr ⟨hvr, h.symm, (hr0 v hvr).1⟩⟩
        · cases h
      · exact ⟨(hr0 x h1).2, .inl ⟨h1, by simpa using h2, (hr0 x h1).1⟩⟩
omit W in
theorem roads_in {a : Nat} {l : List Nat} : ∀ x ∈ roads s a l, x ≠ 0 ∧ x < s.length := fun x hx => ⟨(mem_roads.mp hx).2.1, (mem_roads.mp hx).1⟩

omit W in
/-- only which villages are called at counts -/
theorem roads_congr {a : Nat} {l m : List Nat} (h : ∀ x, x ∈ l ↔ x ∈ m) : roads s a l = roads s a m :=
  sorted_ext roads_sorted roads_sorted fun x => by
    rw [mem_roads, mem_roads]
    constructor
    · rintro ⟨h1, h2, c, hc, h3⟩; exact ⟨h1, h2, c, (h c).mp hc, h3⟩
    · rintro ⟨h1, h2, c, hc, h3⟩; exact ⟨h1, h2, c, (h c).mpr hc, h3⟩
omit W in
theorem farthest_congr {a : Nat} {l m : List Nat} (h : ∀ x, x ∈ l ↔ x ∈ m) : Km460.farthest s a l = Km460.farthest s a m := by
  unfold Km460.farthest
  have : (fun r v => if l.contains v = true ∧ Km457.far s a r < Km457.far s a v then v else r) = (fun r v => if m.contains v = true ∧ Km457.far s a r < Km457.far s a v then v else r) := by
    funext r v
    have : l.contains v = m.contains v := by
      rw [Bool.eq_iff_iff]; simp [h v]
    rw [this]
  rw [this]
omit W in
theorem round_congr {a : Nat} {l m : List Nat} (h : ∀ x, x ∈ l ↔ x ∈ m) : Km460.round s a l = Km460.round s a m := by
  unfold Km460.round; rw [roads_congr h]
omit W in
theorem once_congr {a : Nat} {l m : List Nat} (h : ∀ x, x ∈ l ↔ x ∈ m) : Km460.once s a l = Km460.once s a m := by
  unfold Km460.once; rw [round_congr h, farthest_congr h]
omit W in
theorem tour_congr {a : Nat} {l m : List Nat} (h : ∀ x, x ∈ l ↔ x ∈ m) : Km460.tour s a l = Km460.tour s a m := by
  unfold Km460.tour; rw [roads_congr h]
omit W in
theorem way_congr {a : Nat} {l m : List Nat} (h : ∀ x, x ∈ l ↔ x ∈ m) : Km460.way s a l = Km460.way s a m := by
  unfold Km460.way; rw [roads_congr h, farthest_congr h]

/-- the farthest, as the program looks for it: over those called at, upward -/
theorem farthest_fold {a : Nat} {l : List Nat} (ha : a < s.length) (n : Nat) : ∀ (L : List Nat) (r : Nat), 
    (L.filter fun v => l.contains v).foldl (fun (p : Nat × Nat) v => if p.2 < far s a v then (v, far s a v) else p) (r, far s a r) =
      (L.foldl (fun r v => if l.contains v = true ∧ Km457.far s a r < Km457.far s a v then v else r) r, far s a (L.foldl (fun r v => if l.contains v = true ∧ Km457.far s a r < Km457.far s a v then v else r) r)) := by
  intro L
  induction L with
  | nil => intro r; rfl
  | cons x L ih =>
    intro r
    rw [List.filter_cons]
    by_cases h1 : l.contains x = true
    · rw [if_pos h1, List.foldl_cons, List.foldl_cons]
      by_cases h2 : far s a r < far s a x
      · rw [if_pos h2, if_pos ⟨h1, h2⟩]
        exact ih x
      · rw [if_neg h2, if_neg (fun z => h2 z.2)]
        exact ih r
    · rw [if_neg h1, List.foldl_cons, if_neg (fun z => h1 z.1)]
      exact ih r
end
end VR
end
noncomputable section
set_option linter.all false
namespace VR
open Km457 (Valley Village at_ lineGo line climb meet)
open Km460 (nexts tourGo roads)

/-- v lies below x, or is x -/
def sub (s : Valley) (x v : Nat) : Bool := (line s v).contains x
section
variable {s : Valley} (W : WF s)
include W
theorem sub_up {x v : Nat} (hv : 0 < v) (h : v < s.length) (hx : x ≠ v) : sub s x v = sub s x (up s v) := by
  unfold sub
  rw [line_pos W hv h, List.contains_cons]
  have : (x == v) = false := by simpa using hx
  rw [this, Bool.false_or]
theorem sub_self {v : Nat} (h : v < s.length) : sub s v v = true := by
  unfold sub
  obtain ⟨t, e⟩ := line_head W h
  rw [e]; simp
theorem sub_less {x v : Nat} (h : v < s.length) (hx : v < x) : sub s x v = false := by
  unfold sub
  rw [Bool.eq_false_iff]
  intro z
  have z : x ∈ line s v := by simpa using z
  have := line_le W v h x z
  omega
/-- a road is on the way between two if it parts them -/
theorem rds_sub : ∀ v w, v < s.length → w < s.length → (rds (bt s v w)).Nodup ∧ ∀ x, x ∈ rds (bt s v w) ↔ (x < s.length ∧ x ≠ 0 ∧ sub s x v ≠ sub s x w) := by
  refine bt_ind W ?_ ?_ ?_
  · intro v h
    rw [bt_self W h]
    simp [rds]
  · intro v w hw h ⟨ih1, ih2⟩
    have hu := W.upl v (by omega)
    obtain ⟨t, e⟩ := bt_head W (up s v) w (by omega) (by omega)
    have er : rds (bt s v w) = v :: rds (bt s (up s v) w) := by
      rw [bt_gt W hw h, e]; simp only [rds]; rw [Nat.max_eq_left (by omega)]
    have nv : v ∉ rds (bt s (up s v) w) := fun z => by
      have := ((rds_bt W _ _ (by omega) (by omega) v).mp z).2.1
      have := bt_le W _ _ (by omega) (by omega) v this
      omega
    rw [er]
    refine ⟨List.nodup_cons.mpr ⟨nv, ih1⟩, fun x => ?_⟩
    rw [List.mem_cons, ih2]
    by_cases hx : x = v
    · subst hx
      have := sub_self W h
      have := sub_less W (v := w) (x := x) (by omega) hw
      simp_all
      omega
    · rw [sub_up W (x := x) (v := v) (by omega) h hx]
      simp [hx]
  · intro v w hw h ⟨ih1, ih2⟩
    have hu := W.upl w (by omega)
    obtain ⟨t, e⟩ := bt_last W v (up s w) (by omega) (by omega)
    have er : rds (bt s v w) = rds (bt s v (up s w)) ++ [w] := by
      rw [bt_lt W hw h, e, List.append_assoc]
      show rds (t ++ up s w :: [w]) = _
      rw [rds_app t]
      simp only [rds]
      rw [Nat.max_eq_right (by omega)]
    have nv : w ∉ rds (bt s v (up s w)) := fun z => by
      have := ((rds_bt W _ _ (by omega) (by omega) w).mp z).2.1
      have := bt_le W _ _ (by omega) (by omega) w this
      omega
    rw [er]
    refine ⟨List.nodup_append.mpr ⟨ih1, by simp, fun a ha b hb z => ?_⟩, fun x => ?_⟩
    · simp at hb
      subst hb z
      exact nv ha
    · rw [List.mem_append, ih2, List.mem_singleton]
      by_cases hx : x = w
      · subst hx
        have := sub_self W h
        have := sub_less W (v := v) (x := x) (by omega) hw
        simp_all
        omega
      · rw [sub_up W (x := x) (v := w) (by omega) h hx]
        simp [hx]
omit W in
theorem sum_filter (p : Nat → Bool) (g : Nat → Nat) : ∀ l : List Nat, ((l.filter p).map g).sum = (l.map fun x => if p x = true then g x else 0).sum
  | [] => rfl
  | x :: l => by
    rw [List.filter_cons]
    by_cases h : p x = true
    · rw [if_pos h]; simp [sum_filter p g l, h]
    · rw [if_neg h]; simp [sum_filter p g l, h]
theorem far_sub {v w : Nat} (hv : v < s.length) (hw : w < s.length) : far s v w = ((List.range s.length).map fun x => if (x != 0 && (sub s x v != sub s x w)) = true then ln s x else 0).sum := by
  obtain ⟨h1, h2⟩ := rds_sub W v w hv hw
  rw [far_rds W v w hv hw, ← sum_filter]
  refine (List.Perm.map _ ((List.perm_ext_iff_of_nodup h1 (nodup_filter _ List.nodup_range)).mpr fun x => ?_)).sum_nat
  rw [h2, List.mem_filter, List.mem_range]
  simp
theorem roads_sub {a : Nat} {l : List Nat} (ha : a < s.length) (hl : ∀ c ∈ l, c < s.length) {x : Nat} : x ∈ roads s a l ↔ x < s.length ∧ x ≠ 0 ∧ ∃ c ∈ l, sub s x a ≠ sub s x c := by
  rw [mem_roads' W ha hl]
  constructor
  · rintro ⟨c, hc, h⟩
    obtain ⟨h1, h2, h3⟩ := ((rds_sub W a c ha (hl c hc)).2 x).mp h
    exact ⟨h1, h2, c, hc, h3⟩
  · rintro ⟨h1, h2, c, hc, h3⟩
    exact ⟨c, hc, ((rds_sub W a c ha (hl c hc)).2 x).mpr ⟨h1, h2, h3⟩⟩
/-- how often a road is gone, one after another -/
def chg (b : Nat → Bool) : List Nat → Nat
  | [] => 0
  | [_] => 0
  | v :: w :: l => (if b v != b w then 1 else 0) + chg b (w :: l)
omit W in
theorem sum_add (f g : Nat → Nat) : ∀ l : List Nat, (l.map f).sum + (l.map g).sum = (l.map fun x => f x + g x).sum
  | [] => rfl
  | x :: l => by
    have := sum_add f g l
    simp only [List.map_cons, List.sum_cons]
    omega
theorem long_sub : ∀ {l : List Nat}, (∀ x ∈ l, x < s.length) → Km460.long s l = ((List.range s.length).map fun x => if (x != 0) = true then chg (sub s x) l * ln s x else 0).sum
  | [], _ => by
    show 0 = _
    have : ((List.range s.length).map fun x => if (x != 0) = true then chg (sub s x) [] * ln s x else 0) = (List.range s.length).map fun _ => 0 := by
      refine List.map_congr_left fun x _ => ?_
      simp [chg]
    rw [this]
    generalize List.range s.length = L
    induction L with
    | nil => rfl
    | cons x L ih => simpa using ih
  | [v], _ => by
    show 0 = _
    have : ((List.range s.length).map fun x => if (x != 0) = true then chg (sub s x) [v] * ln s x else 0) = (List.range s.length).map fun _ => 0 := by
      refine List.map_congr_left fun x _ => ?_
      simp [chg]
    rw [this]
    generalize List.range s.length = L
    induction L with
    | nil => rfl
    | cons x L ih => simpa using ih
  | v :: w :: l, h => by
    show Km457.far s v w + Km460.long s (w :: l) = _
    have h1 := far_sub W (h v (by simp)) (h w (by simp))
    unfold far at h1
    rw [h1, long_sub fun x hx => h x (List.mem_cons_of_mem _ hx), sum_add]
    refine congrArg List.sum (List.map_congr_left fun x _ => ?_)
    show _ = if (x != 0) = true then ((if sub s x v != sub s x w then 1 else 0) + chg (sub s x) (w :: l)) * ln s x else 0
    by_cases hx : x = 0
    · simp [hx]
    · by_cases hc : sub s x v = sub s x w
      · simp [hx, hc]
      · simp [hx, hc, Nat.add_mul]
omit W in
theorem chg_one (b : Nat → Bool) : ∀ (l : List Nat) (v w : Nat), w ∈ v :: l → b v ≠ b w → 1 ≤ chg b (v :: l)
  | [], v, w, hm, hn => by simp at hm; subst hm; exact absurd rfl hn
  | x :: l, v, w, hm, hn => by
    show 1 ≤ (if b v != b x then 1 else 0) + chg b (x :: l)
    by_cases e : b v = b x
    · have hm : w ∈ x :: l := by
        rcases List.mem_cons.mp hm with rfl | hm
        · exact absurd rfl hn
        · exact hm
      have := chg_one b l x w hm (by rw [← e]; exact hn)
      omega
    · simp [e]
omit W in
theorem chg_two (b : Nat → Bool) (a : Nat) : ∀ (l : List Nat) (v : Nat), b v = b a → (∃ w ∈ l, b w ≠ b a) → 2 ≤ chg b (v :: l ++ [a])
  | [], v, _, h => by obtain ⟨w, hw, _⟩ := h; cases hw
  | x :: l, v, hv, h => by
    show 2 ≤ (if b v != b x then 1 else 0) + chg b (x :: (l ++ [a]))
    obtain ⟨w, hw, hn⟩ := h
    by_cases e : b x = b a
    · have hw : w ∈ l := by
        rcases List.mem_cons.mp hw with rfl | hw
        · exact absurd e hn
        · exact hw
      have := chg_two b a l x e ⟨w, hw, hn⟩
      have e2 : chg b (x :: l ++ [a]) = chg b (x :: (l ++ [a])) := rfl
      omega
    · have h1 : (b v != b x) = true := by rw [hv]; simpa using fun z => e z.symm
      have := chg_one b (l ++ [a]) x a (by simp) e
      rw [if_pos h1]
      omega
omit W in
theorem sum_le_map {f g : Nat → Nat} : ∀ {l : List Nat}, (∀ x ∈ l, f x ≤ g x) → (l.map f).sum ≤ (l.map g).sum
  | [], _ => Nat.le_refl _
  | x :: l, h => by
    have h1 := h x (by simp)
    have := sum_le_map fun y hy => h y (List.mem_cons_of_mem _ hy)
    simp only [List.map_cons, List.sum_cons]
    omega
omit W in
theorem sum_two (g : Nat → Nat) : ∀ l : List Nat, 2 * (l.map g).sum = (l.map fun x => 2 * g x).sum
  | [] => rfl
  | x :: l => by
    have := sum_two g l
    simp only [List.map_cons, List.sum_cons]
    omega
theorem round_sum {a : Nat} {l : List Nat} (ha : a < s.length) (hl : ∀ c ∈ l, c < s.length) : Km460.round s a l = ((List.range s.length).map fun x => if x ∈ roads s a l then 2 * ln s x else 0).sum := by
  unfold Km460.round Km460.length
  rw [ksum', sum_two]
  have e : roads s a l = (List.range s.length).filter fun x => (roads s a l).contains x := by
    refine sorted_ext roads_sorted (List.Pairwise.filter _ List.pairwise_lt_range) fun x => ?_
    rw [List.mem_filter, List.mem_range]
    constructor
    · intro h; exact ⟨(roads_in x h).2, by simpa using h⟩
    · intro h; simpa using h.2
  have e2 : ((roads s a l).map fun x => 2 * ln s x) = (((List.range s.length).filter fun x => (roads s a l).contains x).map fun x => 2 * ln s x) := congrArg (List.map _) e
  show ((roads s a l).map fun x => 2 * ln s x).sum = _
  rw [e2, sum_filter]
  refine congrArg List.sum (List.map_congr_left fun x _ => ?_)
  simp
/-- in whatever order, it's no shorter than the round -/
theorem ordered_ge {a : Nat} {l q : List Nat} (ha : a < s.length) (hl : ∀ c ∈ l, c < s.length) (hq : ∀ c ∈ q, c < s.length) (h : ∀ c ∈ l, c ∈ q) : Km460.round s a l ≤ Km460.ordered s a q := by
  unfold Km460.ordered
  rw [long_sub W (l := a :: q ++ [a]) (fun x hx => by
    rcases List.mem_append.mp hx with hx | hx
    · rcases List.mem_cons.mp hx with rfl | hx
      · exact ha
      · exact hq x hx
    · simp at hx; rw [hx]; exact ha), round_sum W ha hl]
  refine sum_le_map fun x hx => ?_
  by_cases hr : x ∈ roads s a l
  · rw [if_pos hr]
    obtain ⟨h1, h2, c, hc, h3⟩ := (roads_sub W ha hl).mp hr
    have := chg_two (sub s x) a q a rfl ⟨c, h c hc, Ne.symm h3⟩
    rw [if_pos (by simpa using h2)]
    exact Nat.mul_le_mul_right _ this
  · rw [if_neg hr]; exact Nat.zero_le _
/-- more calls, no shorter a round -/
theorem round_mono {a : Nat} {l m : List Nat} (ha : a < s.length) (hl : ∀ c ∈ l, c < s.length) (hm : ∀ c ∈ m, c < s.length) (h : ∀ c ∈ l, c ∈ m) : Km460.round s a l ≤ Km460.round s a m := by
  rw [round_sum W ha hl, round_sum W ha hm]
  refine sum_le_map fun x hx => ?_
  by_cases hr : x ∈ roads s a l
  · have : x ∈ roads s a m := by
      obtain ⟨h1, h2, c, hc, h3⟩ := mem_roads.mp hr
      exact mem_roads.mpr ⟨h1, h2, c, h c hc, h3⟩
    rw [if_pos hr, if_pos this]; exact Nat.le_refl _
  · rw [if_neg hr]; exact Nat.zero_le _
end
end VR
end
noncomputable section
set_option linter.all false
namespace VR
open Km457 (Valley Village)
open Km460 (Sea Desk Call)
structure SeaOk (s : Sea) : Prop where
  wf : WF s.valley
  lt : ∀ c ∈ s.calls, c < s.valley.length
  nd : s.calls.Nodup
structure DeskOk (d : Desk) : Prop where
  now : SeaOk d.now
  past : ∀ s ∈ d.past, SeaOk s
  fut : ∀ s ∈ d.future, SeaOk s
  few : d.past.length + d.future.length ≤ 20
theorem at_snoc (s : Valley) (x : Village) (v : Nat) : Km457.at_ (s ++ [x]) v = if v = s.length then x else Km457.at_ s v := by
  unfold Km457.at_
  rw [List.getD_eq_getElem?_getD, List.getD_eq_getElem?_getD]
  by_cases h : v < s.length
  · rw [List.getElem?_append_left h, if_neg (by omega)]
  · rw [List.getElem?_append_right (by omega)]
    by_cases e : v = s.length
    · rw [if_pos e, e]
      simp
    · rw [if_neg e, List.getElem?_eq_none (by simp; omega), List.getElem?_eq_none (by omega)]
theorem at_set (s : Valley) (x : Village) (v u : Nat) (h : u < s.length) : Km457.at_ (s.set u x) v = if v = u then x else Km457.at_ s v := by
  unfold Km457.at_
  rw [List.getD_eq_getElem?_getD, List.getD_eq_getElem?_getD, List.getElem?_set]
  by_cases e : u = v
  · subst e
    simp [h]
  · rw [if_neg e, if_neg (fun z => e z.symm)]
theorem WF.snoc {s : Valley} (W : WF s) {u l : Nat} (hu : u < s.length) (h1 : 1 ≤ l) (h2 : l ≤ 1000) (hf : s.length < 14) (k : Nat) : WF (s ++ [⟨u, l, k⟩]) := by
  have p := W.pos
  refine ⟨by simp, by simp; omega, ?_, ?_, fun v hv => ?_, fun v hv hl => ?_⟩
  · show (Km457.at_ _ 0).up = 0
    rw [at_snoc, if_neg (by omega)]
    exact W.up0
  · show (Km457.at_ _ 0).long = 0
    rw [at_snoc, if_neg (by omega)]
    exact W.ln0
  · show (Km457.at_ _ v).up < v
    rw [at_snoc]
    split
    · rename_i e
      show u < v
      omega
    · exact W.upl v hv
  · show 1 ≤ (Km457.at_ _ v).long ∧ (Km457.at_ _ v).long ≤ 1000
    rw [at_snoc]
    split
    · exact ⟨h1, h2⟩
    · exact W.ln1 v hv (by simp at hl; omega)
theorem WF.setLong {s : Valley} (W : WF s) {u n : Nat} (hu : u < s.length) (h0 : u ≠ 0) (h1 : 1 ≤ n) (h2 : n ≤ 1000) : WF (s.set u { Km457.at_ s u with long := n }) := by
  have p := W.pos
  refine ⟨by simpa using p, by simpa using W.few, ?_, ?_, fun v hv => ?_, fun v hv hl => ?_⟩
  · show (Km457.at_ _ 0).up = 0
    rw [at_set _ _ _ _ hu, if_neg (by omega)]
    exact W.up0
  · show (Km457.at_ _ 0).long = 0
    rw [at_set _ _ _ _ hu, if_neg (by omega)]
    exact W.ln0
  · show (Km457.at_ _ v).up < v
    rw [at_set _ _ _ _ hu]
    split
    · rename_i e
      rw [e]
      exact W.upl u (by omega)
    · exact W.upl v hv
  · show 1 ≤ (Km457.at_ _ v).long ∧ (Km457.at_ _ v).long ≤ 1000
    rw [at_set _ _ _ _ hu]
    split
    · exact ⟨h1, h2⟩
    · exact W.ln1 v hv (by simpa using hl)
theorem opened_ok : SeaOk Km460.opened := by
  refine ⟨⟨by decide, by decide, by decide, by decide, fun v hv => ?_, fun v hv hl => ?_⟩, fun c hc => (by cases hc), List.nodup_nil⟩
  · cases v with
    | zero => omega
    | succ v => exact Nat.succ_pos _
  · have : v < 1 := hl
    omega
theorem fresh_ok : DeskOk Km460.fresh := ⟨opened_ok, fun s h => (by cases h), fun s h => (by cases h), (by decide)⟩
theorem become_ok {d : Desk} (D : DeskOk d) {s : Sea} (h : SeaOk s) : DeskOk (d.become s) := by
  refine ⟨h, fun x hx => ?_, fun x hx => (by cases hx), ?_⟩
  · have hx : x ∈ d.now :: d.past := List.mem_of_mem_take hx
    rcases List.mem_cons.mp hx with rfl | hx
    · exact D.now
    · exact D.past x hx
  · show ((d.now :: d.past).take 20).length + 0 ≤ 20
    rw [List.length_take]
    omega
theorem village_ok {s : Sea} (h : SeaOk s) {u l : Nat} (hu : u < s.valley.length) (h1 : 1 ≤ l) (h2 : l ≤ 1000) (hf : s.valley.length < 14) (k : Nat) : SeaOk { s with valley := s.valley ++ [⟨u, l, k⟩] } :=
  ⟨h.wf.snoc hu h1 h2 hf k, fun c hc => by have := h.lt c hc; simp; omega, h.nd⟩
theorem long_ok {s : Sea} (h : SeaOk s) {u n : Nat} (hu : u < s.valley.length) (h0 : u ≠ 0) (h1 : 1 ≤ n) (h2 : n ≤ 1000) : SeaOk { s with valley := s.valley.set u { Km457.at_ s.valley u with long := n } } :=
  ⟨h.wf.setLong hu h0 h1 h2, fun c hc => by have := h.lt c hc; simpa using this, h.nd⟩
theorem more_ok {s : Sea} (h : SeaOk s) {v : Nat} (hv : v < s.valley.length) (hn : v ∉ s.calls) : SeaOk { s with calls := s.calls ++ [v] } := by
  refine ⟨h.wf, fun c hc => ?_, ?_⟩
  · rcases List.mem_append.mp hc with hc | hc
    · exact h.lt c hc
    · rw [List.mem_singleton.mp hc]; exact hv
  · show (s.calls ++ [v]).Nodup
    rw [List.nodup_append]
    refine ⟨h.nd, by simp, fun a ha b hb e => hn ?_⟩
    rw [← List.mem_singleton.mp hb, ← e]
    exact ha
theorem less_ok {s : Sea} (h : SeaOk s) (p : Nat → Bool) : SeaOk { s with calls := s.calls.filter p } := ⟨h.wf, fun c hc => h.lt c (List.mem_filter.mp hc).1, h.nd.filter p⟩
theorem clear_ok {s : Sea} (h : SeaOk s) : SeaOk { s with calls := [] } := ⟨h.wf, fun c hc => (by cases hc), List.nodup_nil⟩
theorem act_ok {d : Desk} (D : DeskOk d) (c : Call) : DeskOk (Km460.act d c).1 := by
  cases c with
  | start => exact fresh_ok
  | village u l =>
    show DeskOk (if _ then _ else _ : Desk × Km460.Ans).1
    split
    · exact D
    split
    · exact D
    split
    · exact D
    rename_i h1 h2 h3
    exact become_ok D (village_ok D.now (by omega) (by omega) (by omega) (Nat.lt_of_not_le h3) 0)
  | long_ v n =>
    show DeskOk (if _ then _ else _ : Desk × Km460.Ans).1
    split
    · exact D
    split
    · exact D
    split
    · exact D
    rename_i h1 h2 h3
    exact become_ok D (long_ok D.now (by omega) h3 (by omega) (by omega))
  | call_ v o =>
    show DeskOk (if _ then _ else _ : Desk × Km460.Ans).1
    split
    · exact D
    split
    · exact D
    split
    · exact D
    rename_i h1 h2 h3
    refine become_ok D ?_
    by_cases ho : o = 1
    · rw [if_pos ho]
      refine more_ok D.now (by omega) (fun z => h3 ?_)
      rw [ho]
      simpa using z
    · rw [if_neg ho]
      exact less_ok D.now _
  | clear =>
    show DeskOk (if _ then _ else _ : Desk × Km460.Ans).1
    split
    · exact D
    exact become_ok D (clear_ok D.now)
  | back =>
    unfold Km460.act
    have h1 := D.past
    have h2 := D.few
    cases e : d.past with
    | nil => simp only [e]; exact D
    | cons k r =>
      simp only [e]
      rw [e] at h1 h2
      refine ⟨h1 k (List.mem_cons_self ..), fun s hs => h1 s (List.mem_cons_of_mem _ hs), fun s hs => ?_, ?_⟩
      · rcases List.mem_cons.mp hs with rfl | hs
        · exact D.now
        · exact D.fut s hs
      · simp only [List.length_cons] at h2 ⊢
        omega
  | again =>
    unfold Km460.act
    have h1 := D.fut
    have h2 := D.few
    cases e : d.future with
    | nil => simp only [e]; exact D
    | cons k r =>
      simp only [e]
      rw [e] at h1 h2
      refine ⟨h1 k (List.mem_cons_self ..), fun s hs => ?_, fun s hs => h1 s (List.mem_cons_of_mem _ hs), ?_⟩
      · have hs : s ∈ d.now :: d.past := List.mem_of_mem_take hs
        rcases List.mem_cons.mp hs with rfl | hs
        · exact D.now
        · exact D.past s hs
      · show ((d.now :: d.past).take 20).length + r.length ≤ 20
        rw [List.length_take]
        simp only [List.length_cons] at h2 ⊢
        omega
  | _ => exact D
/-- the last twenty are all there is, when something can be done again -/
theorem again_take {d : Desk} (D : DeskOk d) (h : d.future ≠ []) : (d.now :: d.past).take 20 = d.now :: d.past := by
  refine List.take_of_length_le ?_
  have := D.few
  have : 0 < d.future.length := List.length_pos_iff.mpr h
  simp only [List.length_cons]
  omega
end VR
end
noncomputable section
set_option linter.all false
namespace VD
open Km460 (Call Desk)
def zs (l : List Nat) : List Int := l.map fun (x : Nat) => (x : Int)
def zeroC (p : Nat) : Option Call := if p = 0 then some .start else if p = 4 then some .clear else if p = 16 then some .bestStart else if p = 20 then some .calls else if p = 21 then some .sums else if p = 22 then some .back else if p = 23 then some .again else if p = 24 then some .state else none
def oneC (p : Nat) : Option (Nat → Call) := if p = 7 then some .roads else if p = 8 then some .round else if p = 9 then some .once else if p = 13 then some .last else if p = 19 then some .look else none
def twoC (p : Nat) : Option (Nat → Nat → Call) := if p = 1 then some .village else if p = 2 then some .long_ else if p = 3 then some .call_ else if p = 5 then some .far else if p = 6 then some .between else if p = 10 then some .tour else if p = 11 then some .way else if p = 12 then some .when else if p = 14 then some .more else if p = 15 then some .less else if p = 17 then some .passes else none
/-- a row of numbers as calls -/
inductive Dec : List Nat → List Call → Prop where
  | nil : Dec [] []
  | k0 {p : Nat} {c : Call} {t : List Nat} {cs : List Call} : zeroC p = some c → Dec t cs → Dec (p :: t) (c :: cs)
  | k1 {p a : Nat} {c : Nat → Call} {t : List Nat} {cs : List Call} : oneC p = some c → Dec t cs → Dec (p :: a :: t) (c a :: cs)
  | k2 {p a b : Nat} {c : Nat → Nat → Call} {t : List Nat} {cs : List Call} : twoC p = some c → Dec t cs → Dec (p :: a :: b :: t) (c a b :: cs)
  | kl {a : Nat} {l t : List Nat} {cs : List Call} : l.length = 6 → Dec t cs → Dec (18 :: a :: 6 :: (l ++ t)) (.order a l :: cs)


theorem zs_nil {l : List Nat} (h : zs l = []) : l = [] := by
  cases l with
  | nil => rfl
  | cons x l => simp [zs] at h
theorem call_n {shape : Int → Option (Nat × Nat)} {p : Int} {n : Nat} {r : List Int} (h : shape p = some (n, 0)) : PyFlat.call shape (p :: r) = if r.length < n then none else some ([p :: r.take n], r.drop n) := by
  unfold PyFlat.call
  dsimp only
  rw [h]
  simp only [PyFlat.rows]
theorem call_l {shape : Int → Option (Nat × Nat)} {p : Int} {n : Nat} {r : List Int} (h : shape p = some (n, 1)) : PyFlat.call shape (p :: r) = if r.length < n then none else (match PyFlat.row (r.drop n) with
    | none => none
    | some (x, s) => some ([p :: r.take n, x], s)) := by
  unfold PyFlat.call
  dsimp only
  rw [h]
  simp only [PyFlat.rows]
  split
  · rfl
  · cases PyFlat.row (r.drop n) with
    | none => rfl
    | some q => obtain ⟨x, s⟩ := q; rfl
theorem zs_take (l : List Nat) (n : Nat) : (zs l).take n = zs (l.take n) := by unfold zs; rw [List.map_take]
theorem zs_drop (l : List Nat) (n : Nat) : (zs l).drop n = zs (l.drop n) := by unfold zs; rw [List.map_drop]
theorem zs_length (l : List Nat) : (zs l).length = l.length := List.length_map _
def okc (c : List (List Int)) : Bool := Km460Neutral.asked1 (PyKm460.whole c)
theorem nats_zs (l : List Nat) : Km460Neutral.nats (zs l) = l := by
  unfold Km460Neutral.nats zs
  rw [List.map_map]
  have : (Int.toNat ∘ fun (x : Nat) => (x : Int)) = id := by funext x; rfl
  rw [this, List.map_id]
/-- one call ahead -/
theorem step_of {nl : List Nat} {c : List (List Int)} {t : List Int} (h : PyFlat.call PyKm460.shape (zs nl) = some (c, t)) (ok : okc c = true) :
    ∃ (nt : List Nat) (x : Call), t = zs nt ∧ nt.length < nl.length ∧ Km460Neutral.callOf (PyKm460.whole c) = some x ∧ ∀ cs, Dec nt cs → Dec nl (x :: cs) := by
  cases nl with
  | nil => cases h
  | cons p r =>
    have h : PyFlat.call PyKm460.shape ((p : Int) :: zs r) = some (c, t) := h
    match p with
    | 0 =>
      rw [call_n (n := 0) rfl, if_neg (by omega)] at h
      cases h
      refine ⟨r, .start, by rw [zs_drop]; rfl, by simp, rfl, fun cs hd => .k0 rfl hd⟩
    | 1 =>
      rw [call_n (n := 2) rfl, zs_length] at h
      match r, h with
      | [], h => simp at h
      | [_], h => simp at h
      | a :: b :: r, h =>
        rw [if_neg (by simp)] at h
        cases h
        refine ⟨r, .village a b, by rw [zs_drop]; rfl, by simp only [List.length_cons]; omega, rfl, fun cs hd => .k2 (c := .village) rfl hd⟩
    | 2 =>
      rw [call_n (n := 2) rfl, zs_length] at h
      match r, h with
      | [], h => simp at h
      | [_], h => simp at h
      | a :: b :: r, h =>
        rw [if_neg (by simp)] at h
        cases h
        refine ⟨r, .long_ a b, by rw [zs_drop]; rfl, by simp only [List.length_cons]; omega, rfl, fun cs hd => .k2 (c := .long_) rfl hd⟩
    | 3 =>
      rw [call_n (n := 2) rfl, zs_length] at h
      match r, h with
      | [], h => simp at h
      | [_], h => simp at h
      | a :: b :: r, h =>
        rw [if_neg (by simp)] at h
        cases h
        refine ⟨r, .call_ a b, by rw [zs_drop]; rfl, by simp only [List.length_cons]; omega, rfl, fun cs hd => .k2 (c := .call_) rfl hd⟩
    | 4 =>
      rw [call_n (n := 0) rfl, if_neg (by omega)] at h
      cases h
      refine ⟨r, .clear, by rw [zs_drop]; rfl, by simp, rfl, fun cs hd => .k0 rfl hd⟩
    | 5 =>
      rw [call_n (n := 2) rfl, zs_length] at h
      match r, h with
      | [], h => simp at h
      | [_], h => simp at h
      | a :: b :: r, h =>
        rw [if_neg (by simp)] at h
        cases h
        refine ⟨r, .far a b, by rw [zs_drop]; rfl, by simp only [List.length_cons]; omega, rfl, fun cs hd => .k2 (c := .far) rfl hd⟩
    | 6 =>
      rw [call_n (n := 2) rfl, zs_length] at h
      match r, h with
      | [], h => simp at h
      | [_], h => simp at h
      | a :: b :: r, h =>
        rw [if_neg (by simp)] at h
        cases h
        refine ⟨r, .between a b, by rw [zs_drop]; rfl, by simp only [List.length_cons]; omega, rfl, fun cs hd => .k2 (c := .between) rfl hd⟩
    | 7 =>
      rw [call_n (n := 1) rfl, zs_length] at h
      match r, h with
      | [], h => simp at h
      | a :: r, h =>
        rw [if_neg (by simp)] at h
        cases h
        refine ⟨r, .roads a, by rw [zs_drop]; rfl, by simp only [List.length_cons]; omega, rfl, fun cs hd => .k1 (c := .roads) rfl hd⟩
    | 8 =>
      rw [call_n (n := 1) rfl, zs_length] at h
      match r, h with
      | [], h => simp at h
      | a :: r, h =>
        rw [if_neg (by simp)] at h
        cases h
        refine ⟨r, .round a, by rw [zs_drop]; rfl, by simp only [List.length_cons]; omega, rfl, fun cs hd => .k1 (c := .round) rfl hd⟩
    | 9 =>
      rw [call_n (n := 1) rfl, zs_length] at h
      match r, h with
      | [], h => simp at h
      | a :: r, h =>
        rw [if_neg (by simp)] at h
        cases h
        refine ⟨r, .once a, by rw [zs_drop]; rfl, by simp only [List.length_cons]; omega, rfl, fun cs hd => .k1 (c := .once) rfl hd⟩
    | 10 =>
      rw [call_n (n := 2) rfl, zs_length] at h
      match r, h with
      | [], h => simp at h
      | [_], h => simp at h
      | a :: b :: r, h =>
        rw [if_neg (by simp)] at h
        cases h
        refine ⟨r, .tour a b, by rw [zs_drop]; rfl, by simp only [List.length_cons]; omega, rfl, fun cs hd => .k2 (c := .tour) rfl hd⟩
    | 11 =>
      rw [call_n (n := 2) rfl, zs_length] at h
      match r, h with
      | [], h => simp at h
      | [_], h => simp at h
      | a :: b :: r, h =>
        rw [if_neg (by simp)] at h
        cases h
        refine ⟨r, .way a b, by rw [zs_drop]; rfl, by simp only [List.length_cons]; omega, rfl, fun cs hd => .k2 (c := .way) rfl hd⟩
    | 12 =>
      rw [call_n (n := 2) rfl, zs_length] at h
      match r, h with
      | [], h => simp at h
      | [_], h => simp at h
      | a :: b :: r, h =>
        rw [if_neg (by simp)] at h
        cases h
        refine ⟨r, .when a b, by rw [zs_drop]; rfl, by simp only [List.length_cons]; omega, rfl, fun cs hd => .k2 (c := .when) rfl hd⟩
    | 13 =>
      rw [call_n (n := 1) rfl, zs_length] at h
      match r, h with
      | [], h => simp at h
      | a :: r, h =>
        rw [if_neg (by simp)] at h
        cases h
        refine ⟨r, .last a, by rw [zs_drop]; rfl, by simp only [List.length_cons]; omega, rfl, fun cs hd => .k1 (c := .last) rfl hd⟩
    | 14 =>
      rw [call_n (n := 2) rfl, zs_length] at h
      match r, h with
      | [], h => simp at h
      | [_], h => simp at h
      | a :: b :: r, h =>
        rw [if_neg (by simp)] at h
        cases h
        refine ⟨r, .more a b, by rw [zs_drop]; rfl, by simp only [List.length_cons]; omega, rfl, fun cs hd => .k2 (c := .more) rfl hd⟩
    | 15 =>
      rw [call_n (n := 2) rfl, zs_length] at h
      match r, h with
      | [], h => simp at h
      | [_], h => simp at h
      | a :: b :: r, h =>
        rw [if_neg (by simp)] at h
        cases h
        refine ⟨r, .less a b, by rw [zs_drop]; rfl, by simp only [List.length_cons]; omega, rfl, fun cs hd => .k2 (c := .less) rfl hd⟩
    | 16 =>
      rw [call_n (n := 0) rfl, if_neg (by omega)] at h
      cases h
      refine ⟨r, .bestStart, by rw [zs_drop]; rfl, by simp, rfl, fun cs hd => .k0 rfl hd⟩
    | 17 =>
      rw [call_n (n := 2) rfl, zs_length] at h
      match r, h with
      | [], h => simp at h
      | [_], h => simp at h
      | a :: b :: r, h =>
        rw [if_neg (by simp)] at h
        cases h
        refine ⟨r, .passes a b, by rw [zs_drop]; rfl, by simp only [List.length_cons]; omega, rfl, fun cs hd => .k2 (c := .passes) rfl hd⟩
    | 18 =>
      rw [call_l (n := 1) rfl, zs_length] at h
      match r, h with
      | [], h => simp at h
      | a :: r, h =>
        rw [if_neg (by simp), zs_drop] at h
        match r, h with
        | [], h => cases h
        | m :: r, h =>
          have h : (match (if 0 ≤ ((m : Nat) : Int) ∧ ((m : Nat) : Int).toNat ≤ (zs r).length then some ((zs r).take ((m : Nat) : Int).toNat, (zs r).drop ((m : Nat) : Int).toNat) else none) with
            | none => none
            | some (x, s) => some ([((18 : Nat) : Int) :: (zs (a :: m :: r)).take 1, x], s)) = some (c, t) := h
          by_cases hm : 0 ≤ ((m : Nat) : Int) ∧ ((m : Nat) : Int).toNat ≤ (zs r).length
          · rw [if_pos hm] at h
            cases h
            have hml : m ≤ r.length := by have := hm.2; rw [zs_length] at this; exact this
            have e6 : (zs (r.take m)).length = 6 := by
              have q : okc [[(18 : Int), (a : Int)], (zs r).take m] = true := ok
              rw [zs_take] at q
              unfold okc at q
              have q : (Km460Neutral.natural (a : Int) 32 && (decide ((zs (r.take m)).length = 6) && (zs (r.take m)).all fun (z : Int) => Km460Neutral.natural z 32)) = true := q
              simp only [Bool.and_eq_true, decide_eq_true_eq] at q
              exact q.2.1
            have e7 : m = 6 := by
              rw [zs_length, List.length_take] at e6
              omega
            subst e7
            refine ⟨r.drop 6, .order a (r.take 6), ?_, ?_, ?_, fun cs hd => ?_⟩
            · rw [← zs_drop]; rfl
            · simp; omega
            · show some (Call.order a (Km460Neutral.nats ((zs r).take 6))) = _
              rw [zs_take, nats_zs]
            · have := Dec.kl (a := a) (l := r.take 6) (by rw [← zs_length]; exact e6) hd
              rw [List.take_append_drop] at this
              exact this
          · rw [if_neg hm] at h
            cases h
    | 19 =>
      rw [call_n (n := 1) rfl, zs_length] at h
      match r, h with
      | [], h => simp at h
      | a :: r, h =>
        rw [if_neg (by simp)] at h
        cases h
        refine ⟨r, .look a, by rw [zs_drop]; rfl, by simp only [List.length_cons]; omega, rfl, fun cs hd => .k1 (c := .look) rfl hd⟩
    | 20 =>
      rw [call_n (n := 0) rfl, if_neg (by omega)] at h
      cases h
      refine ⟨r, .calls, by rw [zs_drop]; rfl, by simp, rfl, fun cs hd => .k0 rfl hd⟩
    | 21 =>
      rw [call_n (n := 0) rfl, if_neg (by omega)] at h
      cases h
      refine ⟨r, .sums, by rw [zs_drop]; rfl, by simp, rfl, fun cs hd => .k0 rfl hd⟩
    | 22 =>
      rw [call_n (n := 0) rfl, if_neg (by omega)] at h
      cases h
      refine ⟨r, .back, by rw [zs_drop]; rfl, by simp, rfl, fun cs hd => .k0 rfl hd⟩
    | 23 =>
      rw [call_n (n := 0) rfl, if_neg (by omega)] at h
      cases h
      refine ⟨r, .again, by rw [zs_drop]; rfl, by simp, rfl, fun cs hd => .k0 rfl hd⟩
    | 24 =>
      rw [call_n (n := 0) rfl, if_neg (by omega)] at h
      cases h
      refine ⟨r, .state, by rw [zs_drop]; rfl, by simp, rfl, fun cs hd => .k0 rfl hd⟩
    | p + 25 =>
      have e : PyKm460.shape ((p + 25 : Nat) : Int) = none := by
        unfold PyKm460.shape
        rw [if_neg (show ¬ ((p + 25 : Nat) : Int) = 0 by omega), if_neg (show ¬ ((p + 25 : Nat) : Int) = 1 by omega), if_neg (show ¬ ((p + 25 : Nat) : Int) = 2 by omega), if_neg (show ¬ ((p + 25 : Nat) : Int) = 3 by omega), if_neg (show ¬ ((p + 25 : Nat) : Int) = 4 by omega), if_neg (show ¬ ((p + 25 : Nat) : Int) = 5 by omega), if_neg (show ¬ ((p + 25 : Nat) : Int) = 6 by omega), if_neg (show ¬ ((p + 25 : Nat) : Int) = 7 by omega), if_neg (show ¬ ((p + 25 : Nat) : Int) = 8 by omega), if_neg (show ¬ ((p + 25 : Nat) : Int) = 9 by omega), if_neg (show ¬ ((p + 25 : Nat) : Int) = 10 by omega), if_neg (show ¬ ((p + 25 : Nat) : Int) = 11 by omega), if_neg (show ¬ ((p + 25 : Nat) : Int) = 12 by omega), if_neg (show ¬ ((p + 25 : Nat) : Int) = 13 by omega), if_neg (show ¬ ((p + 25 : Nat) : Int) = 14 by omega), if_neg (show ¬ ((p + 25 : Nat) : Int) = 15 by omega), if_neg (show ¬ ((p + 25 : Nat) : Int) = 16 by omega), if_neg (show ¬ ((p + 25 : Nat) : Int) = 17 by omega), if_neg (show ¬ ((p + 25 : Nat) : Int) = 18 by omega), if_neg (show ¬ ((p + 25 : Nat) : Int) = 19 by omega), if_neg (show ¬ ((p + 25 : Nat) : Int) = 20 by omega), if_neg (show ¬ ((p + 25 : Nat) : Int) = 21 by omega), if_neg (show ¬ ((p + 25 : Nat) : Int) = 22 by omega), if_neg (show ¬ ((p + 25 : Nat) : Int) = 23 by omega), if_neg (show ¬ ((p + 25 : Nat) : Int) = 24 by omega)]
      unfold PyFlat.call at h
      dsimp only at h
      rw [e] at h
      cases h

theorem dec_of : ∀ (f : Nat) (nl : List Nat) (raw : List (List (List Int))), PyFlat.calls PyKm460.shape f (zs nl) = some raw → raw.all okc = true →
    ∃ cs, Dec nl cs ∧ cs.length = raw.length ∧ (raw.map fun c => Km460Neutral.callOf (PyKm460.whole c)) = cs.map some := by
  intro f
  induction f with
  | zero =>
    intro nl raw h ok
    cases nl with
    | nil =>
      have h : some [] = some raw := h
      cases h
      exact ⟨[], .nil, rfl, rfl⟩
    | cons p r => cases h
  | succ f ih =>
    intro nl raw h ok
    cases nl with
    | nil =>
      have h : some [] = some raw := h
      cases h
      exact ⟨[], .nil, rfl, rfl⟩
    | cons p r =>
      have h : (match PyFlat.call PyKm460.shape (zs (p :: r)) with
        | none => none
        | some (c, t) => match PyFlat.calls PyKm460.shape f t with
          | none => none
          | some cs => some (c :: cs)) = some raw := h
      cases e1 : PyFlat.call PyKm460.shape (zs (p :: r)) with
      | none => rw [e1] at h; cases h
      | some q =>
        obtain ⟨c, t⟩ := q
        rw [e1] at h
        dsimp only at h
        cases e2 : PyFlat.calls PyKm460.shape f t with
        | none => rw [e2] at h; cases h
        | some rs =>
          rw [e2] at h
          cases h
          rw [List.all_cons, Bool.and_eq_true] at ok
          obtain ⟨nt, x, rfl, _, hx, hd⟩ := step_of e1 ok.1
          obtain ⟨cs, k1, k2, k3⟩ := ih nt rs e2 ok.2
          exact ⟨x :: cs, hd cs k1, by simp [k2], by rw [List.map_cons, List.map_cons, hx, k3]⟩
def playD : Desk → List Call → List (List Int)
  | _, [] => []
  | d, c :: cs => Km460Neutral.told (Km460.act d c).2 :: playD (Km460.act d c).1 cs
theorem step_some {d : Desk} {c : List (List Int)} {x : Call} (h : Km460Neutral.callOf c = some x) : Km460Neutral.step (some d) c = (some (Km460.act d x).1, Km460Neutral.told (Km460.act d x).2) := by
  unfold Km460Neutral.step
  rw [h]
theorem play_some : ∀ (raw : List (List (List Int))) (cs : List Call) (d : Desk), (raw.map Km460Neutral.callOf) = cs.map some → PyFlat.played Km460Neutral.step (some d) raw = playD d cs
  | [], [], d, _ => rfl
  | [], _ :: _, d, h => by simp at h
  | _ :: _, [], d, h => by simp at h
  | c :: raw, x :: cs, d, h => by
    rw [List.map_cons, List.map_cons] at h
    obtain ⟨h1, h2⟩ := List.cons.inj h
    unfold PyFlat.played playD
    rw [step_some h1, play_some raw cs _ h2]
theorem play_start {raw : List (List (List Int))} {cs : List Call} (h : (raw.map Km460Neutral.callOf) = cs.map some) (hm : Km460Neutral.may Km460Neutral.start raw = true) : PyFlat.played Km460Neutral.step Km460Neutral.start raw = playD Km460.fresh cs := by
  cases raw with
  | nil =>
    cases cs with
    | nil => rfl
    | cons _ _ => simp at h
  | cons c raw =>
    cases cs with
    | nil => simp at h
    | cons x cs =>
      rw [List.map_cons, List.map_cons] at h
      obtain ⟨h1, h2⟩ := List.cons.inj h
      unfold Km460Neutral.may at hm
      rw [Bool.and_eq_true] at hm
      by_cases hx : Km460Neutral.isStart x = true
      · have hx : x = .start := by cases x <;> first | rfl | cases hx
        subst hx
        have e : Km460Neutral.step Km460Neutral.start c = (some Km460.fresh, [0]) := by
          unfold Km460Neutral.step
          rw [h1]
          rfl
        unfold PyFlat.played playD
        rw [e, play_some raw cs _ h2]
        rfl
      · exfalso
        have e : Km460Neutral.step Km460Neutral.start c = (Km460Neutral.start, []) := by
          unfold Km460Neutral.step
          rw [h1]
          show (if Km460Neutral.isStart x = true then _ else _) = _
          rw [if_neg hx]
        rw [e] at hm
        exact absurd hm.1 (by decide)
/-- what is asked, as calls -/
theorem asked_of {nl : List Nat} (h : PyKm460.answers_asked (zs nl) = true) : ∃ cs, Dec nl cs ∧ cs.length ≤ 1000 ∧ PyKm460.answers (zs nl) = PyFlat.told (playD Km460.fresh cs) ∧ (PyFlat.told (playD Km460.fresh cs)).length ≤ 10000000 := by
  unfold PyKm460.answers_asked at h
  cases e : PyFlat.calls PyKm460.shape (zs nl).length (zs nl) with
  | none => rw [e] at h; cases h
  | some raw =>
    rw [e] at h
    dsimp only at h
    simp only [Bool.and_eq_true] at h
    obtain ⟨⟨⟨⟨h1, h2⟩, h3⟩, h4⟩, h5⟩ := h
    unfold Km460Neutral.asked at h4
    simp only [Bool.and_eq_true] at h4
    obtain ⟨h6, h7, h8, h9⟩ := h4
    have ok : raw.all okc = true := by
      rw [List.all_map] at h8
      exact h8
    obtain ⟨cs, k1, k2, k3⟩ := dec_of _ nl raw e ok
    have k4 : ((raw.map PyKm460.whole).map Km460Neutral.callOf) = cs.map some := by rw [List.map_map]; exact k3
    have ea : PyKm460.answers (zs nl) = PyFlat.told (playD Km460.fresh cs) := by
      unfold PyKm460.answers PyKm460.calls
      rw [e]
      dsimp only
      rw [play_start k4 h9]
    refine ⟨cs, k1, ?_, ea, ?_⟩
    · rw [k2]
      exact of_decide_eq_true h2
    · rw [← ea]
      exact of_decide_eq_true h5
end VD
end
noncomputable section
set_option linter.all false
namespace VS
open PySem

/-- the places of a table rise -/
def Ris (xs : Array Nat) : Prop := xs.toList.Pairwise (· < ·)
theorem ris_at {xs : Array Nat} (h : Ris xs) {i k x y : Nat} (hik : i < k) (hx : xs[i]? = some x) (hy : xs[k]? = some y) : x < y := by
  have hk : k < xs.size := (Array.getElem?_eq_some_iff.mp hy).1
  have ex : xs.toList[i]'(by simp; omega) = x := by
    have := (Array.getElem?_eq_some_iff.mp hx).2
    simpa using this
  have ey : xs.toList[k]'(by simpa using hk) = y := by
    have := (Array.getElem?_eq_some_iff.mp hy).2
    simpa using this
  have := List.pairwise_iff_getElem.mp h i k (by simp; omega) (by simpa using hk) hik
  rw [ex, ey] at this
  exact this
structure Cut (xs : Array Nat) (j r : Nat) : Prop where
  le : r ≤ xs.size
  lo : ∀ i x, i < r → xs[i]? = some x → x < j
  hi : ∀ i x, r ≤ i → xs[i]? = some x → j ≤ x
theorem cut_go {xs : Array Nat} (h : Ris xs) (j : Nat) : ∀ (fuel lo hi : Nat), hi - lo ≤ fuel → lo ≤ hi → hi ≤ xs.size → (∀ i x, i < lo → xs[i]? = some x → x < j) → (∀ i x, hi ≤ i → xs[i]? = some x → j ≤ x) →
    Cut xs j (SetTable.below.go xs j fuel lo hi) := by
  intro fuel
  induction fuel with
  | zero =>
    intro lo hi h1 h2 h3 h4 h5
    have e : lo = hi := by omega
    subst e
    exact ⟨h3, h4, h5⟩
  | succ fuel ih =>
    intro lo hi h1 h2 h3 h4 h5
    unfold SetTable.below.go
    by_cases hlt : lo < hi
    · rw [if_pos hlt]
      have hm : (lo + hi) / 2 < xs.size := by omega
      have hget : xs[(lo + hi) / 2]? = some xs[(lo + hi) / 2] := Array.getElem?_eq_getElem hm
      have hD : xs.getD ((lo + hi) / 2) j = xs[(lo + hi) / 2] := by rw [Array.getD_eq_getD_getElem?, hget]; rfl
      dsimp only
      rw [hD]
      by_cases hc : xs[(lo + hi) / 2] < j
      · rw [if_pos hc]
        refine ih _ _ (by omega) (by omega) h3 (fun i x hi' hx => ?_) h5
        by_cases e : i = (lo + hi) / 2
        · subst e
          rw [hget] at hx
          cases hx
          exact hc
        · have := ris_at h (i := i) (k := (lo + hi) / 2) (by omega) hx hget
          omega
      · rw [if_neg hc]
        refine ih _ _ (by omega) (by omega) (by omega) h4 (fun i x hi' hx => ?_)
        by_cases e : i = (lo + hi) / 2
        · subst e
          rw [hget] at hx
          cases hx
          omega
        · have := ris_at h (i := (lo + hi) / 2) (k := i) (by omega) hget hx
          omega
    · rw [if_neg hlt]
      have e : lo = hi := by omega
      subst e
      exact ⟨h3, h4, h5⟩
theorem cut_below {xs : Array Nat} (h : Ris xs) (j : Nat) : Cut xs j (SetTable.below xs j) :=
  cut_go h j xs.size 0 xs.size (by omega) (Nat.zero_le _) (Nat.le_refl _) (fun i x hi => by omega) fun i x hi hx => by
    have := (Array.getElem?_eq_some_iff.mp hx).1
    omega
theorem below_zero {xs : Array Nat} (h : Ris xs) : SetTable.below xs 0 = 0 := by
  have c := cut_below h 0
  by_cases e : SetTable.below xs 0 = 0
  · exact e
  · have hs : 0 < xs.size := by have := c.le; omega
    have := c.lo 0 xs[0] (by omega) (Array.getElem?_eq_getElem hs)
    omega
theorem below_next {xs : Array Nat} (h : Ris xs) {i x : Nat} (hx : xs[i]? = some x) : SetTable.below xs (x + 1) = i + 1 := by
  have c := cut_below h (x + 1)
  have hi : i < xs.size := (Array.getElem?_eq_some_iff.mp hx).1
  rcases Nat.lt_trichotomy (SetTable.below xs (x + 1)) (i + 1) with e | e | e
  · have := c.hi i x (by omega) hx
    omega
  · exact e
  · have hs : i + 1 < xs.size := by have := c.le; omega
    have hy := Array.getElem?_eq_getElem hs
    have h1 := c.lo (i + 1) _ e hy
    have h2 := ris_at h (i := i) (k := i + 1) (by omega) hx hy
    omega
theorem ris_insert {xs : Array Nat} (h : Ris xs) {j : Nat} (hn : xs[SetTable.below xs j]? ≠ some j) : Ris (SetTable.insertAt xs (SetTable.below xs j) j) := by
  have c := cut_below h j
  generalize SetTable.below xs j = p at *
  unfold Ris
  rw [SetTable.toList_insertAt]
  have hlo : ∀ a ∈ xs.toList.take p, a < j := by
    intro a ha
    obtain ⟨i, hi, e⟩ := List.mem_iff_getElem.mp ha
    have hi' : i < p ∧ i < xs.size := by have : i < min p xs.size := by simpa using hi
                                         omega
    refine c.lo i a hi'.1 ?_
    rw [Array.getElem?_eq_getElem hi'.2]
    simp at e
    rw [e]
  have hhi : ∀ b ∈ xs.toList.drop p, j < b := by
    intro b hb
    obtain ⟨i, hi, e⟩ := List.mem_iff_getElem.mp hb
    have hi' : p + i < xs.size := by
      have : i < xs.size - p := by simpa using hi
      omega
    have hget : xs[p + i]? = some b := by
      rw [Array.getElem?_eq_getElem hi']
      simp at e
      rw [e]
    have h1 := c.hi (p + i) b (by omega) hget
    by_cases e0 : i = 0
    · subst e0
      by_cases ej : b = j
      · subst ej; exact absurd hget hn
      · omega
    · have hp : p < xs.size := by omega
      have hg := Array.getElem?_eq_getElem hp
      have h2 := c.hi p _ (Nat.le_refl _) hg
      have h3 := ris_at h (i := p) (k := p + i) (by omega) hg hget
      omega
  refine List.pairwise_append.mpr ⟨List.Pairwise.sublist (List.take_sublist _ _) h, List.pairwise_cons.mpr ⟨hhi, List.Pairwise.sublist (List.drop_sublist _ _) h⟩, ?_⟩
  intro a ha b hb
  rcases List.mem_cons.mp hb with rfl | hb
  · exact hlo a ha
  · have := hlo a ha
    have := hhi b hb
    omega
/-- no element stands at the slot -/
def Off (t : SetTable) (j : Nat) : Prop := t.place[SetTable.below t.place j]? ≠ some j
theorem off_of {t : SetTable} {j : Nat} (h : ∀ i, t.slot j ≠ .live i) : Off t j := by
  intro e
  refine h (SetTable.below t.place j) ?_
  unfold SetTable.slot
  dsimp only
  rw [if_pos (by rw [e]; simp)]
theorem probe_off {t : SetTable} {ha : Nat → Int} {h : Int} : ∀ (fuel : Nat) (p : SetTable.Probe) (j : Nat) (d : Option Nat), (∀ x, p.dummy = some x → Off t x) → SetTable.probe.go t ha h fuel p = some (.empty j d) → Off t (d.getD j) := by
  intro fuel
  induction fuel with
  | zero => intro p j d _ e; simp [SetTable.probe.go] at e
  | succ fuel ih =>
    intro p j d hd e
    have adv : ∀ q : SetTable.Probe, (t.advance q).dummy = q.dummy := by
      intro q
      unfold SetTable.advance
      split <;> rfl
    unfold SetTable.probe.go at e
    cases hs : t.slot p.j with
    | empty =>
      rw [hs] at e
      simp at e
      obtain ⟨e1, e2⟩ := e
      subst e1 e2
      cases hp : p.dummy with
      | none => exact off_of fun i z => by simp at z; rw [hs] at z; cases z
      | some x => exact hd x hp
    | dummy =>
      rw [hs] at e
      refine ih _ j d (fun x hx => ?_) e
      rw [adv] at hx
      have hx : some p.j = some x := hx
      cases hx
      exact off_of fun i z => by rw [hs] at z; cases z
    | live i =>
      rw [hs] at e
      dsimp only at e
      split at e
      · cases e
      · exact ih _ j d (fun x hx => hd x (by rw [adv] at hx; exact hx)) e
theorem free_off {t : SetTable} {h : Int} {slot : Nat} {b : Bool} (e : t.freeSlot h = some (slot, b)) : Off t slot := by
  unfold SetTable.freeSlot at e
  split at e
  · rename_i j d hp
    simp at e
    obtain ⟨e1, _⟩ := e
    subst e1
    exact probe_off _ _ j d (fun x hx => by simp [SetTable.probeStart] at hx) hp
  · cases e
theorem ris_range (n : Nat) : Ris (Array.range n) := by
  unfold Ris
  rw [Array.toList_range]
  exact List.pairwise_lt_range
/-- what is kept of a table -/
structure Keep (t t' : SetTable) : Prop where
  ris : Ris t.place → Ris t'.place
  led : t'.led = t.led
theorem keep_lay (t : SetTable) (es : Array (Int × Value)) (h : Int) (x : Value) : Keep t (layNew t es h x).2.1 := by
  unfold layNew
  cases e : t.freeSlot h with
  | none => exact ⟨fun _ => ris_range _, rfl⟩
  | some q =>
    obtain ⟨slot, b⟩ := q
    dsimp only
    unfold SetTable.orStandIn
    split
    · exact ⟨fun hr => ris_insert hr (free_off e), rfl⟩
    · exact ⟨fun _ => ris_range _, rfl⟩
theorem keep_relay (t : SetTable) (es : Array (Int × Value)) (wanted : Nat) : Keep t (relayAll t es wanted).2.1 := by
  unfold relayAll
  cases e : t.relaid (es.map (·.1)) wanted with
  | none => exact ⟨fun _ => ris_range _, rfl⟩
  | some q =>
    obtain ⟨t', order⟩ := q
    dsimp only
    split
    · unfold SetTable.relaid SetTable.laid at e
      cases ho : SetTable.layClean (SetTable.sizeAbove wanted - 1) (es.map (·.1)) with
      | none => rw [ho] at e; cases e
      | some owner =>
        rw [ho] at e
        have e := (Prod.mk.inj (Option.some.inj e)).1
        subst e
        refine ⟨fun _ => ?_, rfl⟩
        show List.Pairwise _ _
        have key : ∀ l : List Nat, l.Pairwise (· < ·) → ((l.filterMap fun j => (owner.getD j none).map (j, ·)).map (·.1)).Pairwise (· < ·) := by
          intro l hl
          have e2 : ((l.filterMap fun j => (owner.getD j none).map (j, ·)).map (·.1)) = l.filter fun j => (owner.getD j none).isSome := by
            clear hl
            induction l with
            | nil => rfl
            | cons a l ih =>
              cases ha : owner.getD a none with
              | none =>
                rw [List.filterMap_cons_none (by rw [ha]; rfl), List.filter_cons_of_neg (by rw [ha]; simp), ih]
              | some y =>
                rw [List.filterMap_cons_some (b := (a, y)) (by rw [ha]; rfl), List.filter_cons_of_pos (by rw [ha]; rfl), List.map_cons, ih]
          rw [e2]
          exact List.Pairwise.filter _ hl
        exact key _ List.pairwise_lt_range
    · exact ⟨fun _ => ris_range _, rfl⟩
end VS
end
noncomputable section
set_option linter.all false
namespace VS
open PySem PySem.Spec PyProof.Rows

/-- the int that an element is -/
def keyI : Int × Value → Int := fun e => match e.2 with | .int i _ => i | _ => 0
/-- the parts of a set object of ints: D its ints in some order, no two alike -/
structure SetO (P : Program) (w : World) (o : Obj) (D : List Int) (es : Array (Int × Value)) (ep : Nat) (t : SetTable) : Prop where
  ex : o.ExactSet
  dat : o.data = .set es ep t
  el : ElemsOf (PySem.intKind P w) es.toList
  perm : (es.toList.map keyI).Perm D
  nd : D.Nodup
  few : es.size < scanBound
  fits : t.fits es.size = true
  ris : Ris t.place
  led : w.params.followText "set-order" = false → t.led = true
def SetI (P : Program) (w : World) (h : Heap) (a : Addr) (D : List Int) : Prop := ∃ o es ep t, h.get? a = some o ∧ SetO P w o D es ep t
theorem keyI_of {P : Program} {w : World} {k : Int} {e : Int × Value} (h : (PySem.intKind P w).is k e.2 = true) : keyI e = k := by
  obtain ⟨t, q⟩ := Value.isInt_shape (show Value.isInt k e.2 = true from h)
  unfold keyI
  rw [q]
theorem is_keyI {P : Program} {w : World} {l : List (Int × Value)} (h : ElemsOf (PySem.intKind P w) l) {e : Int × Value} (he : e ∈ l) : (PySem.intKind P w).is (keyI e) e.2 = true := by
  obtain ⟨⟨k, hk, _⟩, _⟩ := h e he
  rw [keyI_of hk]
  exact hk
def putD (D : List Int) (k : Int) : List Int := if k ∈ D then D else D ++ [k]
section
variable {P : Program} {w : World} {A : Around} {E : Value → Shared → Prop} {s : Shared}

theorem SetO.store {h : Heap} {a : Addr} {o : Obj} {es : Array (Int × Value)} {ep : Nat} {t : SetTable} (ho : h.get? a = some o) (hx : o.ExactSet) (hd : o.data = .set es ep t) {es' : Array (Int × Value)} {t' : SetTable} {D : List Int}
    (el : ElemsOf (PySem.intKind P w) es'.toList) (perm : (es'.toList.map keyI).Perm D) (nd : D.Nodup) (few : es'.size < scanBound) (fits : t'.fits es'.size = true) (ris : Ris t'.place) (led : w.params.followText "set-order" = false → t'.led = true) :
    ∃ o', (h.update a (Obj.putSet es' t')).get? a = some o' ∧ SetO P w o' D es' (ep + 1) t' := by
  refine ⟨{ o with data := .set es' (ep + 1) t' }, ?_, hx, rfl, el, perm, nd, few, fits, ris, led⟩
  have q := Heap.get?_update_self (Obj.putSet es' t') ho (by rw [putSet_of es' t' hd]; rfl)
  rw [putSet_of es' t' hd] at q
  exact q

theorem set_tail {g : Bool → Sem Unit} (hg : ∀ (b : Bool) (s1 : Shared) (Q' : Unit → Shared → Prop), Q' () s1 → wpAny (model P w) A (g b) Q' E s1)
    {a : Addr} {o : Obj} {es : Array (Int × Value)} {ep : Nat} {t : SetTable} (ho : s.heap.get? a = some o) (hx : o.ExactSet) (hd : o.data = .set es ep t)
    {es1 : Array (Int × Value)} {t2 : SetTable} {D : List Int} (el : ElemsOf (PySem.intKind P w) es1.toList) (perm : (es1.toList.map keyI).Perm D) (nd : D.Nodup) (few : es1.size < scanBound) (fits : t2.fits es1.size = true) (ris : Ris t2.place)
    (led : w.params.followText "set-order" = false → t2.led = true) {was : Bool} {R : Option Bool → Shared → Prop} (h : ∀ h', Heap.SameBut a s.heap h' → SetI P w h' a D → R (some true) { s with heap := h' }) :
    wpAny (model P w) A (do
        storeSet a es1 t2
        if (!was && t2.tooFull) = true then do
            g (relayAll t2 es1 (SetTable.grown es1.size)).2.2
            storeSet a (relayAll t2 es1 (SetTable.grown es1.size)).1 (relayAll t2 es1 (SetTable.grown es1.size)).2.1
            pure (some true)
          else pure (some true)) R E s := by
  obtain ⟨o1, ho1, O1⟩ := SetO.store (P := P) (w := w) ho hx hd el perm nd few fits ris led
  have sb1 := Heap.SameBut.update s.heap a (Obj.putSet es1 t2)
  refine wpAny_bind (wpAny_storeSet_of ho hd ?_ (fits_of_scanBound few))
  by_cases hc : (!was && t2.tooFull) = true
  · rw [if_pos hc]
    have kp := keep_relay t2 es1 (SetTable.grown es1.size)
    have p2 := relayAll_perm t2 es1 (SetTable.grown es1.size)
    have f2 := relayAll_fits t2 es1 (SetTable.grown es1.size)
    generalize relayAll t2 es1 (SetTable.grown es1.size) = Y at kp p2 f2 ⊢
    have sz : Y.1.size = es1.size := by rw [← Array.length_toList, p2.length_eq, Array.length_toList]
    have few2 : Y.1.size < scanBound := by rw [sz]; exact few
    refine wpAny_bind (hg _ _ _ (wpAny_bind (wpAny_storeSet_of ho1 O1.dat ?_ (fits_of_scanBound few2))))
    obtain ⟨o3, ho3, O3⟩ := SetO.store (P := P) (w := w) (D := D) ho1 O1.ex O1.dat (el.perm p2) ((p2.map keyI).trans perm) nd few2 f2 (kp.ris ris) (fun z => kp.led.trans (led z))
    exact wpAny_pure (h _ (sb1.trans (Heap.SameBut.update _ a _)) ⟨_, _, _, _, ho3, O3⟩)
  · rw [if_neg hc]
    exact wpAny_pure (h _ sb1 ⟨_, _, _, _, ho1, O1⟩)

theorem set_add {a : Addr} {D : List Int} {k : Int} {tk : Tok} {Q : Bool → Shared → Prop} (hS : SetI P w s.heap a D) (hroom : D.length + 1 < scanBound)
    (h : ∀ b h', Heap.SameBut a s.heap h' → SetI P w h' a (putD D k) → Q b { s with heap := h' }) : wpAny (model P w) A (setAddHashed a (.int k tk) (hashInt k)) Q E s := by
  obtain ⟨o, es, ep, t, ho, O⟩ := hS
  have hkey : (PySem.intKind P w).is k (.int k tk) = true := intKind_is P w k tk
  have sc : (Value.int k tk).scannable = true := rfl
  have hlen : es.size = D.length := by have := O.perm.length_eq; simpa using this
  unfold setAddHashed setAddHashedIn
  refine wpAny_holding (wpAny_bind (wpAny_setState_of ho O.dat O.fits ?_))
  dsimp only
  rw [byScan_of sc O.few O.el, if_pos rfl]
  unfold setAddByScan
  refine wpAny_bind (wpAny_bind (wpAny_rule (wpAny_bind (wpAny_setScan_of (knd := PySem.intKind P w) (k := k) hkey ho O.dat O.fits O.el ?_))))
  cases hr : es.toList.findIdx? (fun e => (PySem.intKind P w).is k e.2) with
  | some j =>
    dsimp only
    obtain ⟨hj, hp, _⟩ := List.findIdx?_eq_some_iff_getElem.mp hr
    have hm : k ∈ D := O.perm.mem_iff.mp (List.mem_map.mpr ⟨es.toList[j], List.getElem_mem hj, keyI_of hp⟩)
    refine wpAny_pure (wpAny_pure ?_)
    have q := h false s.heap (Heap.SameBut.refl a s.heap) ⟨o, es, ep, t, ho, by unfold putD; rw [if_pos hm]; exact O⟩
    exact q
  | none =>
    dsimp only
    have hm : k ∉ D := fun hm => by
      obtain ⟨e, he, q⟩ := List.mem_map.mp (O.perm.mem_iff.mpr hm)
      have z := List.findIdx?_eq_none_iff.mp hr e he
      rw [← q, is_keyI O.el he] at z
      cases z
    have eD : putD D k = D ++ [k] := by unfold putD; rw [if_neg hm]
    have kp := keep_lay t es (hashInt k) (.int k tk)
    have p1 := layNew_perm t es (hashInt k) (.int k tk)
    have f1 := layNew_fits t es (hashInt k) (.int k tk)
    generalize layNew t es (hashInt k) (Value.int k tk) = Y at kp p1 f1 ⊢
    obtain ⟨es1, t1, was, gave⟩ := Y
    dsimp only at kp p1 f1 ⊢
    rw [Array.toList_push] at p1
    have el1 : ElemsOf (PySem.intKind P w) es1.toList := (O.el.push hkey sc).perm p1
    have sz1 : es1.size = es.size + 1 := by rw [← Array.length_toList, p1.length_eq, List.length_append, Array.length_toList] <;> rfl
    have few1 : es1.size < scanBound := by rw [sz1, hlen]; exact hroom
    have perm1 : (es1.toList.map keyI).Perm (putD D k) := by
      rw [eD]
      refine (p1.map keyI).trans ?_
      rw [List.map_append]
      exact O.perm.append_right _
    have nd1 : (putD D k).Nodup := by
      rw [eD]
      refine List.nodup_append.mpr ⟨O.nd, by simp, fun x hx y hy e => ?_⟩
      simp at hy
      subst hy e
      exact hm hx
    have gw : ∀ (b : Bool) {s1 : Shared} {Q' : Unit → Shared → Prop}, Q' () s1 → wpAny (model P w) A (match b with | true => rule "set.scan.the-table-gave-way" | false => pure ()) Q' E s1 := fun b s1 Q' q => by
      cases b
      · exact wpAny_pure q
      · exact wpAny_rule q
    refine wpAny_bind (gw _ ?_)
    by_cases hpl : t1.plain = true
    · rw [if_pos hpl]
      refine wpAny_bind ?_
      rw [hashByValue_scannable 8 sc]
      refine wpAny_pure (set_tail (fun b s1 Q' q => by cases b; exact wpAny_pure q; exact wpAny_rule q) ho O.ex O.dat el1 perm1 nd1 few1 ?_ ?_ ?_ fun h' sb q => wpAny_pure (h _ h' sb q))
      · exact f1
      · exact kp.ris O.ris
      · exact fun z => kp.led.trans (O.led z)
    · rw [if_neg hpl]
      refine wpAny_bind (wpAny_pure (set_tail (fun b s1 Q' q => by cases b; exact wpAny_pure q; exact wpAny_rule q) ho O.ex O.dat el1 perm1 nd1 few1 ?_ ?_ ?_ fun h' sb q => wpAny_pure (h _ h' sb q)))
      · exact f1
      · exact kp.ris O.ris
      · exact fun z => kp.led.trans (O.led z)
end
end VS
end
noncomputable section
set_option linter.all false
set_option maxRecDepth 100000
namespace VS
open PySem PySem.Spec PyProof.Rows

def dd (ns : List Int) : List Int := ns.foldl putD []
theorem mem_putD {D : List Int} {k x : Int} : x ∈ putD D k ↔ x ∈ D ∨ x = k := by
  unfold putD
  split
  · rename_i h
    exact ⟨.inl, fun z => z.elim id fun e => e ▸ h⟩
  · simp
theorem mem_ddG {x : Int} : ∀ (ns D : List Int), x ∈ ns.foldl putD D ↔ x ∈ D ∨ x ∈ ns
  | [], D => by simp
  | n :: ns, D => by
    rw [List.foldl_cons, mem_ddG ns, mem_putD, List.mem_cons, or_assoc]
theorem mem_dd {ns : List Int} {x : Int} : x ∈ dd ns ↔ x ∈ ns := by
  unfold dd
  rw [mem_ddG]
  simp
theorem putD_len (D : List Int) (k : Int) : (putD D k).length ≤ D.length + 1 := by
  unfold putD
  split <;> simp
theorem dd_take {ns : List Int} {i : Nat} {n : Int} (h : ns[i]? = some n) : dd (ns.take (i + 1)) = putD (dd (ns.take i)) n := by
  unfold dd
  rw [List.take_add_one, h, List.foldl_append]
  rfl
theorem dd_lenG : ∀ (ns D : List Int), (ns.foldl putD D).length ≤ D.length + ns.length
  | [], D => by simp
  | n :: ns, D => by
    have h1 := dd_lenG ns (putD D n)
    have h2 := putD_len D n
    rw [List.foldl_cons, List.length_cons]
    omega
theorem dd_len (ns : List Int) : (dd ns).length ≤ ns.length := by
  have q := dd_lenG ns []
  unfold dd
  simpa using q
theorem SetI.at {P : Program} {w : World} {h h' : Heap} {a : Addr} {D : List Int} (x : SetI P w h a D) (k : ∀ o, h.get? a = some o → h'.get? a = some o) : SetI P w h' a D :=
  let ⟨o, es, ep, t, e, O⟩ := x
  ⟨o, es, ep, t, k o e, O⟩
theorem set_fresh {P : Program} {w : World} {h : Heap} {a : Addr} {led : Bool} (hl : w.params.followText "set-order" = false → led = true) (e : h.get? a = some { cls := .type "set", dict := none, data := .set #[] 0 (.fresh 0 0 led) }) : SetI P w h a [] :=
  ⟨_, #[], 0, .fresh 0 0 led, e, ⟨rfl, rfl, rfl⟩, rfl, fun e he => by simp at he, List.Perm.refl _, List.nodup_nil, by decide, rfl, List.Pairwise.nil, hl⟩

section
variable {P : Program} {w : World} {A : Around} {R : Result → Shared → Prop} {I : Addr} {fp wr : List Addr} {G : Array GenState → Array GenState → Prop} {St : Nat → Shared → Prop} {items : Array Value} {ns : List Int}
theorem set_loop (W : WalksS P w A.in1 I fp wr G items.size (fun i v => items[i]? = some v) St) (hi : IntsAre items.toList ns) (S : Addr) (hSf : S ∉ fp) (hb : items.size + 1 < scanBound) :
    ∀ (k i : Nat) (s : Shared), items.size - i = k → i ≤ items.size → St i s → SetI P w s.heap S (dd (ns.take i)) →
      (∀ s', Moved (S :: wr) G s s' → SetI P w s'.heap S (dd ns) → R (.ok (.ret .none)) s') → codeAny (model P w) A (.builtin "set.update.loop" ⟨[.ref S, .ref I], []⟩) R s := by
  have hSw : S ∉ wr := fun z => hSf (W.sub _ z)
  have inc : ∀ b ∈ wr, b ∈ S :: wr := fun b z => List.mem_cons_of_mem _ z
  have hlen : items.size = ns.length := by have := hi.length; simpa using this
  intro k
  induction k with
  | zero =>
    intro i s hk hle st hS hR
    obtain rfl : i = items.size := by omega
    refine codeAny_builtin F.entry_set_update_loop ?_
    rw [Around.under_plainId F.plain_set_update_loop _]
    refine wpAny_bind (W.done s _ _ st fun s' hm => ?_)
    refine wpAny_pure (hR s' (hm.mono inc) ?_)
    rw [hlen, List.take_length] at hS
    exact hS.at fun o e => hm.heap S o hSw e
  | succ k ih =>
    intro i s hk hle st hS hR
    have hlt : i < items.size := by omega
    refine codeAny_builtin F.entry_set_update_loop ?_
    rw [Around.under_plainId F.plain_set_update_loop _]
    refine wpAny_bind (W.item i s _ _ hlt st fun v s' hv st' hm => ?_)
    have hn : ns[i]? = some (ns.getD i 0) := by
      rw [List.getD_eq_getElem?_getD, List.getElem?_eq_getElem (show i < ns.length by omega)]
      rfl
    obtain ⟨t, rfl⟩ := IntsAre.int_at hi i v (by rw [Array.getElem?_toList]; exact hv)
    have hS' := hS.at fun o e => hm.heap S o hSw e
    refine wpAny_bind (wpAny_holding ?_)
    unfold setAdd
    refine wpAny_holding (wpAny_bind ((PySem.intKind P w).pyHash (k := ns.getD i 0) (intKind_is _ _ _ _) ?_))
    have room : (dd (ns.take i)).length + 1 < scanBound := by
      have q := dd_len (ns.take i)
      rw [List.length_take] at q
      omega
    refine set_add (s := { s' with toks := s'.toks + 1 }) (k := ns.getD i 0) (tk := t) hS' room fun b h' sb hS2 => ?_
    rw [← dd_take hn] at hS2
    refine wpAny_pure ⟨plainId_quiet F.plain_set_update_loop _, ih (i + 1) _ (by omega) hlt (W.frame _ s' _ _ st' (Nat.le_succ _) fun c hc o e => ?_) hS2 fun s'' hm2 hS3 => ?_⟩
    · rw [sb.2 c (fun z : c = S => hSf (by rw [← z]; exact hc))]
      exact e
    · refine hR s'' (Moved.trans W.gtrans ((hm.mono inc).then_heap (Nat.le_succ _) fun c o hc e => ?_) hm2) hS3
      rw [sb.2 c (fun z : c = S => hc (by rw [z]; exact List.mem_cons_self))]
      exact e
end

section
variable {P : Program} {w : World} {A : Around} {E : Value → Shared → Prop} {s : Shared}
theorem set_new1 (a : Value) {Q1 : Value → Shared → Prop}
    (h : ∀ led : Bool, (w.params.followText "set-order" = false → led = true) → Q1 (.ref s.heap.objs.size) { s with heap := s.heap.push { cls := .type "set", dict := none, data := .set #[] 0 (.fresh 0 0 led) } }) :
    codeAny (model P w) A (.call (.builtin "set.__new__") ⟨[.type "set", a], []⟩) (wants Q1 E) s := by
  refine codeAny_of_tree ?_
  change wpAny _ A.in1 (do checkBuiltinCall "set.__new__" ⟨[.type "set", a], []⟩; again (.builtin "set.__new__" ⟨[.type "set", a], []⟩)) _ _ s
  refine wpAny_bind (wpAny_of_eq (PySem.F.newCall_set_1 a) (wpAny_pure ⟨plainId_quiet PySem.F.plain_set_new _, codeAny_builtin PySem.F.entry_set_new ?_⟩))
  rw [Around.under_plainId PySem.F.plain_set_new _]
  unfold Builtin.«set.__new__» Builtin.Frozenset.newClass
  have sub1 := sub_set_self
  obtain ⟨hp, g, d, tk, os⟩ := s
  dsimp only
  wp_walk
  refine wpAny_askSetting (wpAny_pure ?_)
  dsimp only
  simp only [newObj]
  refine wpAny_bind (wpAny_alloc (wpAny_pure (wpAny_pure (h _ fun z => ?_))))
  show (!w.params.followText "set-order") = true
  rw [z]
  rfl
end
end VS
end
noncomputable section
set_option linter.all false
namespace VS
open PySem PySem.Spec PyProof.Rows
section
variable {P : Program} {w : World} {A : Around} {E : Value → Shared → Prop} {s : Shared}
set_option maxRecDepth 100000 in
set_option maxHeartbeats 3200000 in
/-- set(xs) of a list of ints -/
theorem set_of_list {l : Addr} {items : Array Value} {ns : List Int} {Q : Value → Shared → Prop} (hh : A.handled = none) (hl : s.heap.IsList l items) (hi : IntsAre items.toList ns) (hb : items.size + 1 < scanBound)
    (h : ∀ (h' : Heap) (tk : Nat), SetI P w h' s.heap.objs.size (dd ns) → (∀ b o, b < s.heap.objs.size → s.heap.get? b = some o → h'.get? b = some o) → Q (.ref s.heap.objs.size) { s with heap := h', toks := tk }) :
    wpAny (model P w) A (call (.type "set") [.ref l]) Q E s := by
  obtain ⟨c, tl, mro1⟩ := PySem.F.called_set.mro
  have made1 := PySem.F.called_set.made; have sub1 := PySem.F.called_set.sub
  refine wpAny_call (codeAny_of_tree ?_)
  change wpAny _ _ (callAny (.type "set") _) _ _ _
  refine wpAny_pure ⟨Code.quiet_builtin _ (by decide +kernel), codeAny_builtin PySem.F.entry_type_call ?_⟩
  rw [Around.under_plain (weight_type_call_type "set" [.ref l] []) rfl]
  have not1 := PySem.F.called_set.notType; have can1 := PySem.F.called_set.canCreate; have ct1 := PySem.F.typeCall_set_1 (.ref l)
  repeat (any_goals (first | assumption | wp_step))
  refine codeAny_mono (set_new1 (.ref l) (E := E) (Q1 := fun obj s1 => ∃ led : Bool, (w.params.followText "set-order" = false → led = true) ∧ obj = .ref s.heap.objs.size ∧ s1 = { s with heap := s.heap.push { cls := .type "set", dict := none, data := .set #[] 0 (.fresh 0 0 led) } }) fun led z => ⟨led, z, rfl, rfl⟩) fun r s1 hr => ?_
  cases r with
  | error e => exact hr
  | ok fl =>
    cases fl with
    | ret obj =>
      obtain ⟨led, hled, rfl, rfl⟩ := hr
      have hS : (s.heap.push { cls := .type "set", dict := none, data := .set #[] 0 (.fresh 0 0 led) }).get? s.heap.objs.size = some { cls := .type "set", dict := none, data := .set #[] 0 (.fresh 0 0 led) } := by exact Heap.get?_push_size _ rfl
      have hT : Shared.TypeIs { s with heap := s.heap.push { cls := .type "set", dict := none, data := .set #[] 0 (.fresh 0 0 led) } } (.ref s.heap.objs.size) "set" := by exact ⟨_, hS, rfl⟩
      have li := PySem.F.called_set.init.lookup; have bi := PySem.F.called_set.init.bind (.ref s.heap.objs.size)
      repeat (any_goals (first | assumption | wp_step))
      refine codeAny_mono (codeAny_call_builtin (R := wants (fun r s2 => r = .none ∧ ∃ h' tk, s2 = { s with heap := h', toks := tk } ∧ SetI P w h' s.heap.objs.size (dd ns) ∧ (∀ b o, b < s.heap.objs.size → s.heap.get? b = some o → h'.get? b = some o)) E)
        PySem.F.called_set.init.plain PySem.F.entry_set_init (check_set_init_1 hT ?_)) fun r2 s2 hr2 => ?_
      · obtain ⟨ol, hol, hcl, nl, hdl⟩ := hl
        obtain ⟨ocls, odict, odata, oslots⟩ := ol
        simp only at hcl hdl
        subst hcl hdl
        have hol' : (s.heap.push { cls := .type "set", dict := none, data := .set #[] 0 (.fresh 0 0 led) }).get? l = some { cls := .type "list", dict := odict, data := .seq items nl, slots := oslots } := by exact Heap.get?_push_of_some _ hol
        have sls := PySem.F.sub_list_set; have slf := PySem.F.sub_list_frozenset
        have ne1 : (Value.type "list" == Value.type "dict") = false := by exact rfl
        have hl1 : (s.heap.push { cls := .type "set", dict := none, data := .set #[] 0 (.fresh 0 0 led) }).IsList l items := by exact ⟨_, hol', rfl, nl, rfl⟩
        unfold Builtin.«set.__init__» noKeywords Builtin.Frozenset.updateFrom
        generalize hPI : pyIter = PI
        wp_walk
        subst hPI
        refine wpAny_pyIter_list hl1 (wpAny_bind (wpAny_runValue ?_))
        have lS : l < s.heap.objs.size := by exact Heap.lt_size hol
        have h3 : A.in1.in1.in1.handled = none := by exact hh
        have szp : (s.heap.push { cls := .type "set", dict := none, data := .set #[] 0 (.fresh 0 0 led) }).objs.size = s.heap.objs.size + 1 := by exact Heap.size_push _ _
        have nI : l ≠ (s.heap.push { cls := .type "set", dict := none, data := .set #[] 0 (.fresh 0 0 led) }).objs.size := by rw [szp]; exact Nat.ne_of_lt (Nat.lt_succ_of_lt lS)
        have nS : s.heap.objs.size ∉ [(s.heap.push { cls := .type "set", dict := none, data := .set #[] 0 (.fresh 0 0 led) }).objs.size, l] := by
          rw [szp]
          intro z
          rcases List.mem_cons.mp z with z | z
          · exact absurd z (Nat.ne_of_lt (Nat.lt_succ_self _))
          · exact absurd (List.mem_singleton.mp z) (Nat.ne_of_gt lS)
        refine set_loop (ns := ns) ((Walks.list h3 _ l nI items).toS) hi s.heap.objs.size nS hb (items.size - 0) 0 _ (by omega) (Nat.zero_le _) ⟨⟨_, Heap.get?_push_size _ rfl, rfl, rfl⟩, (hl1.push _)⟩ ?s0 ?sR
        case s0 =>
          rw [List.take_zero]
          exact set_fresh hled (Heap.get?_push_of_some _ hS)
        case sR =>
          intro s' hm hS'
          obtain ⟨h', g', d', tk', os'⟩ := s'
          obtain rfl : g' = s.gens := hm.gens
          obtain rfl : d' = s.drawn := hm.drawn
          obtain rfl : os' = s.os := hm.os
          refine wpAny_pure (wpAny_pure ⟨rfl, h', tk', rfl, hS', fun b o hb e => ?_⟩)
          refine hm.heap b o (fun z => ?_) (Heap.get?_push_of_some _ (Heap.get?_push_of_some _ e))
          rcases List.mem_cons.mp z with z | z
          · exact absurd z (Nat.ne_of_lt hb)
          · have z := List.mem_singleton.mp z
            rw [szp] at z
            exact absurd z (Nat.ne_of_lt (Nat.lt_succ_of_lt hb))
      · cases r2 with
        | error e => exact hr2
        | ok fl2 =>
          cases fl2 with
          | ret r =>
            obtain ⟨rfl, h', tk, rfl, hS', hk'⟩ := hr2
            repeat (any_goals (first | assumption | wp_step))
            exact h _ _ hS' hk'
          | _ => exact hr2.elim
    | _ => exact hr.elim
end
end VS
end
noncomputable section
set_option linter.all false
set_option maxRecDepth 100000
namespace VS
open PySem PySem.Spec PyProof.Rows

/-! facts of the table -/
theorem slot_si_next : Slot "set_iterator" "__next__" "set_iterator.__next__" := by
  refine Slot.of (owner := "set_iterator") (n := "__next__") ?_ ?_ ?_ ?_ ?_ ?_
  · rw [typeLookup_type, builtinLookup_eq_fast]
    kernel_rfl
  · decide +kernel
  · decide +kernel
  · decide +kernel
  · first
      | exact .inl (by decide +kernel)
      | exact .inr (by decide +kernel)
  · rw [isSubtype_type]
    kernel_rfl
theorem entry_si_next : entryFor table "set_iterator.__next__" = some Builtin.«set_iterator.__next__» := by exact entryFor_of_tree (by kernel_rfl)
theorem args_si_next (a : Value) : argsOk "set_iterator.__next__" ⟨[a], []⟩ := by
  unfold argsOk
  kernel_rfl
theorem entry_s_iter : entryFor table "set.__iter__" = some Builtin.«frozenset.__iter__» := by
  exact entryFor_alias (id' := "frozenset.__iter__") (by kernel_rfl) rfl (by decide +kernel) (by kernel_rfl)

/-! the orders in which a set may be walked -/
theorem perm_eraseIdx {α : Type} : ∀ {l : List α} {i : Nat} {x : α}, l[i]? = some x → (x :: l.eraseIdx i).Perm l
  | [], i, x, h => by simp at h
  | a :: l, 0, x, h => by
    have e : a = x := Option.some.inj h
    subst e
    exact List.Perm.refl _
  | a :: l, i + 1, x, h => by
    have ih := perm_eraseIdx (l := l) (i := i) (x := x) h
    exact (List.Perm.swap a x _).trans (List.Perm.cons a ih)
theorem pick_go {α : Type} (next : Nat → Nat) : ∀ (fuel k : Nat) (left : List α) (out : Array α), left.length = fuel → (pickOrder.go next fuel k left out).toList.Perm (out.toList ++ left) := by
  intro fuel
  induction fuel with
  | zero =>
    intro k left out h
    have e : left = [] := List.length_eq_zero_iff.mp h
    subst e
    simp [pickOrder.go]
  | succ fuel ih =>
    intro k left out h
    unfold pickOrder.go
    have hlt : next k % left.length < left.length := Nat.mod_lt _ (by omega)
    have hx := List.getElem?_eq_getElem hlt
    rw [hx]
    dsimp only
    have hl : (left.eraseIdx (next k % left.length)).length = fuel := by
      rw [List.length_eraseIdx_of_lt hlt]
      omega
    refine (ih (k + 1) _ _ hl).trans ?_
    rw [Array.toList_push, List.append_assoc]
    exact List.Perm.append_left _ (perm_eraseIdx hx)
theorem pick_perm {α : Type} (next : Nat → Nat) (xs : Array α) : (pickOrder next xs).toList.Perm xs.toList := by
  unfold pickOrder
  have q := pick_go next xs.size 0 xs.toList #[] (by simp)
  simpa using q
section
variable {M : Model} {A : Around} {E : Value → Shared → Prop}
theorem wp_draw {src : Source} {n : Nat} {s : Shared} {Q : Nat → Shared → Prop} (hn : 0 < n) (h : ∀ i d, i < n → Q i { s with drawn := d }) : wpAny M A (choose src n) Q E s := by
  intro Γ p hΓ
  show Sem.wp M Γ (Sem.choose src n Sem.pure) _ _ p s
  rw [Sem.wp_choose]
  exact ⟨by omega, h _ _ (Nat.mod_lt _ hn)⟩
theorem wp_order {α : Type} : ∀ (n : Nat) (xs : List α) (s : Shared) (Q : List α → Shared → Prop), xs.length ≤ n → (∀ ys d, ys.Perm xs → Q ys { s with drawn := d }) → wpAny M A (drawOrder n xs) Q E s
  | 0, xs, s, Q, hl, h => by
    have e : xs = [] := List.length_eq_zero_iff.mp (by omega)
    subst e
    unfold drawOrder
    exact wpAny_pure (h [] s.drawn (List.Perm.refl _))
  | n + 1, [], s, Q, hl, h => by
    unfold drawOrder
    exact wpAny_pure (h [] s.drawn (List.Perm.refl _))
  | n + 1, x :: xs, s, Q, hl, h => by
    unfold drawOrder
    refine wpAny_bind (wp_draw (by simp) fun i d hi => ?_)
    have hx := List.getElem?_eq_getElem hi
    rw [hx]
    dsimp only
    have hlen : ((x :: xs).eraseIdx i).length ≤ n := by
      rw [List.length_eraseIdx_of_lt hi]
      simp at hl ⊢
      exact hl
    refine wpAny_bind (wp_order n _ _ _ hlen fun ys d2 hp => wpAny_pure (h _ d2 ?_))
    exact (List.Perm.cons _ hp).trans (perm_eraseIdx hx)
end
end VS
end
noncomputable section
set_option linter.all false
set_option maxRecDepth 100000
namespace VS
open PySem PySem.Spec PyProof.Rows

/-- a set's iterator -/
def IsSI (h : Heap) (it : Addr) (first : Value) (i : Nat) (a : Addr) (n ep : Nat) : Prop := h.get? it = some { cls := .type "set_iterator", data := .fields #[first, rawInt i, .ref a, rawInt n, rawInt ep] }
/-- how it goes: in the text's order, by drawn places, by the table's places -/
inductive Goes (w : World) (a : Addr) (es : Array (Int × Value)) (ep : Nat) (t : SetTable) (L : List (Int × Value)) (tp : Addr) : Heap → Nat → Value → Prop where
  | text {h : Heap} {i : Nat} : w.params.followText "set-order" = true → L = (pickOrder (w.params.setOrder a ep) es).toList → Goes w a es ep t L tp h i (rawInt 0)
  | drawn {h : Heap} {i : Nat} {pl : List Nat} : h.IsTuple tp (pl.map fun (k : Nat) => rawInt k).toArray → L.length = pl.length → (∀ (j k : Nat), pl[j]? = some k → L[j]? = es[k]?) → Goes w a es ep t L tp h i (.ref tp)
  | table {h : Heap} {i : Nat} {slot : Nat} : w.params.followText "set-order" = false → (!t.plain && decide (es.size > 1)) = false → SetTable.below t.place slot = i → L = es.toList → Goes w a es ep t L tp h i (rawInt slot)
section
variable {P : Program} {w : World} {A : Around} {E : Value → Shared → Prop} {s : Shared} {it a tp : Addr} {first : Value} {i ep : Nat} {o : Obj} {D : List Int} {es : Array (Int × Value)} {t : SetTable} {L : List (Int × Value)}

theorem si_put {h : Heap} (hit : IsSI h it first i a n ep) (x : Value) (j : Nat) : IsSI ((h.update it (Obj.mapFields (·.setIfInBounds 0 x))).update it (Obj.mapFields (·.setIfInBounds 1 (rawInt j)))) it x j a n ep := by
  have h1 : (h.update it (Obj.mapFields (·.setIfInBounds 0 x))).get? it = some { cls := .type "set_iterator", data := .fields #[x, rawInt i, .ref a, rawInt n, rawInt ep] } := Heap.get?_update_self _ hit rfl
  exact Heap.get?_update_self _ h1 rfl
theorem si_put1 {h : Heap} (hit : IsSI h it first i a n ep) (j : Nat) : IsSI (h.update it (Obj.mapFields (·.setIfInBounds 1 (rawInt j)))) it first j a n ep := Heap.get?_update_self _ hit rfl

/-- setNext, by the text's order or the table's places -/
theorem next_text {Q : Option (Value × Nat) → Shared → Prop} {slot : Nat} (ho : s.heap.get? a = some o) (O : SetO P w o D es ep t) (hb : w.params.followText "set-order" = true)
    (h : Q (((pickOrder (w.params.setOrder a ep) es)[i]?).map fun e => (e.2, slot)) s) : wpAny (model P w) A (setNext a slot i ep) Q E s := by
  unfold setNext
  refine wpAny_bind (wpAny_setState_of ho O.dat O.fits ?_)
  dsimp only
  unfold setsByText
  refine wpAny_bind (wpAny_bind (wpAny_askSetting (wpAny_pure ?_)))
  dsimp only [model]
  rw [if_pos hb, if_neg (by simp)]
  refine wpAny_bind ?_
  unfold setWalk
  refine wpAny_bind (wpAny_setState_of ho O.dat O.fits ?_)
  dsimp only
  unfold setsByText
  refine wpAny_bind (wpAny_bind (wpAny_askSetting (wpAny_pure ?_)))
  dsimp only [model]
  rw [if_pos hb]
  exact wpAny_bind (wpAny_askSetting (wpAny_pure (wpAny_pure h)))
theorem next_table {Q : Option (Value × Nat) → Shared → Prop} {slot : Nat} (ho : s.heap.get? a = some o) (O : SetO P w o D es ep t) (hb : w.params.followText "set-order" = false) (hd : (!t.plain && decide (es.size > 1)) = false) (hs : SetTable.below t.place slot = i)
    (h : Q (match es[i]?, t.place[i]? with | some (_, x), some j => some (x, j + 1) | _, _ => none) s) : wpAny (model P w) A (setNext a slot i ep) Q E s := by
  unfold setNext
  refine wpAny_bind (wpAny_setState_of ho O.dat O.fits ?_)
  dsimp only
  unfold setsByText
  refine wpAny_bind (wpAny_bind (wpAny_askSetting (wpAny_pure ?_)))
  dsimp only [model]
  rw [if_neg (by rw [hb]; exact Bool.false_ne_true)]
  change wpAny _ _ (if (!t.plain && decide (es.size > 1)) = true then _ else _) _ _ _
  rw [if_neg (by rw [hd]; exact Bool.false_ne_true)]
  refine wpAny_bind ?_
  change wpAny _ _ (if (!t.led && !es.isEmpty) = true then _ else _) _ _ _
  rw [if_neg (by rw [O.led hb]; exact Bool.false_ne_true)]
  refine wpAny_pure (wpAny_pure ?_)
  rw [hs]
  exact h

theorem si_item {e : Int × Value} {Q : Option Value → Shared → Prop} (hit : IsSI s.heap it first i a es.size ep) (ho : s.heap.get? a = some o) (O : SetO P w o D es ep t) (g : Goes w a es ep t L tp s.heap i first) (he : L[i]? = some e) (nt : tp ≠ it)
    (hQ : ∀ h' first', IsSI h' it first' (i + 1) a es.size ep → Goes w a es ep t L tp h' (i + 1) first' → Heap.SameBut it s.heap h' → Q (some e.2) { s with heap := h' }) : wpAny (model P w) A (pyNext (.ref it)) Q E s := by
  have hT : s.TypeIs (.ref it) "set_iterator" := ⟨_, hit, rfl⟩
  unfold pyNext
  refine wpAny_bind (wpAny_attempt (wpAny_callSpecial?_slot (name := Str.ofString "__next__") hT slot_si_next (wpAny_call_entry slot_si_next hT entry_si_next ?_ (args_si_next _))))
  unfold Builtin.«set_iterator.__next__»
  refine wpAny_bind (m := slotArgs "__next__" 0 _) (wpAny_pure ?_)
  refine wpAny_bind (wpAny_fieldsOf hit rfl ?_)
  dsimp only
  refine wpAny_bind (wpAny_setEntries_of ho O.dat O.fits ?_)
  rw [if_neg (by simp)]
  have fin : ∀ (x : Nat), Goes w a es ep t L tp ((s.heap.update it (Obj.mapFields (·.setIfInBounds 0 (rawInt x)))).update it (Obj.mapFields (·.setIfInBounds 1 (rawInt (i + 1 : Nat))))) (i + 1) (rawInt x) →
      wpAny (model P w) A.in1 (do setField (.ref it) 0 (rawInt x); setField (.ref it) 1 (rawInt ((i : Int) + 1)); ret e.2) (fun fin s' => ∃ v, fin = Fin.done (Flow.ret v) ∧ wpAny (model P w) A (pure (some v)) Q E s') (fun e s' => wpAny (model P w) A (do if ← isInstance e (.type "StopIteration") then pure none else throw e) Q E s') s := by
    intro x hg
    refine wpAny_bind (wpAny_setField hit rfl (by show 0 < 5; decide) ?_)
    have h1 : (s.heap.update it (Obj.mapFields (·.setIfInBounds 0 (rawInt x)))).get? it = some { cls := .type "set_iterator", data := .fields #[rawInt x, rawInt i, .ref a, rawInt es.size, rawInt ep] } := Heap.get?_update_self _ hit rfl
    refine wpAny_bind (wpAny_setField h1 rfl (by show 1 < 5; decide) ?_)
    exact wpAny_pure ⟨_, rfl, wpAny_pure (hQ _ _ (si_put hit (rawInt x) (i + 1)) hg ((Heap.SameBut.update ..).trans (Heap.SameBut.update ..)))⟩
  cases g with
  | text hb hL =>
    dsimp only [rawInt]
    refine wpAny_bind (next_text (i := i) ho O hb ?_)
    have e1 : (pickOrder (w.params.setOrder a ep) es)[i]? = some e := by rw [← Array.getElem?_toList, ← hL]; exact he
    rw [show ((ep : Int)).toNat = ep from rfl, e1]
    exact fin 0 (.text hb hL)
  | drawn ht hl hp =>
    rename_i pl
    dsimp only
    obtain ⟨ot, hot, hct, nt', hdt⟩ := id ht
    have hi : i < L.length := (List.getElem?_eq_some_iff.mp he).1
    have hk : pl[i]? = some pl[i] := List.getElem?_eq_getElem (by omega)
    have hL : es[pl[i]]? = some e := by rw [← hp i _ hk]; exact he
    refine wpAny_bind (m := seqItems? _) (wpAny_seqItems hot hdt ?_)
    dsimp only
    have e3 : ((pl.map fun (k : Nat) => rawInt k).toArray)[((i : Int)).toNat]? = some (rawInt pl[i]) := by
      rw [show ((i : Int)).toNat = i from rfl]
      simp [hk]
    rw [e3]
    dsimp only [rawInt]
    refine wpAny_bind (m := setNextDrawn _ _ _) ?_
    unfold setNextDrawn
    refine wpAny_bind (wpAny_setState_of ho O.dat O.fits ?_)
    dsimp only
    rw [if_neg (by simp), show ((pl[i] : Nat) : Int).toNat = pl[i] from rfl, hL]
    dsimp only
    refine wpAny_pure (wpAny_bind (wpAny_setField hit rfl (by show 1 < 5; decide) (wpAny_pure ⟨_, rfl, wpAny_pure (hQ _ _ (si_put1 hit (i + 1)) (.drawn ?_ hl hp) (Heap.SameBut.update ..))⟩)))
    exact ⟨ot, (Heap.get?_update_other _ _ (Ne.symm nt)).trans hot, hct, nt', hdt⟩
  | table hb hd hs hL =>
    rename_i slot
    dsimp only [rawInt]
    refine wpAny_bind (next_table (i := i) ho O hb hd hs ?_)
    have e1 : es[i]? = some e := by rw [← Array.getElem?_toList, ← hL]; exact he
    have hi : i < es.size := (Array.getElem?_eq_some_iff.mp e1).1
    have hpz : t.place.size = es.size := by
      have q := O.fits
      simp only [SetTable.fits, Bool.and_eq_true, beq_iff_eq] at q
      exact q.1
    have e2 : t.place[i]? = some (t.place[i]'(by omega)) := Array.getElem?_eq_getElem (by omega)
    rw [e1, e2]
    exact fin _ (.table hb hd (below_next O.ris e2) hL)
end
end VS
end
noncomputable section
set_option linter.all false
set_option maxRecDepth 100000
namespace VS
open PySem PySem.Spec PyProof.Rows
section
variable {P : Program} {w : World} {A : Around} {E : Value → Shared → Prop} {s : Shared} {it a tp : Addr} {first : Value} {i ep : Nat} {o : Obj} {D : List Int} {es : Array (Int × Value)} {t : SetTable} {L : List (Int × Value)}

/-- StopIteration is raised and taken -/
theorem stop_taken {h1 : Heap} {Q : Option Value → Shared → Prop} {R : Fin → Shared → Prop} (hh : A.handled = none) (he : Heap.ExtBut it s.heap h1) (hQ : ∀ h', Heap.ExtBut it s.heap h' → Q none { s with heap := h' }) :
    wpAny (model P w) A.in1 (do raiseNew (← newExc (.type "StopIteration") [])) R (fun e s' => wpAny (model P w) A (do if ← isInstance e (.type "StopIteration") then pure none else throw e) Q E s') { s with heap := h1 } := by
  refine wpAny_bind ?_
  simp only [newExc, newTuple]
  refine wpAny_bind (wpAny_newObj_type ?_ (by size_fits))
  refine wpAny_bind (m := firstArgMember _ _) (wpAny_of_eq (a := Value.none) (by first | rfl | (simp only [firstArgMember]; rfl)) ?_)
  refine wpAny_newObj_type ?_ (by size_fits)
  simp only [raiseNew]
  refine wpAny_bind (wpAny_handled ?_)
  first
    | rw [show A.in1.handled = none from hh]
    | rw [hh]
  refine wpAny_bind (wpAny_pure (wpAny_throw ?_))
  refine wpAny_bind (wpAny_isInstance (T := "StopIteration") (b := true) ⟨_, Heap.get?_push_size _ rfl, rfl⟩ isSubtype_stop ?_)
  exact wpAny_pure (hQ _ ((he.push _).push _))

theorem si_done {Q : Option Value → Shared → Prop} (hh : A.handled = none) (hit : IsSI s.heap it first i a es.size ep) (ho : s.heap.get? a = some o) (O : SetO P w o D es ep t) (g : Goes w a es ep t L tp s.heap i first) (hl : L.length = es.size) (hi : i = es.size)
    (hQ : ∀ h', Heap.ExtBut it s.heap h' → Q none { s with heap := h' }) : wpAny (model P w) A (pyNext (.ref it)) Q E s := by
  subst hi
  have hT : s.TypeIs (.ref it) "set_iterator" := ⟨_, hit, rfl⟩
  unfold pyNext
  refine wpAny_bind (wpAny_attempt (wpAny_callSpecial?_slot (name := Str.ofString "__next__") hT slot_si_next (wpAny_call_entry slot_si_next hT entry_si_next ?_ (args_si_next _))))
  unfold Builtin.«set_iterator.__next__»
  refine wpAny_bind (m := slotArgs "__next__" 0 _) (wpAny_pure ?_)
  refine wpAny_bind (wpAny_fieldsOf hit rfl ?_)
  dsimp only
  refine wpAny_bind (wpAny_setEntries_of ho O.dat O.fits ?_)
  rw [if_neg (by simp)]
  have ext1 : ∀ f, Heap.ExtBut it s.heap (s.heap.update it f) := fun f => (Heap.SameBut.update s.heap it f).extBut
  have two : ∀ f g, Heap.ExtBut it s.heap ((s.heap.update it f).update it g) := fun f g => ((Heap.SameBut.update s.heap it f).trans (Heap.SameBut.update _ it g)).extBut
  cases g with
  | text hb hL =>
    dsimp only [rawInt]
    refine wpAny_bind (next_text (i := es.size) ho O hb ?_)
    have e1 : (pickOrder (w.params.setOrder a ep) es)[es.size]? = none := by
      rw [← Array.getElem?_toList, ← hL]
      exact List.getElem?_eq_none (by omega)
    rw [show ((ep : Int)).toNat = ep from rfl, e1]
    dsimp only [Option.map]
    exact wpAny_bind (wpAny_setField hit rfl (by show 2 < 5; decide) (stop_taken (s := s) (it := it) hh (ext1 _) hQ))
  | drawn ht hl' hp =>
    rename_i pl
    dsimp only
    obtain ⟨ot, hot, hct, nt', hdt⟩ := id ht
    refine wpAny_bind (m := seqItems? _) (wpAny_seqItems hot hdt ?_)
    dsimp only
    have e3 : ((pl.map fun (k : Nat) => rawInt k).toArray)[((es.size : Int)).toNat]? = none := by
      rw [show ((es.size : Int)).toNat = es.size from rfl]
      simp
      omega
    rw [e3]
    dsimp only
    have h1 : (s.heap.update it (Obj.mapFields (·.setIfInBounds 0 (rawInt 0)))).get? it = some { cls := .type "set_iterator", data := .fields #[rawInt 0, rawInt es.size, .ref a, rawInt es.size, rawInt ep] } := Heap.get?_update_self _ hit rfl
    exact wpAny_bind (wpAny_setField hit rfl (by show 0 < 5; decide) (wpAny_bind (wpAny_setField h1 rfl (by show 2 < 5; decide) (stop_taken (s := s) (it := it) hh (two _ _) hQ))))
  | table hb hd hs hL =>
    dsimp only [rawInt]
    refine wpAny_bind (next_table (i := es.size) ho O hb hd hs ?_)
    have e1 : es[es.size]? = none := by simp
    rw [e1]
    dsimp only
    exact wpAny_bind (wpAny_setField hit rfl (by show 2 < 5; decide) (stop_taken (s := s) (it := it) hh (ext1 _) hQ))

theorem set_iter {Q : Value → Shared → Prop} (ho : s.heap.get? a = some o) (O : SetO P w o D es ep t)
    (hQ : ∀ (it tp : Addr) (first : Value) (L : List (Int × Value)) (h' : Heap) (d : Drawn), L.Perm es.toList → (∀ b u, s.heap.get? b = some u → h'.get? b = some u) → s.heap.objs.size ≤ it → s.heap.objs.size ≤ tp → tp ≠ it → it < h'.objs.size → IsSI h' it first 0 a es.size ep → Goes w a es ep t L tp h' 0 first →
      Q (.ref it) { s with heap := h', drawn := d }) : wpAny (model P w) A (pyIter (.ref a)) Q E s := by
  have hT : s.TypeIs (.ref a) "set" := ⟨o, ho, O.ex.1⟩
  refine wpAny_pyIter_slot hT PySem.F.slot_set_iter (wpAny_call_entry PySem.F.slot_set_iter hT entry_s_iter ?_ (PySem.F.args_set_iter_1 _))
  unfold Builtin.«frozenset.__iter__» Builtin.Frozenset.slot0 slotArgs
  simp only [List.isEmpty_nil, Bool.not_true, Bool.false_eq_true, ↓reduceIte, bind_assoc, List.length_nil, bne_self_eq_false]
  unfold Builtin.Frozenset.addrOf Builtin.Frozenset.sizeOf
  refine wpAny_bind (wpAny_pure ?_)
  try dsimp only
  refine wpAny_bind (wpAny_pure ?_)
  refine wpAny_bind (wpAny_bind (wpAny_setEntries_of ho O.dat O.fits (wpAny_pure ?_)))
  refine wpAny_bind ?_
  unfold setDrawn
  refine wpAny_bind (wpAny_setState_of ho O.dat O.fits ?_)
  dsimp only
  unfold setsByText
  refine wpAny_bind (wpAny_bind (wpAny_askSetting (wpAny_pure ?_)))
  refine wpAny_pure ?_
  dsimp only [model]
  change wpAny (model P w) A.in1 (if (!w.params.followText "set-order" && (!t.plain && decide (es.size > 1))) = true then _ else _) _ E s
  by_cases hc : (!w.params.followText "set-order" && (!t.plain && decide (es.size > 1))) = true
  · rw [if_pos hc]
    refine wpAny_bind (wp_order es.size (List.range es.size) s _ (by simp) fun pl d hp => ?_)
    have few := O.few
    have hlen : pl.length = es.size := by rw [hp.length_eq]; simp
    simp only [newTuple]
    refine wpAny_bind (wpAny_newObj_type ?_ (by show (List.map (fun (i : Nat) => rawInt i) pl).toArray.size ≤ sizeLine; rw [List.size_toArray, List.length_map, hlen]; exact fits_of_scanBound few))
    have ho1 := Heap.get?_push_of_some (h := s.heap) { cls := .type "tuple", data := .seq (pl.map fun (i : Nat) => rawInt i).toArray } ho
    refine wpAny_bind (wpAny_setEpoch_of (s := { s with heap := s.heap.push { cls := .type "tuple", data := .seq (pl.map fun (i : Nat) => rawInt i).toArray }, drawn := d }) ho1 O.dat O.fits ?_)
    simp only [newFields]
    refine wpAny_bind (wpAny_newObj_type (wpAny_pure ⟨_, rfl, "set_iterator", _, ⟨_, Heap.get?_push_size _ rfl, rfl⟩, slot_si_next.lookup, ?_⟩) (by size_fits))
    have hL : ∀ (j k : Nat), pl[j]? = some k → (pl.filterMap fun k => es[k]?)[j]? = es[k]? := by
      have all : ∀ k ∈ pl, k < es.size := fun k hk => List.mem_range.mp (hp.mem_iff.mp hk)
      clear hp hlen ho1
      induction pl with
      | nil => intro j k hj; simp at hj
      | cons x pl ih =>
        intro j k hj
        have hx : x < es.size := all x (by simp)
        rw [List.filterMap_cons_some (b := es[x]) (Array.getElem?_eq_getElem hx)]
        cases j with
        | zero =>
          have e : x = k := Option.some.inj hj
          subst e
          simp [hx]
        | succ j => exact ih (fun k hk => all k (List.mem_cons_of_mem _ hk)) j k hj
    refine hQ _ s.heap.objs.size (.ref s.heap.objs.size) (pl.filterMap fun k => es[k]?) _ d ?_ (fun b u e => Heap.get?_push_of_some _ (Heap.get?_push_of_some _ e)) ?_ (Nat.le_refl _) ?_ ?_ ?_ ?_
    · have q := hp.filterMap (fun k => es[k]?)
      rw [filterMap_getElem?_range] at q
      exact q
    · rw [Heap.size_push]
      exact Nat.le_succ _
    · rw [Heap.size_push]
      exact Nat.ne_of_lt (Nat.lt_succ_self _)
    · simp only [Heap.size_push]
      exact Nat.lt_succ_self _
    · exact Heap.get?_push_size _ rfl
    · refine .drawn (pl := pl) ⟨_, Heap.get?_push_of_some _ (Heap.get?_push_size _ rfl), rfl, _, rfl⟩ ?_ hL
      have q := (hp.filterMap (fun k => es[k]?)).length_eq
      rw [filterMap_getElem?_range] at q
      rw [q, Array.length_toList, hlen]
  · rw [if_neg hc]
    refine wpAny_bind (wpAny_pure (wpAny_bind (wpAny_setEpoch_of ho O.dat O.fits ?_)))
    simp only [newFields]
    refine wpAny_bind (wpAny_newObj_type (wpAny_pure ⟨_, rfl, "set_iterator", _, ⟨_, Heap.get?_push_size _ rfl, rfl⟩, slot_si_next.lookup, ?_⟩) (by size_fits))
    have fin : ∀ L : List (Int × Value), L.Perm es.toList → (∀ h', Goes w a es ep t L (s.heap.objs.size + 1) h' 0 (rawInt 0)) → Q (.ref s.heap.objs.size) { s with heap := s.heap.push { cls := .type "set_iterator", data := .fields [rawInt 0, rawInt 0, Value.ref a, rawInt es.size, rawInt ep].toArray } } := fun L hp hg =>
      hQ _ (s.heap.objs.size + 1) _ L _ s.drawn hp (fun b u e => Heap.get?_push_of_some _ e) (Nat.le_refl _) (Nat.le_succ _) (Nat.ne_of_gt (Nat.lt_succ_self _)) (by rw [Heap.size_push]; exact Nat.lt_succ_self _) (Heap.get?_push_size _ rfl) (hg _)
    cases hb : w.params.followText "set-order" with
    | true => exact fin _ (pick_perm _ es) fun h' => .text hb rfl
    | false =>
      refine fin _ (List.Perm.refl _) fun h' => ?_
      rw [hb] at hc
      exact .table (slot := 0) hb (by cases hq : (!t.plain && decide (es.size > 1)) with | false => rfl | true => exact absurd (by rw [hq]; rfl) hc) (below_zero O.ris) rfl
end
end VS
end
noncomputable section
set_option linter.all false
set_option maxRecDepth 100000
namespace VS
open PySem PySem.Spec PyProof.Rows
theorem slot_si_iter : Slot "set_iterator" "__iter__" "set_iterator.__iter__" := by
  refine Slot.of (owner := "set_iterator") (n := "__iter__") ?_ ?_ ?_ ?_ ?_ ?_
  · rw [typeLookup_type, builtinLookup_eq_fast]
    kernel_rfl
  · decide +kernel
  · decide +kernel
  · decide +kernel
  · first
      | exact .inl (by decide +kernel)
      | exact .inr (by decide +kernel)
  · rw [isSubtype_type]
    kernel_rfl
theorem entry_si_iter : entryFor table "set_iterator.__iter__" = some Builtin.«dict_keyiterator.__iter__» := by
  exact entryFor_alias (id' := "dict_keyiterator.__iter__") (by kernel_rfl) rfl (by decide +kernel) (by kernel_rfl)
theorem args_si_iter (a : Value) : argsOk "set_iterator.__iter__" ⟨[a], []⟩ := by
  unfold argsOk
  kernel_rfl
section
variable {P : Program} {w : World} {A : Around} {E : Value → Shared → Prop} {s : Shared} {it a tp : Addr} {i ep : Nat} {o : Obj} {D : List Int} {es : Array (Int × Value)} {t : SetTable} {L : List (Int × Value)}

theorem set_walks (hh : A.handled = none) (O : SetO P w o D es ep t) (hp : L.Perm es.toList) (nt : tp ≠ it) (na : a ≠ it) :
    Walks P w A it [it, a, tp] [it] es.size (fun i v => ∃ e, L[i]? = some e ∧ v = e.2) (fun i h => ∃ first, IsSI h it first i a es.size ep ∧ h.get? a = some o ∧ Goes w a es ep t L tp h i first) where
  sub := fun b hb => by
    have e : b = it := by simpa using hb
    simp [e]
  frame := fun i h h' ⟨first, h1, h2, g⟩ k => by
    refine ⟨first, k it (by simp) _ h1, k a (by simp) _ h2, ?_⟩
    cases g with
    | text hb hL => exact .text hb hL
    | drawn ht hl hp => exact .drawn (let ⟨ot, e1, e2⟩ := ht; ⟨ot, k tp (by simp) _ e1, e2⟩) hl hp
    | table hb hd hs hL => exact .table hb hd hs hL
  item := fun i s Q E hi ⟨first, h1, h2, g⟩ hQ => by
    have hl : L.length = es.size := by rw [hp.length_eq, Array.length_toList]
    obtain ⟨e, he⟩ : ∃ e, L[i]? = some e := ⟨_, List.getElem?_eq_getElem (by omega)⟩
    refine si_item h1 h2 O g he nt fun h' first' q1 q2 sb => ?_
    exact hQ e.2 h' s.toks ⟨e, he, rfl⟩ ⟨first', q1, (sb.2 a na).trans h2, q2⟩ fun b u hb q => (sb.2 b (by simpa using hb)).trans q
  done := fun s Q E ⟨first, h1, h2, g⟩ hQ => by
    have hl : L.length = es.size := by rw [hp.length_eq, Array.length_toList]
    exact si_done hh h1 h2 O g hl rfl fun h' q => hQ h' s.toks fun b u hb z => q b u (by simpa using hb) z
  self := fun i s Q E ⟨first, h1, h2, g⟩ hQ => by
    have hT : s.TypeIs (.ref it) "set_iterator" := ⟨_, h1, rfl⟩
    refine wpAny_pyIter_slot hT slot_si_iter (wpAny_call_entry slot_si_iter hT entry_si_iter ?_ (args_si_iter _))
    change wpAny _ _ (ret (.ref it)) _ _ s
    exact wpAny_pure ⟨_, rfl, "set_iterator", _, hT, slot_si_next.lookup, hQ⟩

theorem set_hint (hT : s.TypeIs (.ref a) "set") {Q : Bool → Shared → Prop} (h : Q false s) : wpAny (model P w) A (Builtin.List.listLengthHint (.ref a)) Q E s := by
  unfold Builtin.List.listLengthHint
  refine wpAny_bind (wpAny_specialOf hT PySem.F.slot_set_len.lookup ?_)
  generalize hid : ("set.__len__" : String) = id0
  wp_delta
  rw [show splitId id0 = some ("set", "__len__") from by subst hid; decide +kernel]
  subst hid
  refine wpAny_bind (wpAny_isInstance (T := "set") (b := true) hT (by rw [isSubtype_type]; kernel_rfl) ?_)
  refine wpAny_ite_split (fun z => absurd z (by decide)) (fun _ => ?_)
  refine wpAny_ite_split (fun _ => ?_) (fun z => absurd (by decide +kernel) z)
  exact wpAny_bind (wpAny_typeOf hT (wpAny_pure h))

/-- the items of a set, taken into a list -/
theorem set_collect {R : List Value → Shared → Prop} (hh : A.handled = none) (ho : s.heap.get? a = some o) (O : SetO P w o D es ep t)
    (h : ∀ (h' : Heap) (tk : Nat) (d : Drawn) (vs : List Value) (ns : List Int), (∀ b u, s.heap.get? b = some u → h'.get? b = some u) → s.heap.objs.size < h'.objs.size → IntsAre vs ns → ns.Perm D → R vs { s with heap := h', toks := tk, drawn := d }) :
    wpAny (model P w) A (collect (.ref a)) R E s := by
  have ha : a < s.heap.objs.size := Heap.lt_size ho
  unfold collect
  refine wpAny_bind (wpAny_runValue (codeAny_builtin entry_proto_collect' ?_))
  rw [Around.under_plainId PySem.F.plain_proto_collect _]
  change wpAny _ A.in1 (newList [] >>= fun l => again (.builtin "list.__iadd__" ⟨[l, .ref a], []⟩)) _ _ s
  refine wpAny_bind (wpAny_newObj_type (wpAny_pure ⟨plainId_quiet PySem.F.plain_list_iadd _, codeAny_builtin entry_list_iadd' ?_⟩))
  rw [Around.under_plainId PySem.F.plain_list_iadd _]
  change wpAny _ A.in1 (Builtin.List.listExtendWith (.ref s.heap.objs.size) (.ref a) (.ref s.heap.objs.size)) _ _ _
  generalize hS0 : s.heap.objs.size = S at *
  have oS : (s.heap.push { cls := .type "list", data := .seq ([] : List Value).toArray }).get? S = some { cls := .type "list", data := .seq #[] } := by rw [← hS0]; exact Heap.get?_push_size _ rfl
  have oa := Heap.get?_push_of_some (h := s.heap) { cls := .type "list", data := .seq ([] : List Value).toArray } ho
  have hT : Shared.TypeIs { s with heap := s.heap.push { cls := .type "list", data := .seq ([] : List Value).toArray } } (.ref a) "set" := ⟨o, oa, O.ex.1⟩
  unfold Builtin.List.listExtendWith
  refine wpAny_bind (wpAny_typeOf hT ?_)
  have n1 : Builtin.List.listSameRef (.ref S) (.ref a) = false := by
    have : S ≠ a := fun z => absurd ha (by rw [z]; exact Nat.lt_irrefl _)
    simp [Builtin.List.listSameRef, this]
  have n2 : (Value.type "set" == Value.type "list") = false := rfl
  have n3 : (Value.type "set" == Value.type "tuple") = false := rfl
  simp only [n1, n2, n3, Bool.or_false, Bool.false_eq_true, if_false]
  refine wpAny_bind (set_iter oa O fun it tp first L h' d hp kp hle hlt' hnt hlt hit hg => ?_)
  have hSit : S < it := by
    have q := hle
    simp only [Heap.size_push] at q
    rw [hS0] at q
    exact q
  have hStp : S < tp := by
    have q := hlt'
    simp only [Heap.size_push] at q
    rw [hS0] at q
    exact q
  have hSa : a < S := ha
  have oa' := kp a o oa
  refine wpAny_bind (wpAny_holding (set_hint ⟨o, oa', O.ex.1⟩ ?_))
  have oS' := kp S _ oS
  have hna : a ≠ it := Nat.ne_of_lt (Nat.lt_trans hSa hSit)
  have Wk := (set_walks (A := A.in1) (it := it) (a := a) hh O hp hnt hna).toS
  have hSf : S ∉ [it, a, tp] := by
    intro z
    rcases List.mem_cons.mp z with z | z
    · exact absurd z (Nat.ne_of_lt hSit)
    · rcases List.mem_cons.mp z with z | z
      · exact absurd z (Nat.ne_of_gt hSa)
      · exact absurd (List.mem_singleton.mp z) (Nat.ne_of_lt hStp)
  have hn : es.size ≤ sizeLine := fits_of_scanBound O.few
  have key : ∀ (h1 : Heap) (c1 : Nat), (∀ b u, b ≠ S → h'.get? b = some u → h1.get? b = some u) → h1.get? S = some { cls := .type "list", data := .seq #[] c1 } →
      codeAny (model P w) A (.builtin "list.extend.loop" ⟨[.ref S, .ref it, .ref S], []⟩)
        (fun q s' => ∃ (h2 : Heap) (tk : Nat) (acc : Array Value) (c : Nat) (ns : List Int), q = .ok (.ret (.ref S)) ∧ s' = { s with heap := h2, toks := tk, drawn := d } ∧ (∀ b u, s.heap.get? b = some u → h2.get? b = some u) ∧
          h2.get? S = some { cls := .type "list", dict := none, data := .seq acc c, slots := #[] } ∧ IntsAre acc.toList ns ∧ ns.Perm D) { s with heap := h1, drawn := d } := by
    intro h1 c1 kp1 oS1
    have hg1 : Goes w a es ep t L tp h1 0 first := by
      cases hg with
      | text hb hL => exact .text hb hL
      | drawn ht hl hq => exact .drawn (let ⟨ot, e1, e2⟩ := ht; ⟨ot, kp1 tp _ (Nat.ne_of_gt hStp) e1, e2⟩) hl hq
      | table hb hd hs hL => exact .table hb hd hs hL
    refine codeAny_extend_loopS Wk hn S hSf (.ref S) es.size 0 { s with heap := h1, drawn := d } #[] c1 rfl (Nat.zero_le _) ⟨first, kp1 it _ (Nat.ne_of_gt hSit) hit, kp1 a _ (Nat.ne_of_lt hSa) oa', hg1⟩ oS1 (ItemsOf.nil _) fun s' acc c hm hS' hit' => ?_
    obtain ⟨h2, g2, d2, tk2, os2⟩ := s'
    obtain rfl : g2 = s.gens := hm.gens
    obtain rfl : d2 = d := hm.drawn
    obtain rfl : os2 = s.os := hm.os
    refine ⟨h2, tk2, acc, c, L.map keyI, rfl, rfl, fun b u e => ?_, hS', ?_, (hp.map keyI).trans O.perm⟩
    · have hb : b < S := by rw [← hS0]; exact Heap.lt_size e
      refine hm.heap b u (fun z => ?_) (kp1 b u (Nat.ne_of_lt hb) (kp b u (Heap.get?_push_of_some _ e)))
      rcases List.mem_cons.mp z with z | z
      · exact absurd z (Nat.ne_of_lt hb)
      · exact absurd (List.mem_singleton.mp z) (Nat.ne_of_lt (Nat.lt_trans hb hSit))
    · have hl : L.length = es.size := by rw [hp.length_eq, Array.length_toList]
      obtain ⟨z1, z2⟩ := hit'
      have elL : ElemsOf (PySem.intKind P w) L := O.el.perm hp
      have aux : ∀ (L : List (Int × Value)) (vs : List Value), ElemsOf (PySem.intKind P w) L → vs.length = L.length → (∀ (j : Nat) (v : Value), vs[j]? = some v → ∃ e, L[j]? = some e ∧ v = e.2) → IntsAre vs (L.map keyI) := by
        intro L
        induction L with
        | nil =>
          intro vs _ hl _
          have e : vs = [] := List.length_eq_zero_iff.mp hl
          subst e
          exact .nil
        | cons x L ih =>
          intro vs hel hl hv
          cases vs with
          | nil => simp at hl
          | cons v vs =>
            obtain ⟨e, he, rfl⟩ := hv 0 v rfl
            have e1 : x = e := Option.some.inj he
            subst e1
            have hx := is_keyI hel (e := x) (by simp)
            obtain ⟨tk, q⟩ := Value.isInt_shape (show Value.isInt (keyI x) x.2 = true from hx)
            rw [q, List.map_cons]
            exact .cons _ _ (ih vs hel.tail (by simpa using hl) fun j v hj => hv (j + 1) v hj)
      exact aux L acc.toList elL (by rw [Array.length_toList, z1, hl]) fun j v hj => z2 j v (by rw [← Array.getElem?_toList]; exact hj)
  refine wpAny_ite_split (fun _ => ?_) (fun _ => ?_)
  · refine wpAny_bind (wpAny_rule (wpAny_bind ?_))
    change wpAny _ _ (updateSeq S (·.push .none) >>= fun _ => updateSeq S (·.pop)) _ _ _
    refine wpAny_bind (wpAny_updateSeq oS' rfl ?_)
    have o2 := Heap.get?_update_self (Obj.mapSeq (·.push Value.none)) oS' rfl
    refine wpAny_updateSeq (hz := by seq_fits) o2 rfl ?_
    have o3 := Heap.get?_update_self (Obj.mapSeq (·.pop)) o2 rfl
    refine wpAny_pure ⟨plainId_quiet PySem.F.plain_extend_loop _, codeAny_mono (key _ _ (fun b u hb e => ?_) o3) fun q s' z => ?_⟩
    · exact (Heap.get?_update_other _ _ (Ne.symm hb)).trans ((Heap.get?_update_other _ _ (Ne.symm hb)).trans e)
    · obtain ⟨h2, tk, acc, c, ns, rfl, rfl, k1, k2, k3, k4⟩ := z
      dsimp only
      exact wpAny_bind (wpAny_load k2 (wpAny_pure (h h2 tk d acc.toList ns k1 (Heap.lt_size k2) k3 k4)))
  · refine wpAny_pure ⟨plainId_quiet PySem.F.plain_extend_loop _, codeAny_mono (key _ _ (fun b u hb e => e) oS') fun q s' z => ?_⟩
    obtain ⟨h2, tk, acc, c, ns, rfl, rfl, k1, k2, k3, k4⟩ := z
    dsimp only
    exact wpAny_bind (wpAny_load k2 (wpAny_pure (h h2 tk d acc.toList ns k1 (Heap.lt_size k2) k3 k4)))

/-- sorted(x) of a set x of ints -/
theorem sorted_set {Q : Value → Shared → Prop} (hh : A.handled = none) (ho : s.heap.get? a = some o) (O : SetO P w o D es ep t) (h64 : D.length < 64)
    (h : ∀ (h' : Heap) (tk : Nat) (d : Drawn) (l : Addr) (out : List Value) (n : Nat) (ns : List Int), (∀ b u, s.heap.get? b = some u → h'.get? b = some u) → s.heap.objs.size ≤ l → h'.get? l = some { cls := .type "list", data := .seq out.toArray n } → IntsAre out ns → ns.Perm D → ns.Pairwise (· ≤ ·) →
      Q (.ref l) { s with heap := h', toks := tk, drawn := d }) : wpAny (model P w) A (call (.builtin "sorted") [.ref a]) Q E s := by
  refine Calls.call_function_entry kind_sorted plain_sorted entry_sorted (args_sorted1 _) ?_
  unfold Builtin.«sorted»
  refine wpAny_bind (m := checkCount "sorted" 1 1 _) (wpAny_pure (wpAny_bind (set_collect (by exact hh) ho O fun h' tk d vs ns k hsz hi hp => ?_)))
  have hlen : vs.length < 64 := by rw [hi.length, hp.length_eq]; exact h64
  refine wpAny_bind (wpAny_newList ?_ (by rw [sizeLine_eq]; omega))
  have oL : (h'.push (seqObj "list" vs.toArray 0)).get? h'.objs.size = some (seqObj "list" vs.toArray 0) := Heap.get?_push_size _ rfl
  refine wpAny_bind (wpAny_holding (wpAny_call_entry slot_list_sort ⟨_, oL, rfl⟩ entry_list_sort (list_sort_tree oL hi hlen fun out ns' a1 a2 a3 => ⟨_, rfl, ?_⟩) (args_list_sort _)))
  refine wpAny_pure ⟨_, rfl, ?_⟩
  have q3 : ∃ n, (sortedHeap (h'.push (seqObj "list" vs.toArray 0)) h'.objs.size vs out).get? h'.objs.size = some { cls := .type "list", data := .seq out.toList.toArray n } := by
    have q1 := get?_update_seq oL (fun _ => (#[] : Array Value))
    have q2 := Heap.get?_push_of_some (seqObj "list" #[] 0) (Heap.get?_push_of_some (seqObj "tuple" vs.toArray 0) q1)
    exact ⟨_, get?_update_seq q2 (fun _ => out)⟩
  obtain ⟨n, q3⟩ := q3
  refine h (sortedHeap (h'.push (seqObj "list" vs.toArray 0)) h'.objs.size vs out) tk d h'.objs.size out.toList n ns' (fun b u e => ?_) (Nat.le_of_lt hsz) q3 a1 (a2.trans hp) a3
  have hb : b < h'.objs.size := Heap.lt_size (k b u e)
  unfold sortedHeap
  rw [Heap.get?_update_other _ _ (Nat.ne_of_gt hb)]
  refine Heap.get?_push_of_some _ (Heap.get?_push_of_some _ ?_)
  rw [Heap.get?_update_other _ _ (Nat.ne_of_gt hb)]
  exact Heap.get?_push_of_some _ (k b u e)
end
end VS
end
noncomputable section
set_option linter.all false
set_option maxRecDepth 100000
namespace VL
open PySem PySem.Spec PyProof.Rows L2 VS
section
variable {X : Cx}

theorem sum_take_all (ns : List Int) : (ns.take ns.length).sum = ns.sum := by rw [List.take_length]
/-- sum(xs) of ints -/
theorem call_sum (hc : X.calm = true) : CallR X (.builtin "sum") (fun xs H Q => ∃ (p : Addr) (ns : List Int), xs = [V.ref p] ∧ SqL X.K H p (ns.map V.int) ∧ Q (.int ns.sum) H) := by
  intro pins s σ H xs us Q I r h
  obtain ⟨p, ns, rfl, hq, q⟩ := h
  obtain ⟨u, rfl, rx⟩ := vals1 r
  cases rx
  obtain ⟨its, rv, pl, hz⟩ := I.list hq
  have hi : IntsAre its ns := intsAre_of rv
  obtain ⟨ys, hy⟩ := hi.allInts.items
  refine sum_intListG (I.ok.hd hc) (l := p) (xs := ys) (by rw [← hy]; exact pl.isList) fun h' tk t' hk => ?_
  refine ⟨.int ns.sum, H, I.kept hk, ⟨t', ?_⟩, q⟩
  have e1 : numsOf its.toArray.toList = ns := by rw [show its.toArray.toList = its from rfl, hi.numsOf]
  rw [hy, nums_intItems] at e1
  rw [preSum_eq, List.take_of_length_le (by simp)]
  rw [← e1]

def SetX (P : Program) (w : World) (a : Addr) (D : List Int) : HO := .ext fun h => SetI P w h a D
theorem call_set (hc : X.calm = true) : CallR X (.type "set") (fun xs H Q => ∃ (p : Addr) (ns : List Int), xs = [V.ref p] ∧ SqL X.K H p (ns.map V.int) ∧ ns.length + 1 < scanBound ∧ ∀ a, H a = none → Q (.ref a) (upd H a (SetX X.prog X.w a (dd ns)))) := by
  intro pins s σ H xs us Q I r h
  obtain ⟨p, ns, rfl, hq, hb, q⟩ := h
  obtain ⟨u, rfl, rx⟩ := vals1 r
  cases rx
  obtain ⟨its, rv, pl, hz⟩ := I.list hq
  have hi : IntsAre its ns := intsAre_of rv
  refine set_of_list (P := X.prog) (items := its.toArray) (ns := ns) (I.ok.hd hc) pl.isList hi (by rw [List.size_toArray, hi.length]; exact hb) fun h' tk hS hk => ?_
  have hn : H s.heap.objs.size = none := I.hok.fresh (Nat.le_refl _)
  refine ⟨.ref s.heap.objs.size, _, I.laid (t' := tk) (o := SetX X.prog X.w s.heap.objs.size (dd ns)) (fun b o e => hk b o (Heap.lt_size e) e) (Nat.le_refl _) ?_, rfl, q _ hn⟩
  exact ⟨hS, let ⟨o, _, _, _, e, _⟩ := hS; ⟨o, e⟩, fun h1 h2 x k => x.at fun o e => k o e⟩
theorem Inv.drawn {pins : List (Addr × Obj)} {σ : L2.St} {H : Hp} {s : Shared} (I : Inv X pins σ H s) (d : Drawn) : Inv X pins σ H { s with drawn := d } :=
  ⟨I.ok, I.os, I.bare, I.base, I.loc, I.cell, I.free, I.freeC, I.pin, I.hok, I.len⟩
theorem call_sorted_set (hc : X.calm = true) : CallR X (.builtin "sorted") (fun xs H Q => ∃ (a : Addr) (D : List Int), xs = [V.ref a] ∧ H a = some (SetX X.prog X.w a D) ∧ D.length < 64 ∧ ∀ (l : Addr) (ns : List Int), H l = none → ns.Perm D → D.Nodup → ns.Pairwise (· ≤ ·) → Q (.ref l) (upd H l (.lst (ns.map V.int)))) := by
  intro pins s σ H xs us Q I r h
  obtain ⟨a, D, rfl, ha, h64, q⟩ := h
  obtain ⟨u, rfl, rx⟩ := vals1 r
  cases rx
  obtain ⟨⟨o, es, ep, t, ho, O⟩, _, _⟩ := I.hok a _ ha
  refine sorted_set (P := X.prog) (I.ok.hd hc) ho O h64 fun h' tk d l out n ns hk hl hol hi hp hs => ?_
  have hn : H l = none := I.hok.fresh hl
  have I2 := I.laid (t' := tk) (a := l) (o := .lst (ns.map V.int)) (h' := h') hk hl ⟨?_, out, n, vals_ints hi, hol⟩
  · exact ⟨.ref l, _, Inv.drawn I2 d, rfl, q l ns hn hp O.nd hs⟩
  · rw [List.length_map, hp.length_eq, sizeLine_eq]
    omega
end
end VL
end
noncomputable section
set_option linter.all false
set_option maxRecDepth 100000
namespace VL
open PySem PySem.Spec PyProof.Rows L2 VS

/-! ### a dict of the module whose keys are ints and whose values are things of the module -/
def pairOf (e : DictEntry) : Option (Int × Addr) := match e.key, e.val with
  | .int k _, .ref f => if e.hash = hashInt k then some (k, f) else none
  | _, _ => none
def pairsOfD : List DictEntry → Option (List (Int × Addr))
  | [] => some []
  | e :: es => match pairOf e, pairsOfD es with
    | some p, some ps => some (p :: ps)
    | _, _ => none
structure ModD (K : PySem.W.Frag) (a : Addr) (kvs : List (Int × Addr)) : Prop where
  ex : ∃ o es ep, K.lookup a = some o ∧ o.ExactDict ∧ o.data = .dict es ep ∧ pairsOfD es.toList = some kvs
  nd : (kvs.map (·.1)).Nodup
  sys : (a == sysModules) = false
theorem pairOf_is {P : Program} {w : World} {e : DictEntry} {p : Int × Addr} (h : pairOf e = some p) : (PySem.intKind P w).is p.1 e.key = true ∧ e.hash = (PySem.intKind P w).hash p.1 ∧ e.val = .ref p.2 := by
  unfold pairOf at h
  obtain ⟨hs, key, val⟩ := e
  dsimp only at h
  cases key with
  | int k t =>
    cases val with
    | ref f =>
      dsimp only at h
      by_cases q : hs = hashInt k
      · rw [if_pos q] at h
        cases h
        exact ⟨intKind_is P w k t, q, rfl⟩
      · rw [if_neg q] at h
        cases h
    | _ => cases h
  | _ => cases h
theorem pairs_is {P : Program} {w : World} : ∀ {es : List DictEntry} {kvs : List (Int × Addr)}, pairsOfD es = some kvs → Pairs (PySem.intKind P w) es (kvs.map fun p => (p.1, Value.ref p.2)) ∧ ∀ e ∈ es, ∃ k, (PySem.intKind P w).is k e.key = true ∧ e.hash = (PySem.intKind P w).hash k
  | [], kvs, h => by
    have h : some [] = some kvs := h
    cases h
    exact ⟨.nil, fun e he => by simp at he⟩
  | e :: es, kvs, h => by
    have h : (match pairOf e, pairsOfD es with | some p, some ps => some (p :: ps) | _, _ => none) = some kvs := h
    cases e1 : pairOf e with
    | none => rw [e1] at h; cases h
    | some p =>
      cases e2 : pairsOfD es with
      | none => rw [e1, e2] at h; cases h
      | some ps =>
        rw [e1, e2] at h
        cases h
        obtain ⟨h1, h2, h3⟩ := pairOf_is (P := P) (w := w) e1
        obtain ⟨h4, h5⟩ := pairs_is (P := P) (w := w) e2
        refine ⟨.cons h1 h3 h4, fun x hx => ?_⟩
        rcases List.mem_cons.mp hx with rfl | hx
        · exact ⟨p.1, h1, h2⟩
        · exact h5 x hx
def valI (kvs : List (Int × Addr)) (k : Int) : Option Addr := (kvs.find? fun p => decide (p.1 = k)).map (·.2)
theorem valI_at (kvs : List (Int × Addr)) (k : Int) : valueAt (kvs.map fun p => (p.1, Value.ref p.2)) k = (valI kvs k).map Value.ref := by
  unfold valueAt valI
  rw [List.find?_map]
  induction kvs with
  | nil => rfl
  | cons p l ih =>
    by_cases q : p.1 = k
    · simp [List.find?_cons, q]
    · simp only [List.find?_cons, Function.comp, q, decide_false]
      exact ih
theorem ModD.map {X : Cx} {pins : List (Addr × Obj)} {σ : L2.St} {H : Hp} {s : Shared} {a : Addr} {kvs : List (Int × Addr)} (D : ModD X.K a kvs) (I : Inv X pins σ H s) : s.heap.MapOf (PySem.intKind X.prog X.w) a (valueAt (kvs.map fun p => (p.1, Value.ref p.2))) := by
  obtain ⟨o, es, ep, h1, h2, h3, h4⟩ := D.ex
  obtain ⟨h5, h6⟩ := pairs_is (P := X.prog) (w := X.w) h4
  have dd : s.heap.DictOf (PySem.intKind X.prog X.w) a (kvs.map fun p => (p.1, Value.ref p.2)) := by
    refine ⟨o, es, ep, I.kIn a o h1, h2, h3, fun e he => h6 e (Array.mem_toList_iff.mpr he), h5, ?_⟩
    rw [List.map_map]
    exact D.nd
  exact dd.mapOf
section
variable {X : Cx} {i o : Expr} {pos : Pos} {ti : TE} {a : Addr} {kvs : List (Int × Addr)}
/-- D[i], D a dict of the module -/
def tMGet (kvs : List (Int × Addr)) (ti : TE) : TE := fun σ H Q => ti σ H fun y H1 => ∃ k f, y = .int k ∧ valI kvs k = some f ∧ Q (.ref f) H1
theorem pe_mget {x : Str} {px : Pos} (D : ModD X.K a kvs) (hg : Gl X x) (hm : X.mg x = some (.ref a)) (hi : PE X i ti) (hs : NoSl i) (hd : (x == ("__debug__" : Str)) = false := by decide) : PE X (.Subscript (.Name x px) i pos) (tMGet kvs ti) := by
  intro pins s σ H Q I h
  refine subD_of PySem.F.slot_dict_getitem.lookup hs (ld_glob I hg hm (thn (hi pins s σ H _ I h) fun iv s2 ⟨y, H2, I2, ry, k, f, ey, hv, q⟩ => ?_) hd)
  subst ey
  obtain ⟨t, rfl⟩ := ry
  have M := D.map I2
  refine ⟨M.typeIs, wpAny_getItem_of (knd := PySem.intKind X.prog X.w) (intKind_is _ _ k t) M (v := .ref f) (by rw [valI_at, hv]; rfl) ?_⟩
  exact ⟨.ref f, H2, I2.tok _, rfl, q⟩
/-- i in D -/
def tMIn (kvs : List (Int × Addr)) (ti : TE) : TE := fun σ H Q => ti σ H fun y H1 => ∃ k, y = .int k ∧ Q (.bl (valI kvs k).isSome) H1
theorem pc_min {x : Str} {px : Pos} (D : ModD X.K a kvs) (hg : Gl X x) (hm : X.mg x = some (.ref a)) (hi : PE X i ti) (hd : (x == ("__debug__" : Str)) = false := by decide) : PC X .In i (.Name x px) (tMIn kvs ti) := by
  intro pins s σ H Q I h
  refine thn (hi pins s σ H _ I h) fun iv s1 ⟨y, H1, I1, ry, k, ey, q⟩ => ld_glob I1 hg hm ?_ hd
  subst ey
  obtain ⟨t, rfl⟩ := ry
  have M := D.map I1
  refine wpAny_in_of (knd := PySem.intKind X.prog X.w) (intKind_is _ _ k t) D.sys M ?_
  rw [valI_at, Option.isSome_map]
  exact ⟨.bl _, H1, I1.tok _, rfl, q⟩
/-- a def that may be called by its value -/
structure FnP (X : Cx) where
  k : Nat
  f : Addr
  fd : FuncData
  ps : List Str
  sp : Sp
  ok : FnOk X.prog X.w X.K X.mg X.base CX0 k f fd ps sp
  room : Room k X.A
  kp : PySem.W.keepIn X.K (.ref f) = true
  b : Binds X.K fd ps []
/-- e(..), e's value a def -/
def tCallV (X : Cx) (tf : TE) (t : TA) : TE := fun σ H Q => tf σ H fun x H1 => ∃ G : FnP X, x = .ref G.f ∧ t σ H1 fun vs H2 => G.sp vs H2 Q E0
variable {fe e : Expr} {es : List Expr} {tf : TE} {t : TA}
theorem pe_callV (hf : PE X fe tf) (ha : PA X (e :: es) t) (he : starEach (e :: es) X.env = (false, eval e X.env) :: starEach es X.env := by rfl) (hpl : (backTo pos (starEach es X.env)).any (·.1) = false := by rfl)
    (hc : eval (.Call fe (e :: es) [] pos) X.env = (do callWith pos (← eval fe X.env) [] (backTo pos (starEach (e :: es) X.env)) (backToKw pos (keywordEach [] X.env))) := by rfl) :
    PE X (.Call fe (e :: es) [] pos) (tCallV X tf t) := by
  intro pins s σ H Q I h
  refine PyProof.Rows.Call_ (thn (hf pins s σ H _ I h) fun u s1 ⟨x, H1, I1, rx, G, ex, q⟩ => ?_) hc
  subst ex
  obtain rfl : u = Value.ref G.f := rx
  refine PySem.W.callWith_K (h₀ := X.base) I.ok.mod.kin G.kp (thn (ha pos pins s1 σ H1 _ I1 q) fun us s2 ⟨vs, H2, I2, r, q2⟩ => ⟨I2.kIn, ?_⟩) he hpl
  refine run_fn G.ok G.room G.b .nil pass0 I2 r ?_
  rw [List.append_nil]
  exact q2
end
end VL
end
noncomputable section
set_option Elab.async false
set_option linter.all false
set_option maxRecDepth 100000
namespace VP
open PySem PySem.Spec PyProof.Rows L2 VS VL
open Km457 (Valley Village)
def top (i : Nat) : Stmt := PySem.Challenge.pw_valleyrounds_s01_answers.main.body.getD i (.Pass ⟨0, 0, 0, 0⟩)
abbrev s_Valley_init : Stmt := inClass (top 2) 0
abbrev s_Valley_start_anew : Stmt := inClass (top 2) 1
abbrev s_Valley_size : Stmt := inClass (top 2) 2
abbrev s_Valley_has : Stmt := inClass (top 2) 3
abbrev s_Valley_rows : Stmt := inClass (top 2) 4
abbrev s_Valley_set_rows : Stmt := inClass (top 2) 5
abbrev s_Valley_with_call : Stmt := inClass (top 2) 6
abbrev s_Valley_keep_rows : Stmt := inClass (top 2) 7
abbrev s_Valley_add_village : Stmt := inClass (top 2) 8
abbrev s_Valley_set_road : Stmt := inClass (top 2) 9
abbrev s_Valley_set_call : Stmt := inClass (top 2) 10
abbrev s_Valley_clear_calls : Stmt := inClass (top 2) 11
abbrev s_Valley_take_back : Stmt := inClass (top 2) 12
abbrev s_Valley_do_again : Stmt := inClass (top 2) 13
abbrev s_way_between : Stmt := top 4
abbrev s_roads_along : Stmt := top 5
abbrev s_length_of : Stmt := top 6
abbrev s_length_along : Stmt := top 7
abbrev s_far_between : Stmt := top 8
abbrev s_far_by_stops : Stmt := top 9
abbrev s_called_villages : Stmt := top 10
abbrev s_roads_needed : Stmt := top 11
abbrev s_farthest_from : Stmt := top 12
abbrev s_beside_by : Stmt := top 13
abbrev s_trips_from : Stmt := top 14
abbrev s_round_from : Stmt := top 15
abbrev s_round_length : Stmt := top 16
abbrev s_way_from : Stmt := top 17
abbrev s_way_length : Stmt := top 18
abbrev s_road_fits : Stmt := top 28
abbrev s_as_bits : Stmt := top 29
abbrev s_vr_start : Stmt := top 30
abbrev s_vr_village : Stmt := top 31
abbrev s_vr_road : Stmt := top 32
abbrev s_vr_call : Stmt := top 33
abbrev s_vr_clear : Stmt := top 34
abbrev s_vr_far : Stmt := top 35
abbrev s_vr_between : Stmt := top 36
abbrev s_vr_roads : Stmt := top 37
abbrev s_vr_round : Stmt := top 38
abbrev s_vr_once : Stmt := top 39
abbrev s_told_at : Stmt := top 40
abbrev s_vr_tour : Stmt := top 41
abbrev s_vr_way : Stmt := top 42
abbrev s_vr_when : Stmt := top 43
abbrev s_vr_last : Stmt := top 44
abbrev s_vr_more : Stmt := top 45
abbrev s_vr_less : Stmt := top 46
abbrev s_vr_begin : Stmt := top 47
abbrev s_vr_passes : Stmt := top 48
abbrev s_vr_order : Stmt := top 49
abbrev s_vr_look : Stmt := top 50
abbrev s_vr_calls : Stmt := top 51
abbrev s_vr_sums : Stmt := top 52
abbrev s_vr_back : Stmt := top 53
abbrev s_vr_again : Stmt := top 54
abbrev s_vr_state : Stmt := top 55
abbrev s_answers : Stmt := top 60
/-! the defs of the text -/
structure Df (K : PySem.W.Frag) (mg : Str → Option Value) (name : Str) (st : Stmt) (ps : List Str) where
  f : Addr
  fd : FuncData
  F : Fun K name name st f fd
  b : Binds K fd ps []
  m : mg name = some (.ref f)
structure Mt (K : PySem.W.Frag) (C : Addr) (name qual : Str) (st : Stmt) (ps : List Str) where
  f : Addr
  fd : FuncData
  F : Fun K name qual st f fd
  b : Binds K fd ps []
  m : Meth K C name f
/-- a dict of the module: numbers and the names of the defs that stand for them -/
def Ents (mg : Str → Option Value) : List (Int × Addr) → List (Int × Str) → Prop
  | [], [] => True
  | a :: l, b :: m => a.1 = b.1 ∧ mg b.2 = some (.ref a.2) ∧ Ents mg l m
  | _, _ => False
structure Dc (K : PySem.W.Frag) (mg : Str → Option Value) (x : Str) (names : List (Int × Str)) where
  a : Addr
  kvs : List (Int × Addr)
  D : ModD K a kvs
  m : mg x = some (.ref a)
  e : Ents mg kvs names
structure Txt (K : PySem.W.Frag) (mg : Str → Option Value) where
  C : Addr
  cl : Cls K C
  mC : mg "Valley" = some (.ref C)
  n_ups : NoAttr K C "ups"
  n_lengths : NoAttr K C "lengths"
  n_called : NoAttr K C "called"
  n_earlier : NoAttr K C "earlier"
  n_later : NoAttr K C "later"
  init : Mt K C "__init__" "Valley.__init__" s_Valley_init ["self"]
  start_anew : Mt K C "start_anew" "Valley.start_anew" s_Valley_start_anew ["self"]
  size : Mt K C "size" "Valley.size" s_Valley_size ["self"]
  has : Mt K C "has" "Valley.has" s_Valley_has ["self", "v"]
  rows : Mt K C "rows" "Valley.rows" s_Valley_rows ["self"]
  set_rows : Mt K C "set_rows" "Valley.set_rows" s_Valley_set_rows ["self", "rows"]
  with_call : Mt K C "with_call" "Valley.with_call" s_Valley_with_call ["self", "v", "o"]
  keep_rows : Mt K C "keep_rows" "Valley.keep_rows" s_Valley_keep_rows ["self"]
  add_village : Mt K C "add_village" "Valley.add_village" s_Valley_add_village ["self", "up", "far"]
  set_road : Mt K C "set_road" "Valley.set_road" s_Valley_set_road ["self", "v", "n"]
  set_call : Mt K C "set_call" "Valley.set_call" s_Valley_set_call ["self", "v", "o"]
  clear_calls : Mt K C "clear_calls" "Valley.clear_calls" s_Valley_clear_calls ["self"]
  take_back : Mt K C "take_back" "Valley.take_back" s_Valley_take_back ["self"]
  do_again : Mt K C "do_again" "Valley.do_again" s_Valley_do_again ["self"]
  mkC : Mk K C init.f
  way_between : Df K mg "way_between" s_way_between ["valley", "v", "w"]
  roads_along : Df K mg "roads_along" s_roads_along ["passed"]
  length_of : Df K mg "length_of" s_length_of ["valley", "roads"]
  length_along : Df K mg "length_along" s_length_along ["valley", "passed"]
  far_between : Df K mg "far_between" s_far_between ["valley", "v", "w"]
  far_by_stops : Df K mg "far_by_stops" s_far_by_stops ["valley", "stops"]
  called_villages : Df K mg "called_villages" s_called_villages ["valley"]
  roads_needed : Df K mg "roads_needed" s_roads_needed ["valley", "a"]
  farthest_from : Df K mg "farthest_from" s_farthest_from ["valley", "a"]
  beside_by : Df K mg "beside_by" s_beside_by ["valley", "needed", "v"]
  trips_from : Df K mg "trips_from" s_trips_from ["valley", "needed", "v", "skipped"]
  round_from : Df K mg "round_from" s_round_from ["valley", "a"]
  round_length : Df K mg "round_length" s_round_length ["valley", "a"]
  way_from : Df K mg "way_from" s_way_from ["valley", "a"]
  way_length : Df K mg "way_length" s_way_length ["valley", "a"]
  road_fits : Df K mg "road_fits" s_road_fits ["n"]
  as_bits : Df K mg "as_bits" s_as_bits ["villages"]
  vr_start : Df K mg "vr_start" s_vr_start ["valley"]
  vr_village : Df K mg "vr_village" s_vr_village ["valley", "up", "far"]
  vr_road : Df K mg "vr_road" s_vr_road ["valley", "v", "n"]
  vr_call : Df K mg "vr_call" s_vr_call ["valley", "v", "o"]
  vr_clear : Df K mg "vr_clear" s_vr_clear ["valley"]
  vr_far : Df K mg "vr_far" s_vr_far ["valley", "v", "w"]
  vr_between : Df K mg "vr_between" s_vr_between ["valley", "v", "w"]
  vr_roads : Df K mg "vr_roads" s_vr_roads ["valley", "a"]
  vr_round : Df K mg "vr_round" s_vr_round ["valley", "a"]
  vr_once : Df K mg "vr_once" s_vr_once ["valley", "a"]
  told_at : Df K mg "told_at" s_told_at ["valley", "passed", "k"]
  vr_tour : Df K mg "vr_tour" s_vr_tour ["valley", "a", "k"]
  vr_way : Df K mg "vr_way" s_vr_way ["valley", "a", "k"]
  vr_when : Df K mg "vr_when" s_vr_when ["valley", "a", "v"]
  vr_last : Df K mg "vr_last" s_vr_last ["valley", "a"]
  vr_more : Df K mg "vr_more" s_vr_more ["valley", "a", "v"]
  vr_less : Df K mg "vr_less" s_vr_less ["valley", "a", "v"]
  vr_begin : Df K mg "vr_begin" s_vr_begin ["valley"]
  vr_passes : Df K mg "vr_passes" s_vr_passes ["valley", "a", "w"]
  vr_order : Df K mg "vr_order" s_vr_order ["valley", "a", "villages"]
  vr_look : Df K mg "vr_look" s_vr_look ["valley", "v"]
  vr_calls : Df K mg "vr_calls" s_vr_calls ["valley"]
  vr_sums : Df K mg "vr_sums" s_vr_sums ["valley"]
  vr_back : Df K mg "vr_back" s_vr_back ["valley"]
  vr_again : Df K mg "vr_again" s_vr_again ["valley"]
  vr_state : Df K mg "vr_state" s_vr_state ["valley"]
  answers : Df K mg "answers" s_answers ["calls"]
  c_MOST_TAKEN_BACK : ∃ t, mg "MOST_TAKEN_BACK" = some (Value.int (20) t)
  c_MOST_VILLAGES : ∃ t, mg "MOST_VILLAGES" = some (Value.int (14) t)
  c_LONGEST_ROAD : ∃ t, mg "LONGEST_ROAD" = some (Value.int (1000) t)
  c_MOST_IN_ORDER : ∃ t, mg "MOST_IN_ORDER" = some (Value.int (6) t)
  c_THERES_NONE : ∃ t, mg "THERES_NONE" = some (Value.int (-2) t)
  c_IT_IS_SO : ∃ t, mg "IT_IS_SO" = some (Value.int (-17) t)
  c_NOT_FIT : ∃ t, mg "NOT_FIT" = some (Value.int (-22) t)
  c_TOO_MANY : ∃ t, mg "TOO_MANY" = some (Value.int (-28) t)
  c_NOT_HERE : ∃ t, mg "NOT_HERE" = some (Value.int (-33) t)
  d_WITH_NO_NUMBER : Dc K mg "WITH_NO_NUMBER" [(0, "vr_start"), (4, "vr_clear"), (16, "vr_begin"), (20, "vr_calls"), (21, "vr_sums"), (22, "vr_back"), (23, "vr_again"), (24, "vr_state")]
  d_WITH_ONE_NUMBER : Dc K mg "WITH_ONE_NUMBER" [(7, "vr_roads"), (8, "vr_round"), (9, "vr_once"), (13, "vr_last"), (19, "vr_look")]
  d_WITH_TWO_NUMBERS : Dc K mg "WITH_TWO_NUMBERS" [(1, "vr_village"), (2, "vr_road"), (3, "vr_call"), (5, "vr_far"), (6, "vr_between"), (10, "vr_tour"), (11, "vr_way"), (12, "vr_when"), (14, "vr_more"), (15, "vr_less"), (17, "vr_passes")]
  d_WITH_A_NUMBER_AND_A_ROW : Dc K mg "WITH_A_NUMBER_AND_A_ROW" [(18, "vr_order")]
  len : mg "len" = none
  list : mg "list" = none
  max : mg "max" = none
  min : mg "min" = none
  range : mg "range" = none
  set : mg "set" = none
  sorted : mg "sorted" = none
  sum : mg "sum" = none
end VP
end
noncomputable section
set_option Elab.async false
set_option linter.all false
set_option maxRecDepth 100000
namespace VP
open PySem PySem.Spec PyProof.Rows L2 VS VL
open Km457 (Valley Village)
/-! lists of whole numbers -/
def zs (l : List Nat) : List Int := l.map fun (x : Nat) => (x : Int)
def vz (l : List Nat) : List V := (zs l).map V.int
abbrev li (l : List Nat) : HO := .lst (vz l)
theorem zs_length (l : List Nat) : (zs l).length = l.length := List.length_map _
theorem vz_length (l : List Nat) : (vz l).length = l.length := by unfold vz; rw [List.length_map, zs_length]
theorem vz_append (l m : List Nat) : vz (l ++ m) = vz l ++ vz m := by unfold vz zs; simp
theorem li_snoc (l : List Nat) (x : Nat) : HO.lst (vz l ++ [V.int (x : Int)]) = li (l ++ [x]) := by
  show HO.lst _ = HO.lst _
  rw [vz_append]
  rfl
theorem vz_one (x : Nat) : vz [x] = [V.int (x : Int)] := rfl
theorem vz_cons (x : Nat) (l : List Nat) : vz (x :: l) = V.int (x : Int) :: vz l := rfl
theorem vz_nil : vz [] = [] := rfl
theorem vz_get {l : List Nat} {i x : Nat} (h : l[i]? = some x) : (vz l)[i]? = some (.int (x : Int)) := by
  unfold vz zs
  rw [List.getElem?_map, List.getElem?_map, h]
  rfl
theorem vz_get' {l : List Nat} {i : Nat} {v : V} (h : (vz l)[i]? = some v) : ∃ x, l[i]? = some x ∧ v = .int (x : Int) := by
  unfold vz zs at h
  rw [List.getElem?_map, List.getElem?_map] at h
  cases e : l[i]? with
  | none => rw [e] at h; cases h
  | some x => rw [e] at h; exact ⟨x, rfl, (Option.some.inj h).symm⟩
theorem vz_at {l : List Nat} {i x : Nat} (h : l[i]? = some x) : atI (vz l) (i : Int) = some (.int (x : Int)) := atI_nat (vz_get h)
theorem vz_last (l : List Nat) (x : Nat) : atI (vz (l ++ [x])) (-1) = some (.int (x : Int)) := by rw [vz_append]; exact atI_last _ _
theorem zs_sum : ∀ l : List Nat, (zs l).sum = ((l.sum : Nat) : Int)
  | [] => rfl
  | x :: l => by
    have := zs_sum l
    show ((x : Int) :: zs l).sum = _
    rw [List.sum_cons, List.sum_cons, this]
    omega
theorem vz_reverse (l : List Nat) : vz l.reverse = (vz l).reverse := by unfold vz zs; simp
theorem vz_dropLast (l : List Nat) : (vz l).dropLast = vz l.dropLast := by unfold vz zs; simp [List.map_dropLast]
theorem vz_take (l : List Nat) (n : Nat) : (vz l).take n = vz (l.take n) := by unfold vz zs; simp [List.map_take]
theorem vz_flat (l : List Nat) : (vz l).all flatV = true := by
  rw [List.all_eq_true]
  intro v hv
  unfold vz at hv
  obtain ⟨z, _, rfl⟩ := List.mem_map.mp hv
  rfl
theorem vz_in (l : List Nat) (x : Nat) : inV (.int (x : Int)) (vz l) = decide (x ∈ l) := by
  unfold inV vz zs
  induction l with
  | nil => rfl
  | cons y l ih =>
    simp only [List.map_cons, List.any_cons]
    rw [ih]
    show ((y : Int) == (x : Int) || decide (x ∈ l)) = decide (x ∈ y :: l)
    by_cases e : x = y
    · subst e; simp
    · have : ((y : Int) == (x : Int)) = false := by
        rw [beq_eq_false_iff_ne]
        intro z
        exact e (by omega)
      rw [this]
      simp [e]
theorem small {n : Nat} (h : n ≤ 4000000) : n ≤ sizeLine := by rw [sizeLine_eq]; omega
theorem smallL {n : Nat} (h : n ≤ 4000000) : n < sizeLine := by rw [sizeLine_eq]; omega

/-! a valley that is read -/
def calledL (s : Valley) (cs : List Nat) : List Nat := (List.range s.length).map fun v => if v ∈ cs then 1 else 0
/-- the five attributes of the object -/
def flds (lu ll lc le lt : Addr) : List (Str × V) := [("ups", .ref lu), ("lengths", .ref ll), ("called", .ref lc), ("earlier", .ref le), ("later", .ref lt)]
structure RAt (C : Addr) (H : Hp) (p : Addr) (s : Valley) (cs : List Nat) : Prop where
  ex5 : ∃ dx lu ll lc le lt, H p = some (.ins C dx (flds lu ll lc le lt)) ∧ H lu = some (li (s.map (·.up))) ∧ H ll = some (li (s.map (·.long))) ∧ H lc = some (li (calledL s cs))
  wf : VR.WF s
  cs_lt : ∀ c ∈ cs, c < s.length
theorem RAt.ex {C : Addr} {H : Hp} {p : Addr} {s : Valley} {cs : List Nat} (R : RAt C H p s cs) : ∃ dx fs lu ll lc, H p = some (.ins C dx fs) ∧ fs.lookup ("ups" : Str) = some (.ref lu) ∧ fs.lookup ("lengths" : Str) = some (.ref ll) ∧ fs.lookup ("called" : Str) = some (.ref lc) ∧
    H lu = some (li (s.map (·.up))) ∧ H ll = some (li (s.map (·.long))) ∧ H lc = some (li (calledL s cs)) ∧ fs.lookup ("size" : Str) = none ∧ fs.lookup ("has" : Str) = none := by
  obtain ⟨dx, lu, ll, lc, le, lt, h1, h2, h3, h4⟩ := R.ex5
  exact ⟨dx, _, lu, ll, lc, h1, rfl, rfl, rfl, h2, h3, h4, rfl, rfl⟩
theorem RAt.same {C : Addr} {H H' : Hp} {p : Addr} {s : Valley} {cs : List Nat} (R : RAt C H p s cs) (k : Same H H') : RAt C H' p s cs := by
  obtain ⟨⟨dx, lu, ll, lc, le, lt, h1, h2, h3, h4⟩, hw, hc⟩ := R
  exact ⟨⟨dx, lu, ll, lc, le, lt, k _ _ h1, k _ _ h2, k _ _ h3, k _ _ h4⟩, hw, hc⟩
theorem up_at {s : Valley} {v : Nat} (h : v < s.length) : (s.map (·.up))[v]? = some (VR.up s v) := by
  rw [List.getElem?_map, List.getElem?_eq_getElem h]
  show some (s[v]).up = some (Km457.at_ s v).up
  unfold Km457.at_
  rw [List.getD_eq_getElem?_getD, List.getElem?_eq_getElem h]
  rfl
theorem ln_at {s : Valley} {v : Nat} (h : v < s.length) : (s.map (·.long))[v]? = some (VR.ln s v) := by
  rw [List.getElem?_map, List.getElem?_eq_getElem h]
  show some (s[v]).long = some (Km457.at_ s v).long
  unfold Km457.at_
  rw [List.getD_eq_getElem?_getD, List.getElem?_eq_getElem h]
  rfl
theorem called_at {s : Valley} {cs : List Nat} {v : Nat} (h : v < s.length) : (calledL s cs)[v]? = some (if v ∈ cs then 1 else 0) := by
  unfold calledL
  rw [List.getElem?_map, List.getElem?_range h]
  rfl
theorem same_new {H : Hp} {p : Addr} (h : H p = none) (o : HO) : Same H (upd H p o) := fun b u q => by rw [upd_ne (ne_of_none q h)]; exact q
/-- a new list is changed: all that was there ahead of it stays -/
theorem keepNew {H H' : Hp} {p : Addr} (k : Same H H') (h : H p = none) (o : HO) : Same H (upd H' p o) := fun b u q => by rw [upd_ne (ne_of_none q h)]; exact k b u q

section
variable {P : Program} {w : World} {K : PySem.W.Frag} {mg : Str → Option Value} {base : Heap}

/-- a valley read and numbers handed in, a new list of numbers out -/
def outL (H : Hp) (l : List Nat) (Q : VK) : Prop := ∀ (r : Addr) (H' : Hp), Same H H' → H r = none → H' r = some (li l) → Q (.ref r) H'
def spWB (C : Addr) : Sp := fun vs H Q _ => ∃ (p : Addr) (s : Valley) (cs : List Nat) (v u : Nat), vs = [.ref p, .int (v : Int), .int (u : Int)] ∧ RAt C H p s cs ∧ v < s.length ∧ u < s.length ∧ outL H (VR.bt s v u) Q
theorem scWB : FnScope ["valley", "v", "w", "front", "back"] ["valley", "v", "w"] (defScope s_way_between) := ⟨rfl, rfl, rfl, by decide +kernel, rfl, by decide +kernel, by decide +kernel⟩
theorem ok_way_between (T : Txt K mg) : FnOk P w K mg base CX0 1 T.way_between.f T.way_between.fd ["valley", "v", "w"] (spWB T.C) := by
  refine T.way_between.F.ok scWB (fun vs H Q E h => ?_) (fun cdv A outer s0 H vs Q E hr h => ?_)
  · obtain ⟨p, s, cs, v, u, rfl, _⟩ := h
    rfl
  obtain ⟨p, s, cs, v, u, rfl, R, hv, hu, k⟩ := h
  have W := R.wf
  refine ⟨_, pss_cons (ps_set (i := 3) scWB.nd rfl (Or.inl rfl) (pe_lst (pa_cons (pv 1) pa_nil)))
    (pss_cons (ps_set (i := 4) scWB.nd rfl (Or.inl rfl) (pe_lst (pa_cons (pv 2) pa_nil)))
    (pss_cons (ps_while PassesOwn.never (pt_cmpR op_ne (pe_ix ix_list (pv 3) (pe_un un_neg pe_int) (fun _ _ => rfl)) (pe_ix ix_list (pv 4) (pe_un un_neg pe_int) (fun _ _ => rfl)) (nomark _))
      (pss_one (ps_if (pt_cmpR op_gt (pe_ix ix_list (pv 3) (pe_un un_neg pe_int) (fun _ _ => rfl)) (pe_ix ix_list (pv 4) (pe_un un_neg pe_int) (fun _ _ => rfl)) (nomark _))
        (pss_one (ps_expr (pe_bm PySem.F.plainAttrs_list PySem.F.slot_list_append PySem.F.type_list_append mt_append (pv 3) (pa_cons (pe_ix ix_list (pe_fld (pv 0) rfl) (pe_ix ix_list (pv 3) (pe_un un_neg pe_int) (fun _ _ => rfl)) (fun _ _ => rfl)) pa_nil))))
        (pss_one (ps_expr (pe_bm PySem.F.plainAttrs_list PySem.F.slot_list_append PySem.F.type_list_append mt_append (pv 4) (pa_cons (pe_ix ix_list (pe_fld (pv 0) rfl) (pe_ix ix_list (pv 4) (pe_un un_neg pe_int) (fun _ _ => rfl)) (fun _ _ => rfl)) pa_nil)))))))
    (pss_cons (ps_expr (pe_bm0 PySem.F.plainAttrs_list PySem.F.slot_list_pop PySem.F.type_list_pop mt_pop (pv 4)))
    (pss_cons (ps_expr (pe_bm0 PySem.F.plainAttrs_list PySem.F.slot_list_reverse PySem.F.type_list_reverse mt_reverse (pv 4)))
    (pss_one (ps_ret (pe_op op_cat (pv 3) (pv 4)))))))), ?_⟩
  refine ⟨_, rfl, small (by show 1 ≤ 4000000; decide), fun lf hlf => ?_⟩
  refine ⟨_, rfl, small (by show 1 ≤ 4000000; decide), fun lb hlb => ?_⟩
  have hne : lf ≠ lb := ne_of_none upd_same hlb
  have S1 : Same H (upd (upd H lf (.lst [.int (v : Int)])) lb (.lst [.int (u : Int)])) := (same_new hlf _).trans (same_new hlb _)
  have hlb0 : H lb = none := (same_new hlf _).free hlb
  refine ⟨fun m σ H' => ∃ (fr bk : List Nat) (x y : Nat), m = x + y ∧ σ = [some (.ref p), some (.int (v : Int)), some (.int (u : Int)), some (.ref lf), some (.ref lb)] ∧ Same H H' ∧ H' lf = some (li (fr ++ [x])) ∧ H' lb = some (li (bk ++ [y])) ∧ x < s.length ∧ y < s.length ∧
    fr ++ VR.bt s x y ++ bk.reverse = VR.bt s v u ∧ fr.length + bk.length + x + y ≤ v + u, ⟨_, [], [], v, u, rfl, rfl, S1, (by rw [upd_ne hne]; exact upd_same), upd_same, hv, hu, by simp, by simp⟩, ?_⟩
  rintro m σ H1 ⟨fr, bk, x, y, rfl, rfl, S2, hf, hb, hx, hy, he, hm⟩
  have R1 := R.same S2
  obtain ⟨dx, fs, lu, ll, lc, h1, h2, _, _, h5, _⟩ := R1.ex
  have few := W.few
  refine ⟨_, rfl, 1, rfl, lf, _, _, _, rfl, rfl, SqL.of hf, vz_last fr x, _, rfl, 1, rfl, lb, _, _, _, rfl, rfl, SqL.of hb, vz_last bk y, rfl, _, rfl, ?_⟩
  refine ite2 (fun c => ?_) (fun c => ?_)
  · have hxy : x ≠ y := fun z => by rw [z] at c; simp at c
    refine ⟨fun σ' H' => ∃ m', m' < x + y ∧ ∃ (fr bk : List Nat) (x y : Nat), m' = x + y ∧ σ' = [some (.ref p), some (.int (v : Int)), some (.int (u : Int)), some (.ref lf), some (.ref lb)] ∧ Same H H' ∧ H' lf = some (li (fr ++ [x])) ∧ H' lb = some (li (bk ++ [y])) ∧ x < s.length ∧ y < s.length ∧
      fr ++ VR.bt s x y ++ bk.reverse = VR.bt s v u ∧ fr.length + bk.length + x + y ≤ v + u, fun _ _ z => z, ?_⟩
    refine ⟨_, rfl, 1, rfl, lf, _, _, _, rfl, rfl, SqL.of hf, vz_last fr x, _, rfl, 1, rfl, lb, _, _, _, rfl, rfl, SqL.of hb, vz_last bk y, _, _, rfl, rfl, _, rfl, ?_⟩
    refine ite2 (fun c2 => ?_) (fun c2 => ?_)
    · have hlt : y < x := by have := of_decide_eq_true c2; omega
      have hup := W.upl x (by omega)
      refine ⟨_, rfl, .inl ⟨rfl, _, SqL.of hf⟩, _, rfl, p, T.C, dx, fs, _, rfl, h1, T.cl, T.n_ups, h2, _, rfl, 1, rfl, lf, _, _, _, rfl, rfl, SqL.of hf, vz_last fr x, lu, _, _, _, rfl, rfl, SqL.of h5, vz_at (up_at hx), lf, _, _, rfl, rfl, hf, smallL (by rw [vz_length, List.length_append]; simp; omega), ?_⟩
      refine ⟨VR.up s x + y, by omega, fr ++ [x], bk, VR.up s x, y, rfl, rfl, keepNew S2 hlf _, ?_, (by rw [upd_ne hne.symm]; exact hb), by omega, hy, ?_, ?_⟩
      · rw [upd_same, li_snoc]
      · rw [← he, VR.bt_gt W hlt hx]
        simp
      · simp
        omega
    · have hlt : x < y := by have := of_decide_eq_false (Bool.eq_false_iff.mpr c2); omega
      have hup := W.upl y (by omega)
      refine ⟨_, rfl, .inl ⟨rfl, _, SqL.of hb⟩, _, rfl, p, T.C, dx, fs, _, rfl, h1, T.cl, T.n_ups, h2, _, rfl, 1, rfl, lb, _, _, _, rfl, rfl, SqL.of hb, vz_last bk y, lu, _, _, _, rfl, rfl, SqL.of h5, vz_at (up_at hy), lb, _, _, rfl, rfl, hb, smallL (by rw [vz_length, List.length_append]; simp; omega), ?_⟩
      refine ⟨x + VR.up s y, by omega, fr, bk ++ [y], x, VR.up s y, rfl, rfl, keepNew S2 hlb0 _, (by rw [upd_ne hne]; exact hf), ?_, hx, by omega, ?_, ?_⟩
      · rw [upd_same, li_snoc]
      · rw [← he, VR.bt_lt W hlt hy]
        simp
      · simp
        omega
  · have hxy : x = y := by
      by_cases z : x = y
      · exact z
      · exfalso
        apply c
        have : ¬ V.int (x : Int) = V.int (y : Int) := fun q => z (by injection q with q; omega)
        simp [this]
    subst hxy
    rw [VR.bt_self W hx] at he
    have hpop : (vz (bk ++ [x]))[(vz (bk ++ [x])).length - 1]? = some (V.int (x : Int)) := by
      rw [vz_length]
      exact vz_get (by simp)
    refine ⟨_, rfl, .inl ⟨rfl, _, SqL.of hb⟩, lb, _, _, rfl, rfl, hb, hpop, ?_⟩
    have e1 : (vz (bk ++ [x])).dropLast = vz bk := by rw [vz_dropLast]; simp
    rw [e1]
    refine ⟨_, rfl, .inl ⟨rfl, _, SqL.of upd_same⟩, lb, _, rfl, rfl, upd_same, ?_⟩
    refine ⟨_, rfl, _, rfl, lf, lb, _, _, rfl, rfl, (by rw [upd_ne hne, upd_ne hne]; exact hf), upd_same, ?_, fun r hr' => ?_⟩
    · rw [← vz_reverse, vz_length, vz_length]
      simp
      exact small (by omega)
    · have S3 : Same H (upd (upd H1 lb (.lst (vz bk))) lb (.lst (vz bk).reverse)) := keepNew (keepNew S2 hlb0 _) hlb0 _
      have hr0 : H r = none := S3.free hr'
      refine k r _ (keepNew S3 hr0 _) hr0 ?_
      rw [upd_same, ← he, ← vz_reverse, ← vz_append]
end
end VP
end
noncomputable section
set_option Elab.async false
set_option linter.all false
set_option maxRecDepth 100000
namespace VP
open PySem PySem.Spec PyProof.Rows L2 VS VL
open Km457 (Valley Village)
section
variable {P : Program} {w : World} {K : PySem.W.Frag} {mg : Str → Option Value} {base : Heap}

def spSize (C : Addr) : Sp := fun vs H Q _ => ∃ (p : Addr) (s : Valley) (cs : List Nat), vs = [.ref p] ∧ RAt C H p s cs ∧ Q (.int ((s.length : Nat) : Int)) H
theorem scSize : FnScope ["self"] ["self"] (defScope s_Valley_size) := ⟨rfl, rfl, rfl, by decide +kernel, rfl, by decide +kernel, by decide +kernel⟩
theorem ok_size (T : Txt K mg) : FnOk P w K mg base CX0 1 T.size.f T.size.fd ["self"] (spSize T.C) := by
  refine T.size.F.ok scSize (fun vs H Q E h => ?_) (fun cdv A outer s0 H vs Q E hr h => ?_)
  · obtain ⟨p, s, cs, rfl, _⟩ := h
    rfl
  obtain ⟨p, s, cs, rfl, R, k⟩ := h
  obtain ⟨dx, fs, lu, ll, lc, h1, h2, _, _, h5, _⟩ := R.ex
  refine ⟨_, pss_one (ps_ret (pe_callB call_len_seq rfl T.len PySem.boot_len (pa_cons (pe_fld (pv 0) rfl) pa_nil))), ?_⟩
  refine ⟨_, rfl, p, T.C, dx, fs, _, rfl, h1, T.cl, T.n_ups, h2, lu, _, rfl, .inl (SqL.of h5), ?_⟩
  rw [vz_length, List.length_map]
  exact k

def spHas (C : Addr) : Sp := fun vs H Q _ => ∃ (p : Addr) (s : Valley) (cs : List Nat) (v : Nat), vs = [.ref p, .int (v : Int)] ∧ RAt C H p s cs ∧ Q (.bl (decide (v < s.length))) H
theorem scHas : FnScope ["self", "v"] ["self", "v"] (defScope s_Valley_has) := ⟨rfl, rfl, rfl, by decide +kernel, rfl, by decide +kernel, by decide +kernel⟩
theorem ok_has (T : Txt K mg) : FnOk P w K mg base CX0 1 T.has.f T.has.fd ["self", "v"] (spHas T.C) := by
  refine T.has.F.ok scHas (fun vs H Q E h => ?_) (fun cdv A outer s0 H vs Q E hr h => ?_)
  · obtain ⟨p, s, cs, v, rfl, _⟩ := h
    rfl
  obtain ⟨p, s, cs, v, rfl, R, k⟩ := h
  obtain ⟨dx, fs, lu, ll, lc, h1, h2, _, _, h5, _⟩ := R.ex
  refine ⟨_, pss_one (ps_ret (pe_cmpR op_lt (pv 1) (pe_callB call_len_seq rfl T.len PySem.boot_len (pa_cons (pe_fld (pv 0) rfl) pa_nil)) (nomark _))), ?_⟩
  refine ⟨_, rfl, _, rfl, p, T.C, dx, fs, _, rfl, h1, T.cl, T.n_ups, h2, lu, _, rfl, .inl (SqL.of h5), _, _, rfl, rfl, ?_⟩
  rw [vz_length, List.length_map]
  have e : decide ((v : Int) < ((s.length : Nat) : Int)) = decide (v < s.length) := by
    rw [Bool.eq_iff_iff]
    simp
  show Q (.bl (decide ((v : Int) < ((s.length : Nat) : Int)))) H
  rw [e]
  exact k

/-! within a comprehension's block: the text's part by its name -/
theorem ix_listK {X : Cx} (K : PySem.W.Frag) (h : X.K = K) : IxR X (rIxL K) := by subst h; exact ix_list
theorem pe_fldK {X : Cx} {e : Expr} {f : Str} {pos : Pos} {ta : TE} (K : PySem.W.Frag) (h : X.K = K) (he : PE X e ta) (hb : attributeBase e f X.env (eval e X.env) = eval e X.env) : PE X (.Attribute e f pos) (tFld K ta f) := by subst h; exact pe_fld he hb
theorem yes {σ : L2.St} {H : Hp} {A B : Hp → Prop} (h : A H) : tYes σ H (fun b H3 => if b = true then A H3 else B H3) := by
  show (if true = true then A H else B H)
  rw [if_pos rfl]
  exact h
theorem max_if (x y : Nat) : V.int (if (y : Int) > (x : Int) then (y : Int) else (x : Int)) = V.int ((max x y : Nat) : Int) := by
  congr 1
  split <;> omega
def spRA : Sp := fun vs H Q _ => ∃ (a : Addr) (l : List Nat), vs = [.ref a] ∧ H a = some (li l) ∧ 1 ≤ l.length ∧ l.length ≤ 100000 ∧ outL H (VR.rds l) Q
theorem scRA : FnScope ["passed", "k"] ["passed"] (defScope s_roads_along) := ⟨rfl, rfl, rfl, by decide +kernel, rfl, by decide +kernel, by decide +kernel⟩
theorem ok_roads_along (T : Txt K mg) : FnOk P w K mg base CX0 1 T.roads_along.f T.roads_along.fd ["passed"] spRA := by
  refine T.roads_along.F.ok scRA (fun vs H Q E h => ?_) (fun cdv A outer s0 H vs Q E hr h => ?_)
  · obtain ⟨a, l, rfl, _⟩ := h
    rfl
  obtain ⟨a, l, rfl, ha, hl1, hl2, k⟩ := h
  refine ⟨_, pss_one (ps_ret (pe_lc (own := [("k", 1)]) rfl scRA.nd (pi_range2 rfl T.range (pa_cons pe_int (pa_cons (pe_callB call_len_seq rfl T.len PySem.boot_len (pa_cons (pv 0) pa_nil)) pa_nil))) (blkOk_by (N := ["passed", "k"]) (sc := defScope s_roads_along) (by decide +kernel))
    (fun _ _ _ _ _ => pg_name (i := 1) scRA.nd rfl (Or.inl rfl)) (fun _ _ _ _ _ => pts_nil)
    (fun _ _ _ _ _ => pe_callB (call_max2 rfl) rfl T.max PyProof.Rows.boot_max (pa_cons (pe_ix (ix_listK K rfl) (pv 0) (pe_op op_sub (pv 1) pe_int) (fun _ _ => rfl)) (pa_cons (pe_ix (ix_listK K rfl) (pv 0) (pv 1) (fun _ _ => rfl)) pa_nil))))), ?_⟩
  refine ⟨_, rfl, a, _, rfl, .inl (SqL.of ha), _, _, rfl, ⟨by decide, by decide, ?_, ?_⟩, fun D hD => ?_⟩
  · rw [vz_length]; omega
  · rw [vz_length]; omega
  have en : (((vz l).length : Int) - 1).toNat = l.length - 1 := by rw [vz_length]; omega
  rw [en]
  refine lc_range (fun i H' => H' D = some (li (VR.rds (l.take (i + 1)))) ∧ Same H H') ⟨?_, same_new hD _⟩ ?_ ?_
  · rw [upd_same, VR.rds_one]
    rfl
  · rintro i H1 hi ⟨h1, S1⟩
    obtain ⟨x, hx⟩ : ∃ x, l[i]? = some x := ⟨_, List.getElem?_eq_getElem (by omega)⟩
    obtain ⟨y, hy⟩ : ∃ y, l[i + 1]? = some y := ⟨_, List.getElem?_eq_getElem (by omega)⟩
    have ha1 := S1 _ _ ha
    refine ⟨rfl, yes ?_⟩
    refine ⟨_, rfl, _, rfl, _, _, rfl, rfl, a, _, _, _, rfl, rfl, SqL.of ha1, at_of (j := i) (by omega) (vz_get hx), _, rfl, _, rfl, a, _, _, _, rfl, rfl, SqL.of ha1, at_of (j := i + 1) (by omega) (vz_get hy), _, _, rfl, ?_⟩
    refine ⟨_, h1, smallL ?_, ?_, keepNew S1 hD _⟩
    · rw [vz_length, VR.rds_length]
      simp
      omega
    · rw [upd_same, VR.rds_take hx hy, max_if, li_snoc]
  · rintro H1 ⟨h1, S1⟩
    rw [List.take_of_length_le (by omega)] at h1
    exact k D H1 S1 hD h1
end
end VP
end
noncomputable section
set_option Elab.async false
set_option linter.all false
set_option maxRecDepth 100000
namespace VP
open PySem PySem.Spec PyProof.Rows L2 VS VL
open Km457 (Valley Village)
section
variable {P : Program} {w : World} {K : PySem.W.Frag} {mg : Str → Option Value} {base : Heap}

theorem take_snoc {α : Type} {l : List α} {i : Nat} {x : α} (h : l[i]? = some x) : l.take (i + 1) = l.take i ++ [x] := by
  rw [List.take_add_one, h]
  rfl
def spLO (C : Addr) : Sp := fun vs H Q _ => ∃ (p a : Addr) (s : Valley) (cs l : List Nat), vs = [.ref p, .ref a] ∧ RAt C H p s cs ∧ H a = some (li l) ∧ (∀ x ∈ l, x < s.length) ∧ l.length ≤ 100000 ∧ ∀ H', Same H H' → Q (.int (((l.map (VR.ln s)).sum : Nat) : Int)) H'
theorem scLO : FnScope ["valley", "roads", "v"] ["valley", "roads"] (defScope s_length_of) := ⟨rfl, rfl, rfl, by decide +kernel, rfl, by decide +kernel, by decide +kernel⟩
theorem ok_length_of (T : Txt K mg) : FnOk P w K mg base CX0 1 T.length_of.f T.length_of.fd ["valley", "roads"] (spLO T.C) := by
  refine T.length_of.F.ok scLO (fun vs H Q E h => ?_) (fun cdv A outer s0 H vs Q E hr h => ?_)
  · obtain ⟨p, a, s, cs, l, rfl, _⟩ := h
    rfl
  obtain ⟨p, a, s, cs, l, rfl, R, ha, hl, hl2, k⟩ := h
  refine ⟨_, pss_one (ps_ret (pe_callB (call_sum rfl) rfl T.sum PyProof.Rows.boot_sum (pa_cons (pe_lc (own := [("v", 2)]) rfl scLO.nd (pi_list (pv 1)) (blkOk_by (N := ["valley", "roads", "v"]) (sc := defScope s_length_of) (by decide +kernel))
    (fun _ _ _ _ _ => pg_name (i := 2) scLO.nd rfl (Or.inl rfl)) (fun _ _ _ _ _ => pts_nil)
    (fun _ _ _ _ _ => pe_ix (ix_listK K rfl) (pe_fldK K rfl (pv 0) rfl) (pv 2) (fun _ _ => rfl))) pa_nil))), ?_⟩
  refine ⟨_, rfl, a, rfl, ⟨_, SqL.of ha⟩, fun D hD => ?_⟩
  refine lc_list (K := K) (xs := vz l) (fun i H' => H' D = some (li ((l.take i).map (VR.ln s))) ∧ Same H H') ⟨upd_same, same_new hD _⟩ (fun i H1 _ ⟨_, S1⟩ => SqL.of (S1 _ _ ha)) ?_ ?_
  · rintro i y H1 hi ⟨h1, S1⟩
    obtain ⟨x, hx, rfl⟩ := vz_get' hi
    have R1 := R.same S1
    obtain ⟨dx, fs, lu, ll, lc, g1, _, g3, _, _, g6, _⟩ := R1.ex
    have hxl := hl x (List.mem_of_getElem? hx)
    refine ⟨rfl, yes ?_⟩
    refine ⟨_, rfl, p, T.C, dx, fs, _, rfl, g1, T.cl, T.n_lengths, g3, _, rfl, ll, _, _, _, rfl, rfl, SqL.of g6, vz_at (ln_at hxl), _, h1, smallL ?_, ?_, keepNew S1 hD _⟩
    · rw [vz_length, List.length_map, List.length_take]
      omega
    · rw [upd_same, take_snoc hx, List.map_append, li_snoc]
      rfl
  · rintro H1 ⟨h1, S1⟩
    rw [vz_length, List.take_length] at h1
    refine ⟨D, _, rfl, SqL.of h1, ?_⟩
    rw [zs_sum]
    exact k H1 S1

theorem rds_lt {n : Nat} : ∀ {l : List Nat}, (∀ x ∈ l, x < n) → ∀ x ∈ VR.rds l, x < n
  | [], _, x, hx => by simp [VR.rds] at hx
  | [_], _, x, hx => by simp [VR.rds] at hx
  | v :: u :: l, h, x, hx => by
    rcases List.mem_cons.mp hx with rfl | hx
    · have h1 := h v (by simp)
      have h2 := h u (by simp)
      omega
    · exact rds_lt (l := u :: l) (fun y hy => h y (List.mem_cons_of_mem _ hy)) x hx
def spLA (C : Addr) : Sp := fun vs H Q _ => ∃ (p a : Addr) (s : Valley) (cs l : List Nat), vs = [.ref p, .ref a] ∧ RAt C H p s cs ∧ H a = some (li l) ∧ (∀ x ∈ l, x < s.length) ∧ 1 ≤ l.length ∧ l.length ≤ 100000 ∧ ∀ H', Same H H' → Q (.int ((((VR.rds l).map (VR.ln s)).sum : Nat) : Int)) H'
theorem scLA : FnScope ["valley", "passed"] ["valley", "passed"] (defScope s_length_along) := ⟨rfl, rfl, rfl, by decide +kernel, rfl, by decide +kernel, by decide +kernel⟩
theorem ok_length_along (T : Txt K mg) : FnOk P w K mg base CX0 2 T.length_along.f T.length_along.fd ["valley", "passed"] (spLA T.C) := by
  refine T.length_along.F.ok scLA (fun vs H Q E h => ?_) (fun cdv A outer s0 H vs Q E hr h => ?_)
  · obtain ⟨p, a, s, cs, l, rfl, _⟩ := h
    rfl
  obtain ⟨p, a, s, cs, l, rfl, R, ha, hl, hl1, hl2, k⟩ := h
  refine ⟨_, pss_one (ps_ret (pe_call (ok_length_of T) hr rfl T.length_of.m T.length_of.F.kp T.length_of.b .nil pass0 (pa_cons (pv 0) (pa_cons (pe_call (ok_roads_along T) hr rfl T.roads_along.m T.roads_along.F.kp T.roads_along.b .nil pass0 (pa_cons (pv 1) pa_nil)) pa_nil)))), ?_⟩
  refine ⟨_, rfl, _, rfl, a, l, rfl, ha, hl1, hl2, fun r H1 S1 hr0 h1 => ?_⟩
  refine ⟨p, r, s, cs, _, rfl, R.same S1, h1, rds_lt hl, by rw [VR.rds_length]; omega, fun H2 S2 => ?_⟩
  exact k H2 (S1.trans S2)

theorem bt_pos {s : Valley} (W : VR.WF s) {v u : Nat} (hv : v < s.length) (hu : u < s.length) : 1 ≤ (VR.bt s v u).length := by
  obtain ⟨z, e⟩ := VR.bt_head W v u hv hu
  rw [e]
  simp
def spFB (C : Addr) : Sp := fun vs H Q _ => ∃ (p : Addr) (s : Valley) (cs : List Nat) (v u : Nat), vs = [.ref p, .int (v : Int), .int (u : Int)] ∧ RAt C H p s cs ∧ v < s.length ∧ u < s.length ∧ ∀ H', Same H H' → Q (.int ((VR.far s v u : Nat) : Int)) H'
theorem scFB : FnScope ["valley", "v", "w"] ["valley", "v", "w"] (defScope s_far_between) := ⟨rfl, rfl, rfl, by decide +kernel, rfl, by decide +kernel, by decide +kernel⟩
theorem ok_far_between (T : Txt K mg) : FnOk P w K mg base CX0 3 T.far_between.f T.far_between.fd ["valley", "v", "w"] (spFB T.C) := by
  refine T.far_between.F.ok scFB (fun vs H Q E h => ?_) (fun cdv A outer s0 H vs Q E hr h => ?_)
  · obtain ⟨p, s, cs, v, u, rfl, _⟩ := h
    rfl
  obtain ⟨p, s, cs, v, u, rfl, R, hv, hu, k⟩ := h
  have hr1 : Room 1 _ := hr.mono (by decide)
  have W := R.wf
  have few := W.few
  refine ⟨_, pss_one (ps_ret (pe_call (ok_length_along T) hr rfl T.length_along.m T.length_along.F.kp T.length_along.b .nil pass0 (pa_cons (pv 0) (pa_cons (pe_call (ok_way_between T) hr1 rfl T.way_between.m T.way_between.F.kp T.way_between.b .nil pass0 (pa_cons (pv 0) (pa_cons (pv 1) (pa_cons (pv 2) pa_nil)))) pa_nil)))), ?_⟩
  refine ⟨_, rfl, _, rfl, _, rfl, _, rfl, p, s, cs, v, u, rfl, R, hv, hu, fun r H1 S1 hr1' h1 => ?_⟩
  have n3 := VR.bt_few W hv hu
  refine ⟨p, r, s, cs, _, rfl, R.same S1, h1, fun z hz => VR.bt_in W hv hu hz, bt_pos W hv hu, by omega, fun H2 S2 => ?_⟩
  rw [← VR.far_rds W v u hv hu]
  exact k H2 (S1.trans S2)

def cvs (s : Valley) (cs : List Nat) : List Nat := (List.range s.length).filter fun v => decide (v ∈ cs)
def spCV (C : Addr) : Sp := fun vs H Q _ => ∃ (p : Addr) (s : Valley) (cs : List Nat), vs = [.ref p] ∧ RAt C H p s cs ∧ outL H (cvs s cs) Q
theorem scCV : FnScope ["valley", "v"] ["valley"] (defScope s_called_villages) := ⟨rfl, rfl, rfl, by decide +kernel, rfl, by decide +kernel, by decide +kernel⟩
theorem ok_called_villages (T : Txt K mg) : FnOk P w K mg base CX0 2 T.called_villages.f T.called_villages.fd ["valley"] (spCV T.C) := by
  refine T.called_villages.F.ok scCV (fun vs H Q E h => ?_) (fun cdv A outer s0 H vs Q E hr h => ?_)
  · obtain ⟨p, s, cs, rfl, _⟩ := h
    rfl
  obtain ⟨p, s, cs, rfl, R, k⟩ := h
  refine ⟨_, pss_one (ps_ret (pe_lc (own := [("v", 1)]) rfl scCV.nd (pi_range1 rfl T.range (pa_cons (pe_meth0 (pv 0) T.cl T.size.m (ok_size T) hr T.size.b .nil pass0) pa_nil)) (blkOk_by (N := ["valley", "v"]) (sc := defScope s_called_villages) (by decide +kernel))
    (fun _ _ _ _ _ => pg_name (i := 1) scCV.nd rfl (Or.inl rfl)) (fun _ _ _ _ _ => pts_one (pt_cmpR op_eq (pe_ix (ix_listK K rfl) (pe_fldK K rfl (pv 0) rfl) (pv 1) (fun _ _ => rfl)) pe_int (nomark _)))
    (fun _ _ _ _ _ => pv 1))), ?_⟩
  obtain ⟨dx, fs, lu, ll, lc, g1, g2, g3, g4, g5, g6, g7, g8, g9⟩ := R.ex
  have few := R.wf.few
  refine ⟨_, rfl, p, dx, fs, rfl, g1, g8, p, s, cs, rfl, R, _, rfl, by omega, by omega, fun D hD => ?_⟩
  rw [show (((s.length : Nat) : Int)).toNat = s.length from rfl]
  refine lc_range (fun i H' => H' D = some (li ((List.range i).filter fun v => decide (v ∈ cs))) ∧ Same H H') ⟨upd_same, same_new hD _⟩ ?_ ?_
  · rintro i H1 hi ⟨h1, S1⟩
    have e0 : (0 : Int) + (i : Int) = (i : Int) := by omega
    rw [e0]
    refine ⟨rfl, ?_⟩
    refine ⟨_, rfl, p, T.C, dx, fs, _, rfl, S1 _ _ g1, T.cl, T.n_called, g4, _, rfl, lc, _, _, _, rfl, rfl, SqL.of (S1 _ _ g7), vz_at (called_at hi), rfl, _, rfl, ?_⟩
    by_cases hc : i ∈ cs
    · rw [if_pos hc]
      refine iteT ?_
      refine ⟨_, rfl, _, h1, smallL ?_, ?_, keepNew S1 hD _⟩
      · rw [vz_length]
        have := List.length_filter_le (fun v => decide (v ∈ cs)) (List.range i)
        rw [List.length_range] at this
        omega
      · rw [upd_same, li_snoc, List.range_succ, List.filter_append]
        simp [hc]
    · rw [if_neg hc]
      refine iteF ⟨?_, S1⟩
      rw [h1, List.range_succ, List.filter_append]
      simp [hc]
  · rintro H1 ⟨h1, S1⟩
    exact k D H1 S1 hD h1
end
end VP
end
noncomputable section
set_option Elab.async false
set_option linter.all false
set_option maxRecDepth 100000
namespace VP
open PySem PySem.Spec PyProof.Rows L2 VS VL
open Km457 (Valley Village)
section
variable {P : Program} {w : World} {K : PySem.W.Frag} {mg : Str → Option Value} {base : Heap}

theorem putD_nodup {D : List Int} {k : Int} (h : D.Nodup) : (putD D k).Nodup := by
  unfold putD
  split
  · exact h
  · rename_i hk
    refine List.nodup_append.mpr ⟨h, by simp, fun x hx y hy e => ?_⟩
    simp at hy
    subst hy e
    exact hk hx
theorem dd_nodupG : ∀ (ns D : List Int), D.Nodup → (ns.foldl putD D).Nodup
  | [], D, h => h
  | n :: ns, D, h => dd_nodupG ns _ (putD_nodup h)
theorem dd_nodup (ns : List Int) : (dd ns).Nodup := dd_nodupG ns [] List.nodup_nil
theorem mem_zs {l : List Nat} {z : Int} : z ∈ zs l ↔ ∃ x ∈ l, z = (x : Int) := by
  unfold zs
  rw [List.mem_map]
  constructor
  · rintro ⟨x, h, e⟩; exact ⟨x, h, e.symm⟩
  · rintro ⟨x, h, e⟩; exact ⟨x, h, e.symm⟩
theorem zs_nodup {l : List Nat} (h : l.Nodup) : (zs l).Nodup := by
  unfold zs
  refine List.Pairwise.map _ (fun a b hab => ?_) h
  omega
theorem zs_sorted {l : List Nat} (h : l.Pairwise (· < ·)) : (zs l).Pairwise (· < ·) := by
  unfold zs
  exact List.Pairwise.map _ (fun a b hab => by omega) h
/-- what sorted(set(xs)) gives: the strictly rising list of the same members -/
theorem sorted_is {L R : List Nat} {ns : List Int} (hp : ns.Perm (dd (zs L))) (hs : ns.Pairwise (· ≤ ·)) (hR : R.Pairwise (· < ·)) (hm : ∀ x, x ∈ R ↔ x ∈ L) : ns = zs R := by
  have nd : ns.Nodup := hp.nodup_iff.mpr (dd_nodup _)
  have ndR : (zs R).Nodup := zs_nodup (VR.nodup_of_lt hR)
  have hperm : ns.Perm (zs R) := (List.perm_ext_iff_of_nodup nd ndR).mpr fun z => by
    rw [hp.mem_iff, mem_dd, mem_zs, mem_zs]
    constructor
    · rintro ⟨x, h, e⟩; exact ⟨x, (hm x).mpr h, e⟩
    · rintro ⟨x, h, e⟩; exact ⟨x, (hm x).mp h, e⟩
  exact List.Perm.eq_of_pairwise (le := (· ≤ ·)) (fun a b _ _ h1 h2 => by omega) hs ((zs_sorted hR).imp fun h => by omega) hperm
theorem dd_few {L : List Nat} {n : Nat} (h : ∀ x ∈ L, x < n) : (dd (zs L)).length ≤ n := by
  have h1 : (dd (zs L)).length ≤ (zs (List.range n)).length := (dd_nodup _).length_le_of_subset fun z hz => by
    obtain ⟨x, hx, e⟩ := mem_zs.mp (mem_dd.mp hz)
    exact mem_zs.mpr ⟨x, List.mem_range.mpr (h x hx), e⟩
  rw [zs_length, List.length_range] at h1
  exact h1

theorem mem_cvs {s : Valley} {cs : List Nat} {v : Nat} : v ∈ cvs s cs ↔ v < s.length ∧ v ∈ cs := by
  unfold cvs
  rw [List.mem_filter, List.mem_range]
  simp
theorem cvs_len (s : Valley) (cs : List Nat) : (cvs s cs).length ≤ s.length := by
  have := List.length_filter_le (fun v => decide (v ∈ cs)) (List.range s.length)
  rw [List.length_range] at this
  exact this
/-- the roads on the ways to all that are called at, one behind another -/
def needL (s : Valley) (a : Nat) (L : List Nat) : List Nat := L.flatMap fun c => VR.rds (VR.bt s a c)
theorem needL_len {s : Valley} (W : VR.WF s) {a : Nat} (ha : a < s.length) : ∀ {L : List Nat}, (∀ c ∈ L, c < s.length) → (needL s a L).length ≤ 14 * L.length
  | [], _ => by simp [needL]
  | c :: L, h => by
    have ih := needL_len W ha (L := L) fun x hx => h x (List.mem_cons_of_mem _ hx)
    unfold needL at ih ⊢
    have h1 := VR.bt_few W ha (h c (by simp))
    have few := W.few
    rw [List.flatMap_cons, List.length_append, VR.rds_length, List.length_cons]
    omega
theorem needL_lt {s : Valley} (W : VR.WF s) {a : Nat} (ha : a < s.length) {L : List Nat} (h : ∀ c ∈ L, c < s.length) : ∀ x ∈ needL s a L, x < s.length := by
  intro x hx
  obtain ⟨c, hc, hx⟩ := List.mem_flatMap.mp hx
  exact rds_lt (fun y hy => VR.bt_in W ha (h c hc) hy) x hx
theorem flat_snoc {α β : Type} (f : α → List β) (l : List α) (x : α) : (l ++ [x]).flatMap f = l.flatMap f ++ f x := by simp
def spRN (C : Addr) : Sp := fun vs H Q _ => ∃ (p : Addr) (s : Valley) (cs : List Nat) (a : Nat), vs = [.ref p, .int (a : Int)] ∧ RAt C H p s cs ∧ a < s.length ∧ outL H (Km460.roads s a cs) Q
theorem scRN : FnScope ["valley", "a", "needed", "v"] ["valley", "a"] (defScope s_roads_needed) := ⟨rfl, rfl, rfl, by decide +kernel, rfl, by decide +kernel, by decide +kernel⟩
theorem ok_roads_needed (T : Txt K mg) : FnOk P w K mg base CX0 3 T.roads_needed.f T.roads_needed.fd ["valley", "a"] (spRN T.C) := by
  refine T.roads_needed.F.ok scRN (fun vs H Q E h => ?_) (fun cdv A outer s0 H vs Q E hr h => ?_)
  · obtain ⟨p, s, cs, a, rfl, _⟩ := h
    rfl
  obtain ⟨p, s, cs, a, rfl, R, ha, k⟩ := h
  have hr1 : Room 1 _ := hr.mono (by decide)
  have W := R.wf
  have few := W.few
  refine ⟨_, pss_cons (ps_set (i := 2) scRN.nd rfl (Or.inl rfl) (pe_lst pa_nil))
    (pss_cons (ps_for PassesOwn.never rfl (pi_list (pe_call (ok_called_villages T) hr rfl T.called_villages.m T.called_villages.F.kp T.called_villages.b .nil pass0 (pa_cons (pv 0) pa_nil))) (pg_name (i := 3) scRN.nd rfl (Or.inl rfl))
      (pss_one (ps_expr (pe_bm PySem.F.plainAttrs_list PySem.F.slot_list_extend PySem.F.type_list_extend mt_extend (pv 2) (pa_cons (pe_call (ok_roads_along T) hr1 rfl T.roads_along.m T.roads_along.F.kp T.roads_along.b .nil pass0
        (pa_cons (pe_call (ok_way_between T) hr1 rfl T.way_between.m T.way_between.F.kp T.way_between.b .nil pass0 (pa_cons (pv 0) (pa_cons (pv 1) (pa_cons (pv 3) pa_nil)))) pa_nil)) pa_nil)))))
    (pss_one (ps_ret (pe_callB (call_sorted_set rfl) rfl T.sorted PyProof.Rows.boot_sorted (pa_cons (pe_callTy (call_set rfl) rfl T.set PyProof.Rows.boot_set (pa_cons (pv 2) pa_nil)) pa_nil))))), ?_⟩
  refine ⟨small (by show 0 ≤ 4000000; decide), fun ln hln => ?_⟩
  have S0 : Same H (upd H ln (.lst [])) := same_new hln _
  refine ⟨_, rfl, p, s, cs, rfl, R.same S0, fun cv H1 S1 hcv h1 => ?_⟩
  have hcv0 : H cv = none := S0.free hcv
  have hlc : ln ≠ cv := ne_of_none upd_same hcv
  refine ⟨cv, rfl, ⟨_, SqL.of h1⟩, for_list (K := K) (a := cv) (xs := vz (cvs s cs)) (fun i σ H' => ∃ v3 : Option V, σ = [some (.ref p), some (.int (a : Int)), some (.ref ln), v3] ∧ Same H H' ∧ H' cv = some (li (cvs s cs)) ∧ H' ln = some (li (needL s a ((cvs s cs).take i))))
    ⟨none, rfl, S0.trans S1, h1, S1 _ _ upd_same⟩ (fun i σ H' _ ⟨_, _, _, q, _⟩ => SqL.of q) ?_ ?_⟩
  · rintro i y σ H2 hi ⟨v3, rfl, S2, q1, q2⟩
    obtain ⟨c, hc, rfl⟩ := vz_get' hi
    have hcm := mem_cvs.mp (List.mem_of_getElem? hc)
    refine ⟨_, rfl, .inl ⟨rfl, _, SqL.of q2⟩, _, rfl, _, rfl, _, rfl, p, s, cs, a, c, rfl, R.same S2, ha, hcm.1, fun r H3 S3 hr3 h3 => ?_⟩
    refine ⟨r, _, rfl, h3, ?_, ?_, fun t H4 S4 ht4 h4 => ?_⟩
    · obtain ⟨z, e⟩ := VR.bt_head W a c ha hcm.1
      rw [e]
      simp
    · have := VR.bt_few W ha hcm.1
      omega
    have hc2 : ∀ c ∈ (cvs s cs).take i, c < s.length := fun x hx => (mem_cvs.mp (List.mem_of_mem_take hx)).1
    have n1 := needL_len W ha hc2
    have n2 : ((cvs s cs).take i).length ≤ 14 := by
      have := cvs_len s cs
      rw [List.length_take]
      omega
    have n3 := VR.bt_few W ha hcm.1
    have S34 : Same H2 H4 := S3.trans S4
    have hlt : ln ≠ t := ne_of_none (S3 _ _ q2) ht4
    refine ⟨ln, t, _, _, rfl, rfl, S34 _ _ q2, h4, small ?_, _, rfl, keepNew (S2.trans S34) hln _, ?_, ?_⟩
    · rw [vz_length, vz_length, VR.rds_length]
      omega
    · rw [upd_ne (fun z => hlc z.symm)]
      exact S34 _ _ q1
    · rw [upd_same, take_snoc hc]
      show some (HO.lst _) = some (HO.lst _)
      rw [← vz_append]
      unfold needL
      rw [flat_snoc]
  · rintro σ H2 ⟨v3, rfl, S2, q1, q2⟩
    rw [vz_length, List.take_length] at q2
    have hc2 : ∀ c ∈ cvs s cs, c < s.length := fun x hx => (mem_cvs.mp hx).1
    have n1 := needL_len W ha hc2
    have n2 := cvs_len s cs
    refine ⟨_, rfl, ln, _, rfl, SqL.of q2, ?_, fun st hst => ?_⟩
    · rw [zs_length]
      unfold scanBound
      omega
    refine ⟨st, _, rfl, upd_same, ?_, fun l ns hl hp _ hs => ?_⟩
    · have := dd_few (needL_lt W ha hc2)
      omega
    have e := sorted_is hp hs (VR.roads_sorted (s := s) (a := a) (l := cs)) fun x => by
      rw [VR.mem_roads' W ha R.cs_lt]
      unfold needL
      rw [List.mem_flatMap]
      constructor
      · rintro ⟨c, hc, hx⟩; exact ⟨c, mem_cvs.mpr ⟨R.cs_lt c hc, hc⟩, hx⟩
      · rintro ⟨c, hc, hx⟩; exact ⟨c, (mem_cvs.mp hc).2, hx⟩
    subst e
    have S3 := fun (o : HO) => S2.trans (same_new hst o)
    have hl0 : H l = none := (S3 _).free hl
    exact k l _ (keepNew (S3 _) hl0 _) hl0 upd_same
end
end VP
end
noncomputable section
set_option Elab.async false
set_option linter.all false
set_option maxRecDepth 100000
namespace VP
open PySem PySem.Spec PyProof.Rows L2 VS VL
open Km457 (Valley Village)
section
variable {P : Program} {w : World} {K : PySem.W.Frag} {mg : Str → Option Value} {base : Heap}

/-- how the program looks for the farthest -/
def fstep (s : Valley) (a : Nat) : Nat × Nat → Nat → Nat × Nat := fun p v => if p.2 < VR.far s a v then (v, VR.far s a v) else p
theorem cvs_eq (s : Valley) (cs : List Nat) : cvs s cs = (Km457.all s).filter fun v => cs.contains v := by
  unfold cvs Km457.all
  refine List.filter_congr fun x _ => ?_
  rw [Bool.eq_iff_iff]
  simp
theorem fstep_all {s : Valley} (W : VR.WF s) {a : Nat} (ha : a < s.length) (cs : List Nat) : ((cvs s cs).foldl (fstep s a) (a, 0)).1 = Km460.farthest s a cs := by
  have h := VR.farthest_fold W (l := cs) ha 0 (Km457.all s) a
  rw [VR.far_self W ha] at h
  rw [cvs_eq]
  exact congrArg Prod.fst h
def spFF (C : Addr) : Sp := fun vs H Q _ => ∃ (p : Addr) (s : Valley) (cs : List Nat) (a : Nat), vs = [.ref p, .int (a : Int)] ∧ RAt C H p s cs ∧ a < s.length ∧ ∀ H', Same H H' → Q (.int ((Km460.farthest s a cs : Nat) : Int)) H'
theorem scFF : FnScope ["valley", "a", "best", "best_far", "v", "far"] ["valley", "a"] (defScope s_farthest_from) := ⟨rfl, rfl, rfl, by decide +kernel, rfl, by decide +kernel, by decide +kernel⟩
theorem ok_farthest_from (T : Txt K mg) : FnOk P w K mg base CX0 4 T.farthest_from.f T.farthest_from.fd ["valley", "a"] (spFF T.C) := by
  refine T.farthest_from.F.ok scFF (fun vs H Q E h => ?_) (fun cdv A outer s0 H vs Q E hr h => ?_)
  · obtain ⟨p, s, cs, a, rfl, _⟩ := h
    rfl
  obtain ⟨p, s, cs, a, rfl, R, ha, k⟩ := h
  have hr2 : Room 2 _ := hr.mono (by decide)
  have W := R.wf
  have few := W.few
  refine ⟨_, pss_cons (ps_set (i := 2) scFF.nd rfl (Or.inl rfl) (pv 1)) (pss_cons (ps_set (i := 3) scFF.nd rfl (Or.inl rfl) pe_int)
    (pss_cons (ps_for PassesOwn.never rfl (pi_list (pe_call (ok_called_villages T) hr2 rfl T.called_villages.m T.called_villages.F.kp T.called_villages.b .nil pass0 (pa_cons (pv 0) pa_nil))) (pg_name (i := 4) scFF.nd rfl (Or.inl rfl))
      (pss_cons (ps_set (i := 5) scFF.nd rfl (Or.inl rfl) (pe_call (ok_far_between T) hr rfl T.far_between.m T.far_between.F.kp T.far_between.b .nil pass0 (pa_cons (pv 0) (pa_cons (pv 1) (pa_cons (pv 4) pa_nil)))))
      (pss_one (ps_if (pt_cmpR op_gt (pv 5) (pv 3) (nomark _)) (pss_cons (ps_set (i := 2) scFF.nd rfl (Or.inl rfl) (pv 4)) (pss_one (ps_set (i := 3) scFF.nd rfl (Or.inl rfl) (pv 5)))) pss_nil))))
    (pss_one (ps_ret (pv 2))))), ?_⟩
  refine ⟨_, rfl, _, rfl, p, s, cs, rfl, R, fun cv H1 S1 hcv h1 => ?_⟩
  refine ⟨cv, rfl, ⟨_, SqL.of h1⟩, for_list (K := K) (a := cv) (xs := vz (cvs s cs)) (fun i σ H' => ∃ (b : Nat × Nat) (v4 v5 : Option V), ((cvs s cs).take i).foldl (fstep s a) (a, 0) = b ∧ σ = [some (.ref p), some (.int (a : Int)), some (.int (b.1 : Int)), some (.int (b.2 : Int)), v4, v5] ∧ Same H H' ∧ H' cv = some (li (cvs s cs)))
    ⟨(a, 0), none, none, rfl, rfl, S1, h1⟩ (fun i σ H' _ ⟨_, _, _, _, _, _, q⟩ => SqL.of q) ?_ ?_⟩
  · rintro i y σ H2 hi ⟨b, v4, v5, eb, rfl, S2, q1⟩
    obtain ⟨c, hc, rfl⟩ := vz_get' hi
    have hcm := mem_cvs.mp (List.mem_of_getElem? hc)
    refine ⟨_, rfl, _, rfl, _, rfl, p, s, cs, a, c, rfl, R.same S2, ha, hcm.1, fun H4 S4 => ?_⟩
    refine ⟨_, rfl, _, rfl, _, _, rfl, rfl, _, rfl, ?_⟩
    have S5 : Same H H4 := S2.trans S4
    have q5 := S4 _ _ q1
    have ef : ((cvs s cs).take (i + 1)).foldl (fstep s a) (a, 0) = fstep s a b c := by rw [take_snoc hc, List.foldl_append, eb]; rfl
    refine ite2 (fun z => ?_) (fun z => ?_)
    · have hlt : b.2 < VR.far s a c := by have := of_decide_eq_true z; omega
      refine ⟨_, rfl, _, rfl, (c, VR.far s a c), _, _, ?_, rfl, S5, q5⟩
      rw [ef]
      unfold fstep
      rw [if_pos hlt]
    · have hlt : ¬ b.2 < VR.far s a c := by have := of_decide_eq_false (Bool.eq_false_iff.mpr z); omega
      refine ⟨b, _, _, ?_, rfl, S5, q5⟩
      rw [ef]
      unfold fstep
      rw [if_neg hlt]
  · rintro σ H2 ⟨b, v4, v5, eb, rfl, S2, q1⟩
    rw [vz_length, List.take_length] at eb
    have e := fstep_all W ha cs
    rw [eb] at e
    refine ⟨_, rfl, ?_⟩
    show Q (.int (b.1 : Int)) H2
    rw [e]
    exact k H2 S2

def spBB (C : Addr) : Sp := fun vs H Q _ => ∃ (p ln : Addr) (s : Valley) (cs r : List Nat) (v : Nat), vs = [.ref p, .ref ln, .int (v : Int)] ∧ RAt C H p s cs ∧ v < s.length ∧ H ln = some (li r) ∧ r.Pairwise (· < ·) ∧ (∀ x ∈ r, x ≠ 0 ∧ x < s.length) ∧ outL H (Km460.nexts s r v) Q
theorem scBB : FnScope ["valley", "needed", "v", "below", "w"] ["valley", "needed", "v"] (defScope s_beside_by) := ⟨rfl, rfl, rfl, by decide +kernel, rfl, by decide +kernel, by decide +kernel⟩
theorem ok_beside_by (T : Txt K mg) : FnOk P w K mg base CX0 1 T.beside_by.f T.beside_by.fd ["valley", "needed", "v"] (spBB T.C) := by
  refine T.beside_by.F.ok scBB (fun vs H Q E h => ?_) (fun cdv A outer s0 H vs Q E hr h => ?_)
  · obtain ⟨p, ln, s, cs, r, v, rfl, _⟩ := h
    rfl
  obtain ⟨p, ln, s, cs, r, v, rfl, R, hv, hn, hs, hr0, k⟩ := h
  have W := R.wf
  have few := W.few
  have hlen : r.length ≤ s.length := by
    have := VR.nodup_len W s.length r (VR.nodup_of_lt hs) fun x hx => (hr0 x hx).2
    exact this
  refine ⟨_, pss_cons (ps_setLc (i := 3) (own := [("w", 4)]) rfl scBB.nd rfl rfl (sw_true rfl rfl rfl rfl) (pi_list (pv 1)) (blkOk_by (N := ["valley", "needed", "v", "below", "w"]) (sc := defScope s_beside_by) (by decide +kernel))
    (fun _ _ _ _ _ => pg_name (i := 4) scBB.nd rfl (Or.inl rfl)) (fun _ _ _ _ _ => pts_one (pt_cmpR op_eq (pe_ix (ix_listK K rfl) (pe_fldK K rfl (pv 0) rfl) (pv 4) (fun _ _ => rfl)) (pv 2) (nomark _)))
    (fun _ _ _ _ _ => pv 4))
    (pss_cons (ps_if (pt_cmpR op_in_seq (pv 2) (pv 1) (by with_unfolding_all rfl)) (pss_one (ps_ret (pe_op op_cat (pe_lst (pa_cons (pe_ix ix_list (pe_fld (pv 0) rfl) (pv 2) (fun _ _ => rfl)) pa_nil)) (pv 3)))) pss_nil)
    (pss_one (ps_ret (pv 3)))), ?_⟩
  refine ⟨_, rfl, ln, rfl, ⟨_, SqL.of hn⟩, fun D hD => ?_⟩
  refine lc_list (K := K) (xs := vz r) (fun i H' => H' D = some (li ((r.take i).filter fun x => VR.up s x == v)) ∧ Same H H') ⟨upd_same, same_new hD _⟩ (fun i H1 _ ⟨_, S1⟩ => SqL.of (S1 _ _ hn)) ?_ ?_
  · rintro i y H1 hi ⟨h1, S1⟩
    obtain ⟨x, hx, rfl⟩ := vz_get' hi
    obtain ⟨dx, fs, lu, ll, lc, g1, g2, _, _, g5, _⟩ := (R.same S1).ex
    have hxl := (hr0 x (List.mem_of_getElem? hx)).2
    refine ⟨rfl, ?_⟩
    refine ⟨_, rfl, p, T.C, dx, fs, _, rfl, g1, T.cl, T.n_ups, g2, _, rfl, lu, _, _, _, rfl, rfl, SqL.of g5, vz_at (up_at hxl), _, rfl, rfl, _, rfl, ?_⟩
    refine ite2 (fun z => ?_) (fun z => ?_)
    · have e : VR.up s x = v := by
        have := of_decide_eq_true z
        injection this with this
        omega
      refine ⟨_, rfl, _, h1, smallL ?_, ?_, keepNew S1 hD _⟩
      · rw [vz_length]
        have := List.length_filter_le (fun x => VR.up s x == v) (r.take i)
        rw [List.length_take] at this
        omega
      · rw [upd_same, li_snoc, take_snoc hx, List.filter_append]
        simp [e]
    · have e : ¬ VR.up s x = v := fun q => z (by rw [q]; simp)
      refine ⟨?_, S1⟩
      rw [h1, take_snoc hx, List.filter_append]
      simp [e]
  · rintro H1 ⟨h1, S1⟩
    rw [vz_length, List.take_length] at h1
    have eN := VR.beside_eq W hv hs hr0
    refine ⟨_, rfl, _, rfl, ln, _, rfl, .inl (SqL.of (S1 _ _ hn)), rfl, vz_flat _, _, rfl, ?_⟩
    have ein : (if false = true then !inV (V.int (v : Int)) (vz r) else inV (V.int (v : Int)) (vz r)) = decide (v ∈ r) := by
      rw [if_neg Bool.false_ne_true, vz_in]
    show (if (if false = true then !inV (V.int (v : Int)) (vz r) else inV (V.int (v : Int)) (vz r)) = true then _ else _)
    rw [ein]
    refine ite2 (fun z => ?_) (fun z => ?_)
    · have hm : v ∈ r := of_decide_eq_true z
      rw [if_pos hm] at eN
      obtain ⟨dx, fs, lu, ll, lc, g1, g2, _, _, g5, _⟩ := (R.same S1).ex
      refine ⟨_, rfl, p, T.C, dx, fs, _, rfl, g1, T.cl, T.n_ups, g2, _, rfl, lu, _, _, _, rfl, rfl, SqL.of g5, vz_at (up_at hv), small (by show 1 ≤ 4000000; decide), fun l1 hl1 => ?_⟩
      have hne : D ≠ l1 := ne_of_none h1 hl1
      refine ⟨_, rfl, l1, D, _, _, rfl, rfl, upd_same, (by rw [upd_ne hne]; exact h1), ?_, fun l2 hl2 => ?_⟩
      · rw [vz_length]
        have := List.length_filter_le (fun x => VR.up s x == v) r
        refine small ?_
        show 1 + _ ≤ _
        omega
      · have S2 : Same H (upd H1 l1 (.lst [.int ((VR.up s v : Nat) : Int)])) := S1.trans (same_new hl1 _)
        have hl20 : H l2 = none := S2.free hl2
        refine k l2 _ (keepNew S2 hl20 _) hl20 ?_
        rw [upd_same, eN]
        rfl
    · have hm : v ∉ r := fun q => z (decide_eq_true q)
      rw [if_neg hm] at eN
      refine ⟨_, rfl, ?_⟩
      refine k D H1 S1 hD ?_
      rw [h1, eN]
      rfl
end
end VP
end
noncomputable section
set_option Elab.async false
set_option linter.all false
set_option maxRecDepth 100000
namespace VP
open PySem PySem.Spec PyProof.Rows L2 VS VL
open Km457 (Valley Village)
open Km460 (nexts roads tourGo)

/-! how long a tour is, at most -/
theorem tour_len {s : Valley} {r e : List Nat} : ∀ (f from_ v : Nat), (tourGo s r e f from_ v).length = 2 * (VR.rdsGo s r e f from_ v).length := by
  intro f
  induction f with
  | zero => intro from_ v; rfl
  | succ f ih =>
    intro from_ v
    rw [VR.tour_succ]
    show _ = 2 * ((VR.ord s r e from_ v).flatMap fun u => max v u :: VR.rdsGo s r e f v u).length
    induction VR.ord s r e from_ v with
    | nil => rfl
    | cons x l ihl =>
      rw [List.flatMap_cons, List.flatMap_cons, List.length_append, List.length_append, ihl]
      simp only [List.length_append, List.length_cons, List.length_nil]
      rw [ih v x]
      omega
theorem tour_short {s : Valley} (W : VR.WF s) {r e : List Nat} {a : Nat} (ha : a < s.length) (hr : ∀ x ∈ r, x < s.length) (f from_ v : Nat) (hv : v < s.length) (hc : VR.Came s a from_ v) : (tourGo s r e f from_ v).length ≤ 28 := by
  have few := W.few
  have h1 := VR.nodup_len W s.length _ (VR.rdsGo_nodup W (r := r) (e := e) ha f from_ v hv hc) fun x hx => hr x (VR.rdsGo_mem W ha f from_ v hv hc x hx).1
  rw [tour_len]
  omega
theorem flat_len {f : Nat → List Nat} {b : Nat} : ∀ {l : List Nat}, (∀ x ∈ l, (f x).length ≤ b) → (l.flatMap f).length ≤ b * l.length
  | [], _ => by simp
  | x :: l, h => by
    have h1 := h x (by simp)
    have h2 := flat_len (l := l) fun y hy => h y (List.mem_cons_of_mem _ hy)
    rw [List.flatMap_cons, List.length_append, List.length_cons, Nat.mul_add]
    omega
/-- from v on to all beside it that are not skipped one goes away from a -/
def Away (s : Valley) (a : Nat) (r skip : List Nat) (v : Nat) : Prop := ∀ u ∈ nexts s r v, u ∉ skip → VR.bt s a u = VR.bt s a v ++ [u]
theorem away_next {s : Valley} (W : VR.WF s) {a v u : Nat} {r : List Nat} (ha : a < s.length) (hv : v < s.length) (hu : u < s.length) (e : VR.bt s a u = VR.bt s a v ++ [u]) : Away s a r [v] u := by
  intro x hx hn
  exact VR.came_next W ha hu (VR.mem_nexts.mp hx).1 (.inr ⟨hv, e⟩) (VR.nexts_adj hx) (by simpa using hn)
theorem trips_fuel {s : Valley} (W : VR.WF s) {a v : Nat} {r skip : List Nat} (ha : a < s.length) (hv : v < s.length) (hgo : Away s a r skip v) {f g : Nat} (hf : s.length ≤ f + (VR.bt s a v).length) (hg : s.length ≤ g + (VR.bt s a v).length) :
    VR.trips s r (f + 1) skip v = VR.trips s r (g + 1) skip v := by
  show v :: ((nexts s r v).filter fun u => !skip.contains u).flatMap (fun u => VR.trips s r f [v] u ++ [v]) = v :: ((nexts s r v).filter fun u => !skip.contains u).flatMap (fun u => VR.trips s r g [v] u ++ [v])
  congr 1
  refine VR.flatMap_congr' fun u hu => ?_
  obtain ⟨h1, h2⟩ := List.mem_filter.mp hu
  have hus := (VR.mem_nexts.mp h1).1
  have e := hgo u h1 (by simpa using h2)
  have l1 := congrArg List.length e
  simp at l1
  rw [VR.trips_tour, VR.trips_tour, VR.tour_fuel W ha f g v u hus (.inr ⟨hv, e⟩) (by omega) (by omega)]
theorem trips_short {s : Valley} (W : VR.WF s) {a v : Nat} {r skip : List Nat} (ha : a < s.length) (hv : v < s.length) (hr : ∀ x ∈ r, x < s.length) (hgo : Away s a r skip v) (f : Nat) (L : List Nat) (hL : ∀ u ∈ L, u ∈ nexts s r v ∧ u ∉ skip) (hl : L.length ≤ 14) :
    (L.flatMap fun u => VR.trips s r f [v] u ++ [v]).length ≤ 420 := by
  have h := flat_len (f := fun u => VR.trips s r f [v] u ++ [v]) (b := 30) (l := L) fun u hu => by
    obtain ⟨h1, h2⟩ := hL u hu
    have := tour_short W (e := []) ha hr f v u (VR.mem_nexts.mp h1).1 (.inr ⟨hv, hgo u h1 h2⟩)
    rw [VR.trips_tour]
    simp
    omega
  omega
theorem nexts_len {s : Valley} (r : List Nat) (v : Nat) : (nexts s r v).length ≤ s.length := by
  unfold Km460.nexts Km457.all
  have := List.length_filter_le (fun u => (r.contains u && (Km457.at_ s u).up == v && u != 0) || (r.contains v && (Km457.at_ s v).up == u && v != 0)) (List.range s.length)
  rw [List.length_range] at this
  exact this
section
variable {P : Program} {w : World} {K : PySem.W.Frag} {mg : Str → Option Value} {base : Heap}
def spTF (C : Addr) (n : Nat) : Sp := fun vs H Q _ => ∃ (p ln lk : Addr) (s : Valley) (cs r skip : List Nat) (v a : Nat), vs = [.ref p, .ref ln, .int (v : Int), .ref lk] ∧ RAt C H p s cs ∧ H ln = some (li r) ∧ r.Pairwise (· < ·) ∧ (∀ x ∈ r, x ≠ 0 ∧ x < s.length) ∧ H lk = some (li skip) ∧
  v < s.length ∧ a < s.length ∧ Away s a r skip v ∧ s.length + 1 ≤ n + (VR.bt s a v).length ∧ outL H (VR.trips s r n skip v) Q
theorem scTF : FnScope ["valley", "needed", "v", "skipped", "passed", "w"] ["valley", "needed", "v", "skipped"] (defScope s_trips_from) := ⟨rfl, rfl, rfl, by decide +kernel, rfl, by decide +kernel, by decide +kernel⟩
theorem ok_trips (T : Txt K mg) {n : Nat} (G : FnOk P w K mg base CX0 (n + 1) T.trips_from.f T.trips_from.fd ["valley", "needed", "v", "skipped"] (spTF T.C n)) :
    FnOk P w K mg base CX0 (n + 2) T.trips_from.f T.trips_from.fd ["valley", "needed", "v", "skipped"] (spTF T.C (n + 1)) := by
  refine T.trips_from.F.ok scTF (fun vs H Q E h => ?_) (fun cdv A outer s0 H vs Q E hr h => ?_)
  · obtain ⟨p, ln, lk, s, cs, r, skip, v, a, rfl, _⟩ := h
    rfl
  obtain ⟨p, ln, lk, s, cs, r, skip, v, a, rfl, R, hn, hs, hr0, hk, hv, ha, hgo, hroom, k⟩ := h
  have hr1 : Room 1 _ := hr.mono (by omega)
  have W := R.wf
  have few := W.few
  refine ⟨_, pss_cons (ps_set (i := 4) scTF.nd rfl (Or.inl rfl) (pe_lst (pa_cons (pv 2) pa_nil)))
    (pss_cons (ps_for PassesOwn.never rfl (pi_list (pe_call (ok_beside_by T) hr1 rfl T.beside_by.m T.beside_by.F.kp T.beside_by.b .nil pass0 (pa_cons (pv 0) (pa_cons (pv 1) (pa_cons (pv 2) pa_nil))))) (pg_name (i := 5) scTF.nd rfl (Or.inl rfl))
      (pss_one (ps_if (pt_cmpR op_notIn_seq (pv 5) (pv 3) (by with_unfolding_all rfl))
        (pss_cons (ps_expr (pe_bm PySem.F.plainAttrs_list PySem.F.slot_list_extend PySem.F.type_list_extend mt_extend (pv 4) (pa_cons (pe_call G hr rfl T.trips_from.m T.trips_from.F.kp T.trips_from.b .nil pass0 (pa_cons (pv 0) (pa_cons (pv 1) (pa_cons (pv 5) (pa_cons (pe_lst (pa_cons (pv 2) pa_nil)) pa_nil))))) pa_nil)))
        (pss_one (ps_expr (pe_bm PySem.F.plainAttrs_list PySem.F.slot_list_append PySem.F.type_list_append mt_append (pv 4) (pa_cons (pv 2) pa_nil))))) pss_nil)))
    (pss_one (ps_ret (pv 4)))), ?_⟩
  refine ⟨_, rfl, small (by show 1 ≤ 4000000; decide), fun lp hlp => ?_⟩
  have S0 : Same H (upd H lp (.lst [.int (v : Int)])) := same_new hlp _
  refine ⟨_, rfl, _, rfl, _, rfl, p, ln, s, cs, r, v, rfl, R.same S0, hv, S0 _ _ hn, hs, hr0, fun bb H1 S1 hbb h1 => ?_⟩
  have hpb : lp ≠ bb := ne_of_none upd_same hbb
  refine ⟨bb, rfl, ⟨_, SqL.of h1⟩, for_list (K := K) (a := bb) (xs := vz (nexts s r v)) (fun i σ H' => ∃ v5 : Option V, σ = [some (.ref p), some (.ref ln), some (.int (v : Int)), some (.ref lk), some (.ref lp), v5] ∧ Same H H' ∧ H' bb = some (li (nexts s r v)) ∧
      H' lp = some (li (v :: (((nexts s r v).take i).filter fun u => !skip.contains u).flatMap fun u => VR.trips s r n [v] u ++ [v])))
    ⟨none, rfl, S0.trans S1, h1, S1 _ _ upd_same⟩ (fun i σ H' _ ⟨_, _, _, q, _⟩ => SqL.of q) ?_ ?_⟩
  · rintro i y σ H2 hi ⟨v5, rfl, S2, q1, q2⟩
    obtain ⟨u, hu, rfl⟩ := vz_get' hi
    have hum := List.mem_of_getElem? hu
    have hus := (VR.mem_nexts.mp hum).1
    refine ⟨_, rfl, _, rfl, lk, _, rfl, .inl (SqL.of (S2 _ _ hk)), rfl, vz_flat _, _, rfl, ?_⟩
    have ein : (if true = true then !inV (V.int (u : Int)) (vz skip) else inV (V.int (u : Int)) (vz skip)) = !decide (u ∈ skip) := by
      rw [if_pos rfl, vz_in]
    show (if (if true = true then !inV (V.int (u : Int)) (vz skip) else inV (V.int (u : Int)) (vz skip)) = true then _ else _)
    rw [ein]
    have short : ∀ j, ((((nexts s r v).take j).filter fun u => !skip.contains u).flatMap fun u => VR.trips s r n [v] u ++ [v]).length ≤ 420 := fun j => by
      refine trips_short W ha hv (fun x hx => (hr0 x hx).2) hgo n _ (fun x hx => ?_) ?_
      · obtain ⟨z1, z2⟩ := List.mem_filter.mp hx
        exact ⟨List.mem_of_mem_take z1, by simpa using z2⟩
      · have z1 := List.length_filter_le (fun u => !skip.contains u) ((nexts s r v).take j)
        have z2 := nexts_len (s := s) r v
        rw [List.length_take] at z1
        omega
    refine ite2 (fun z => ?_) (fun z => ?_)
    · have hns : u ∉ skip := by simpa using z
      have ebt := hgo u hum hns
      have lbt := congrArg List.length ebt
      simp at lbt
      refine ⟨_, rfl, .inl ⟨rfl, _, SqL.of q2⟩, _, rfl, _, rfl, _, rfl, _, rfl, small (by show 1 ≤ 4000000; decide), fun l1 hl1 => ?_⟩
      have S3 : Same H2 (upd H2 l1 (.lst [.int (v : Int)])) := same_new hl1 _
      refine ⟨p, ln, l1, s, cs, r, [v], u, a, rfl, (R.same S2).same S3, S3 _ _ (S2 _ _ hn), hs, hr0, upd_same, hus, ha, away_next W ha hv hus ebt, by omega, fun t H4 S4 ht4 h4 => ?_⟩
      have S5 : Same H2 H4 := S3.trans S4
      have hpt : lp ≠ t := ne_of_none (S3 _ _ q2) ht4
      have sh1 := tour_short W (e := []) (r := r) ha (fun x hx => (hr0 x hx).2) n v u hus (.inr ⟨hv, ebt⟩)
      have sh2 := short i
      have elen : (VR.trips s r n [v] u).length ≤ 30 := by rw [VR.trips_tour]; simp; omega
      refine ⟨lp, t, _, _, rfl, rfl, S5 _ _ q2, h4, small ?_, ?_⟩
      · rw [vz_length, vz_length, List.length_cons]
        omega
      refine ⟨_, rfl, .inl ⟨rfl, _, SqL.of upd_same⟩, _, rfl, lp, _, _, rfl, rfl, upd_same, smallL ?_, ?_⟩
      · rw [List.length_append, vz_length, vz_length, List.length_cons]
        omega
      · refine ⟨_, rfl, keepNew (keepNew (S2.trans S5) hlp _) hlp _, ?_, ?_⟩
        · rw [upd_ne (fun z => hpb z.symm), upd_ne (fun z => hpb z.symm)]
          exact S5 _ _ q1
        · rw [upd_same, take_snoc hu, List.filter_append, List.flatMap_append]
          have e1 : ([u].filter fun u => !skip.contains u) = [u] := by simp [hns]
          rw [e1, ← vz_append, li_snoc]
          simp
    · have hns : u ∈ skip := by
        by_cases q : u ∈ skip
        · exact q
        · exact absurd (by simpa using q) z
      refine ⟨_, rfl, S2, q1, ?_⟩
      have e1 : ([u].filter fun u => !skip.contains u) = [] := by simp [hns]
      rw [q2, take_snoc hu, List.filter_append, e1, List.append_nil]
  · rintro σ H2 ⟨v5, rfl, S2, q1, q2⟩
    rw [vz_length, List.take_length] at q2
    exact ⟨_, rfl, k lp H2 S2 hlp q2⟩
theorem trips_none (T : Txt K mg) : FnOk P w K mg base CX0 1 T.trips_from.f T.trips_from.fd ["valley", "needed", "v", "skipped"] (spTF T.C 0) := by
  have no : ∀ vs H Q E, ¬ spTF T.C 0 vs H Q E := fun vs H Q E h => by
    obtain ⟨p, ln, lk, s, cs, r, skip, v, a, _, R, _, _, _, _, hv, ha, _, hroom, _⟩ := h
    have := VR.bt_few R.wf ha hv
    omega
  exact ⟨fun vs H Q E h => absurd h (no vs H Q E), fun A outer s H args us vs Q E _ _ _ _ h => absurd h (no vs H Q E)⟩
theorem ok_trips_from (T : Txt K mg) : ∀ n : Nat, FnOk P w K mg base CX0 (n + 1) T.trips_from.f T.trips_from.fd ["valley", "needed", "v", "skipped"] (spTF T.C n)
  | 0 => trips_none T
  | n + 1 => ok_trips T (ok_trips_from T n)
end
end VP
end
noncomputable section
set_option Elab.async false
set_option linter.all false
set_option maxRecDepth 100000
namespace VP
open PySem PySem.Spec PyProof.Rows L2 VS VL
open Km457 (Valley Village)
open Km460 (nexts roads tourGo)

theorem away_root {s : Valley} (W : VR.WF s) {a : Nat} {r : List Nat} (ha : a < s.length) : Away s a r [] a := by
  intro x hx _
  have hxs := (VR.mem_nexts.mp hx).1
  exact VR.came_next W ha ha hxs (VR.came_start W (Nat.le_refl _)) (VR.nexts_adj hx) (by omega)
theorem away_on {s : Valley} (W : VR.WF s) {a F x : Nat} {r : List Nat} (ha : a < s.length) (hF : F < s.length) (hx : x ∈ VR.bt s a F) : Away s a r (VR.bt s a F) x := by
  intro u hu hn
  have hxs := VR.bt_in W ha hF hx
  have hus := (VR.mem_nexts.mp hu).1
  rcases VR.step_adj W ha hxs hus (VR.nexts_adj hu) with q | q
  · exfalso
    obtain ⟨t, e⟩ := VR.bt_pre W a F ha hF x hx
    apply hn
    rw [e, q]
    exact List.mem_append_left _ (List.mem_append_left _ (VR.bt_mem_last W ha hus))
  · exact q
theorem trips16 {s : Valley} (W : VR.WF s) {a v : Nat} {r skip : List Nat} (ha : a < s.length) (hv : v < s.length) (hgo : Away s a r skip v) : VR.trips s r 16 skip v = VR.trips s r (s.length + 1) skip v := by
  have few := W.few
  exact trips_fuel W ha hv hgo (f := 15) (g := s.length) (by omega) (by omega)
theorem trips_le {s : Valley} (W : VR.WF s) {a v : Nat} {r skip : List Nat} (ha : a < s.length) (hv : v < s.length) (hr : ∀ x ∈ r, x < s.length) (hgo : Away s a r skip v) (f : Nat) : (VR.trips s r f skip v).length ≤ 430 := by
  have few := W.few
  cases f with
  | zero => show 1 ≤ 430; decide
  | succ f =>
    show (v :: ((nexts s r v).filter fun u => !skip.contains u).flatMap fun u => VR.trips s r f [v] u ++ [v]).length ≤ 430
    have h := trips_short W ha hv hr hgo f ((nexts s r v).filter fun u => !skip.contains u) (fun x hx => ?_) ?_
    · rw [List.length_cons]
      omega
    · obtain ⟨z1, z2⟩ := List.mem_filter.mp hx
      exact ⟨z1, by simpa using z2⟩
    · have z1 := List.length_filter_le (fun u => !skip.contains u) (nexts s r v)
      have z2 := nexts_len (s := s) r v
      omega
theorem tour_le {s : Valley} (W : VR.WF s) {a : Nat} {cs : List Nat} (ha : a < s.length) : (Km460.tour s a cs).length ≤ 430 := by
  rw [VR.tour_eq W]
  exact trips_le W ha ha (fun x hx => (VR.roads_in x hx).2) (away_root W ha) _
theorem way_le {s : Valley} (W : VR.WF s) {a : Nat} {cs : List Nat} (ha : a < s.length) (hc : ∀ c ∈ cs, c < s.length) : (Km460.way s a cs).length ≤ 6020 := by
  have few := W.few
  have hF := VR.farthest_lt W ha hc
  rw [VR.way_eq W ha hc]
  have h := flat_len (f := fun x => VR.trips s (roads s a cs) (s.length + 1) (VR.bt s a (Km460.farthest s a cs)) x) (b := 430) (l := VR.bt s a (Km460.farthest s a cs)) fun x hx =>
    trips_le W ha (VR.bt_in W ha hF hx) (fun x hx => (VR.roads_in x hx).2) (away_on W ha hF hx) _
  have h2 := VR.bt_few W ha hF
  omega
section
variable {P : Program} {w : World} {K : PySem.W.Frag} {mg : Str → Option Value} {base : Heap}
def spRF (C : Addr) : Sp := fun vs H Q _ => ∃ (p : Addr) (s : Valley) (cs : List Nat) (a : Nat), vs = [.ref p, .int (a : Int)] ∧ RAt C H p s cs ∧ a < s.length ∧ outL H (Km460.tour s a cs) Q
theorem scRF : FnScope ["valley", "a"] ["valley", "a"] (defScope s_round_from) := ⟨rfl, rfl, rfl, by decide +kernel, rfl, by decide +kernel, by decide +kernel⟩
theorem ok_round_from (T : Txt K mg) : FnOk P w K mg base CX0 18 T.round_from.f T.round_from.fd ["valley", "a"] (spRF T.C) := by
  refine T.round_from.F.ok scRF (fun vs H Q E h => ?_) (fun cdv A outer s0 H vs Q E hr h => ?_)
  · obtain ⟨p, s, cs, a, rfl, _⟩ := h
    rfl
  obtain ⟨p, s, cs, a, rfl, R, ha, k⟩ := h
  have hr3 : Room 3 _ := hr.mono (by decide)
  have W := R.wf
  have few := W.few
  refine ⟨_, pss_one (ps_ret (pe_call (ok_trips_from T 16) hr rfl T.trips_from.m T.trips_from.F.kp T.trips_from.b .nil pass0 (pa_cons (pv 0) (pa_cons (pe_call (ok_roads_needed T) hr3 rfl T.roads_needed.m T.roads_needed.F.kp T.roads_needed.b .nil pass0 (pa_cons (pv 0) (pa_cons (pv 1) pa_nil))) (pa_cons (pv 1) (pa_cons (pe_lst pa_nil) pa_nil)))))), ?_⟩
  refine ⟨_, rfl, _, rfl, _, rfl, p, s, cs, a, rfl, R, ha, fun ln H1 S1 hln h1 => ?_⟩
  refine ⟨_, rfl, small (by show 0 ≤ 4000000; decide), fun lk hlk => ?_⟩
  have S2 : Same H1 (upd H1 lk (.lst [])) := same_new hlk _
  refine ⟨p, ln, lk, s, cs, _, [], a, a, rfl, (R.same S1).same S2, S2 _ _ h1, VR.roads_sorted, VR.roads_in, upd_same, ha, ha, away_root W ha, by omega, fun r H3 S3 hr3' h3 => ?_⟩
  have S4 : Same H (upd H1 lk (.lst [])) := S1.trans S2
  refine k r H3 (S4.trans S3) (S4.free hr3') ?_
  rw [h3, trips16 W ha ha (away_root W ha), VR.tour_eq W]

def spWF (C : Addr) : Sp := fun vs H Q _ => ∃ (p : Addr) (s : Valley) (cs : List Nat) (a : Nat), vs = [.ref p, .int (a : Int)] ∧ RAt C H p s cs ∧ a < s.length ∧ outL H (Km460.way s a cs) Q
theorem scWF : FnScope ["valley", "a", "needed", "straight", "passed", "v"] ["valley", "a"] (defScope s_way_from) := ⟨rfl, rfl, rfl, by decide +kernel, rfl, by decide +kernel, by decide +kernel⟩
theorem ok_way_from (T : Txt K mg) : FnOk P w K mg base CX0 18 T.way_from.f T.way_from.fd ["valley", "a"] (spWF T.C) := by
  refine T.way_from.F.ok scWF (fun vs H Q E h => ?_) (fun cdv A outer s0 H vs Q E hr h => ?_)
  · obtain ⟨p, s, cs, a, rfl, _⟩ := h
    rfl
  obtain ⟨p, s, cs, a, rfl, R, ha, k⟩ := h
  have hr3 : Room 3 _ := hr.mono (by decide)
  have hr4 : Room 4 _ := hr.mono (by decide)
  have hr1 : Room 1 _ := hr.mono (by decide)
  have W := R.wf
  have few := W.few
  have hF := VR.farthest_lt W ha R.cs_lt
  refine ⟨_, pss_cons (ps_set (i := 2) scWF.nd rfl (Or.inl rfl) (pe_call (ok_roads_needed T) hr3 rfl T.roads_needed.m T.roads_needed.F.kp T.roads_needed.b .nil pass0 (pa_cons (pv 0) (pa_cons (pv 1) pa_nil))))
    (pss_cons (ps_set (i := 3) scWF.nd rfl (Or.inl rfl) (pe_call (ok_way_between T) hr1 rfl T.way_between.m T.way_between.F.kp T.way_between.b .nil pass0 (pa_cons (pv 0) (pa_cons (pv 1) (pa_cons (pe_call (ok_farthest_from T) hr4 rfl T.farthest_from.m T.farthest_from.F.kp T.farthest_from.b .nil pass0 (pa_cons (pv 0) (pa_cons (pv 1) pa_nil))) pa_nil)))))
    (pss_cons (ps_set (i := 4) scWF.nd rfl (Or.inl rfl) (pe_lst pa_nil))
    (pss_cons (ps_for PassesOwn.never rfl (pi_list (pv 3)) (pg_name (i := 5) scWF.nd rfl (Or.inl rfl))
      (pss_one (ps_expr (pe_bm PySem.F.plainAttrs_list PySem.F.slot_list_extend PySem.F.type_list_extend mt_extend (pv 4) (pa_cons (pe_call (ok_trips_from T 16) hr rfl T.trips_from.m T.trips_from.F.kp T.trips_from.b .nil pass0 (pa_cons (pv 0) (pa_cons (pv 2) (pa_cons (pv 5) (pa_cons (pv 3) pa_nil))))) pa_nil)))))
    (pss_one (ps_ret (pv 4)))))), ?_⟩
  refine ⟨_, rfl, _, rfl, p, s, cs, a, rfl, R, ha, fun ln H1 S1 hln h1 => ?_⟩
  refine ⟨_, rfl, _, rfl, _, rfl, _, rfl, p, s, cs, a, rfl, R.same S1, ha, fun H2 S2 => ?_⟩
  have S12 := S1.trans S2
  refine ⟨p, s, cs, a, _, rfl, R.same S12, ha, hF, fun st H3 S3 hst h3 => ?_⟩
  have S13 := S12.trans S3
  refine ⟨small (by show 0 ≤ 4000000; decide), fun lp hlp => ?_⟩
  have S4 : Same H3 (upd H3 lp (.lst [])) := same_new hlp _
  have hlp0 : H lp = none := S13.free hlp
  have hsp : st ≠ lp := ne_of_none h3 hlp
  have hnp : ln ≠ lp := ne_of_none (S3 _ _ (S2 _ _ h1)) hlp
  refine ⟨_, rfl, st, rfl, ⟨_, SqL.of (S4 _ _ h3)⟩, for_list (K := K) (a := st) (xs := vz (VR.bt s a (Km460.farthest s a cs))) (fun i σ H' => ∃ v5 : Option V, σ = [some (.ref p), some (.int (a : Int)), some (.ref ln), some (.ref st), some (.ref lp), v5] ∧ Same H H' ∧ H' st = some (li (VR.bt s a (Km460.farthest s a cs))) ∧ H' ln = some (li (roads s a cs)) ∧
      H' lp = some (li (((VR.bt s a (Km460.farthest s a cs)).take i).flatMap fun x => VR.trips s (roads s a cs) (s.length + 1) (VR.bt s a (Km460.farthest s a cs)) x)))
    ⟨none, rfl, S13.trans S4, S4 _ _ h3, S4 _ _ (S3 _ _ (S2 _ _ h1)), upd_same⟩ (fun i σ H' _ ⟨_, _, _, q, _⟩ => SqL.of q) ?_ ?_⟩
  · rintro i y σ H5 hi ⟨v5, rfl, S5, q1, q2, q3⟩
    obtain ⟨x, hx, rfl⟩ := vz_get' hi
    have hxm := List.mem_of_getElem? hx
    have hxs := VR.bt_in W ha hF hxm
    have haw : Away s a (roads s a cs) (VR.bt s a (Km460.farthest s a cs)) x := away_on W ha hF hxm
    have hbt : 1 ≤ (VR.bt s a x).length := by
      obtain ⟨z, e⟩ := VR.bt_head W a x ha hxs
      rw [e]
      simp
    refine ⟨_, rfl, .inl ⟨rfl, _, SqL.of q3⟩, _, rfl, _, rfl, _, rfl, _, rfl, p, ln, st, s, cs, _, _, x, a, rfl, R.same S5, q2, VR.roads_sorted, VR.roads_in, q1, hxs, ha, haw, by omega, fun t H6 S6 ht6 h6 => ?_⟩
    rw [trips16 W ha hxs haw] at h6
    have hpt : lp ≠ t := ne_of_none q3 ht6
    have b1 := flat_len (f := fun x => VR.trips s (roads s a cs) (s.length + 1) (VR.bt s a (Km460.farthest s a cs)) x) (b := 430) (l := (VR.bt s a (Km460.farthest s a cs)).take i) fun x hx =>
      trips_le W ha (VR.bt_in W ha hF (List.mem_of_mem_take hx)) (fun x hx => (VR.roads_in x hx).2) (away_on W ha hF (List.mem_of_mem_take hx)) _
    have b2 := trips_le W ha hxs (fun x hx => (VR.roads_in (s := s) (a := a) (l := cs) x hx).2) haw (s.length + 1)
    have b3 := VR.bt_few W ha hF
    rw [List.length_take] at b1
    refine ⟨lp, t, _, _, rfl, rfl, S6 _ _ q3, h6, small ?_, _, rfl, keepNew (S5.trans S6) hlp0 _, ?_, ?_, ?_⟩
    · rw [vz_length, vz_length]
      omega
    · rw [upd_ne hsp]
      exact S6 _ _ q1
    · rw [upd_ne hnp]
      exact S6 _ _ q2
    · rw [upd_same, take_snoc hx, flat_snoc]
      show some (HO.lst _) = some (HO.lst _)
      rw [← vz_append]
  · rintro σ H5 ⟨v5, rfl, S5, q1, q2, q3⟩
    rw [vz_length, List.take_length, ← VR.way_eq W ha R.cs_lt] at q3
    exact ⟨_, rfl, k lp H5 S5 hlp0 q3⟩
end
end VP
end
noncomputable section
set_option Elab.async false
set_option linter.all false
set_option maxRecDepth 100000
namespace VP
open PySem PySem.Spec PyProof.Rows L2 VS VL
open Km457 (Valley Village)
open Km460 (nexts roads tourGo)
theorem tour_pos {s : Valley} (a : Nat) (cs : List Nat) : 1 ≤ (Km460.tour s a cs).length := by
  unfold Km460.tour
  simp
theorem way_pos {s : Valley} (W : VR.WF s) {a : Nat} {cs : List Nat} (ha : a < s.length) (hc : ∀ c ∈ cs, c < s.length) : 1 ≤ (Km460.way s a cs).length := by
  obtain ⟨z, e⟩ := VR.way_end W ha hc
  rw [e]
  simp
section
variable {P : Program} {w : World} {K : PySem.W.Frag} {mg : Str → Option Value} {base : Heap}
def spNum (C : Addr) (g : Valley → Nat → List Nat → Nat) : Sp := fun vs H Q _ => ∃ (p : Addr) (s : Valley) (cs : List Nat) (a : Nat), vs = [.ref p, .int (a : Int)] ∧ RAt C H p s cs ∧ a < s.length ∧ ∀ H', Same H H' → Q (.int ((g s a cs : Nat) : Int)) H'
theorem scRL : FnScope ["valley", "a"] ["valley", "a"] (defScope s_round_length) := ⟨rfl, rfl, rfl, by decide +kernel, rfl, by decide +kernel, by decide +kernel⟩
theorem ok_round_length (T : Txt K mg) : FnOk P w K mg base CX0 19 T.round_length.f T.round_length.fd ["valley", "a"] (spNum T.C Km460.round) := by
  refine T.round_length.F.ok scRL (fun vs H Q E h => ?_) (fun cdv A outer s0 H vs Q E hr h => ?_)
  · obtain ⟨p, s, cs, a, rfl, _⟩ := h
    rfl
  obtain ⟨p, s, cs, x, rfl, R, hx, k⟩ := h
  have W := R.wf
  have hr2 : Room 2 _ := hr.mono (by decide)
  refine ⟨_, pss_one (ps_ret (pe_call (ok_length_along T) hr2 rfl T.length_along.m T.length_along.F.kp T.length_along.b .nil pass0 (pa_cons (pv 0) (pa_cons (pe_call (ok_round_from T) hr rfl T.round_from.m T.round_from.F.kp T.round_from.b .nil pass0 (pa_cons (pv 0) (pa_cons (pv 1) pa_nil))) pa_nil)))), ?_⟩
  refine ⟨_, rfl, _, rfl, _, rfl, p, s, cs, x, rfl, R, hx, fun r H1 S1 hr' h1 => ?_⟩
  obtain ⟨w1, w2⟩ := VR.round_long W hx R.cs_lt
  have hl := tour_le W (cs := cs) hx
  refine ⟨p, r, s, cs, _, rfl, R.same S1, h1, w1.all, tour_pos x cs, by omega, fun H2 S2 => ?_⟩
  rw [w2]
  exact k H2 (S1.trans S2)
theorem scWL : FnScope ["valley", "a"] ["valley", "a"] (defScope s_way_length) := ⟨rfl, rfl, rfl, by decide +kernel, rfl, by decide +kernel, by decide +kernel⟩
theorem ok_way_length (T : Txt K mg) : FnOk P w K mg base CX0 19 T.way_length.f T.way_length.fd ["valley", "a"] (spNum T.C Km460.once) := by
  refine T.way_length.F.ok scWL (fun vs H Q E h => ?_) (fun cdv A outer s0 H vs Q E hr h => ?_)
  · obtain ⟨p, s, cs, a, rfl, _⟩ := h
    rfl
  obtain ⟨p, s, cs, x, rfl, R, hx, k⟩ := h
  have W := R.wf
  have hr2 : Room 2 _ := hr.mono (by decide)
  refine ⟨_, pss_one (ps_ret (pe_call (ok_length_along T) hr2 rfl T.length_along.m T.length_along.F.kp T.length_along.b .nil pass0 (pa_cons (pv 0) (pa_cons (pe_call (ok_way_from T) hr rfl T.way_from.m T.way_from.F.kp T.way_from.b .nil pass0 (pa_cons (pv 0) (pa_cons (pv 1) pa_nil))) pa_nil)))), ?_⟩
  refine ⟨_, rfl, _, rfl, _, rfl, p, s, cs, x, rfl, R, hx, fun r H1 S1 hr' h1 => ?_⟩
  have w1 := VR.way_walk W hx R.cs_lt
  have w2 := VR.way_long W hx R.cs_lt
  have hl := way_le W hx R.cs_lt
  refine ⟨p, r, s, cs, _, rfl, R.same S1, h1, w1.all, way_pos W hx R.cs_lt, by omega, fun H2 S2 => ?_⟩
  rw [w2]
  exact k H2 (S1.trans S2)

def spAB : Sp := fun vs H Q _ => ∃ (a : Addr) (l : List Nat), vs = [.ref a] ∧ H a = some (li l) ∧ (∀ x ∈ l, x < 64) ∧ l.length ≤ 100000 ∧ ∀ H', Same H H' → Q (.int (((l.map (2 ^ ·)).sum : Nat) : Int)) H'
theorem scAB : FnScope ["villages", "v"] ["villages"] (defScope s_as_bits) := ⟨rfl, rfl, rfl, by decide +kernel, rfl, by decide +kernel, by decide +kernel⟩
theorem ok_as_bits (T : Txt K mg) : FnOk P w K mg base CX0 1 T.as_bits.f T.as_bits.fd ["villages"] spAB := by
  refine T.as_bits.F.ok scAB (fun vs H Q E h => ?_) (fun cdv A outer s0 H vs Q E hr h => ?_)
  · obtain ⟨a, l, rfl, _⟩ := h
    rfl
  obtain ⟨a, l, rfl, ha, hl, hl2, k⟩ := h
  refine ⟨_, pss_one (ps_ret (pe_callB (call_sum rfl) rfl T.sum PyProof.Rows.boot_sum (pa_cons (pe_lc (own := [("v", 1)]) rfl scAB.nd (pi_list (pv 0)) (blkOk_by (N := ["villages", "v"]) (sc := defScope s_as_bits) (by decide +kernel)) (fun _ _ _ _ _ => pg_name (i := 1) scAB.nd rfl (Or.inl rfl)) (fun _ _ _ _ _ => pts_nil) (fun _ _ _ _ _ => pe_op op_shl pe_int (pv 1))) pa_nil))), ?_⟩
  refine ⟨_, rfl, a, rfl, ⟨_, SqL.of ha⟩, fun D hD => ?_⟩
  refine lc_list (K := K) (xs := vz l) (fun i H' => H' D = some (li ((l.take i).map (2 ^ ·))) ∧ Same H H') ⟨upd_same, same_new hD _⟩ (fun i H2 _ ⟨_, S2⟩ => SqL.of (S2 _ _ ha)) ?_ ?_
  · rintro i z H2 hi ⟨h2, S2⟩
    obtain ⟨u, hu, rfl⟩ := vz_get' hi
    have hul := hl u (List.mem_of_getElem? hu)
    refine ⟨rfl, yes ?_⟩
    refine ⟨_, rfl, _, _, rfl, rfl, ⟨by omega, by omega, by decide⟩, _, h2, smallL ?_, ?_, keepNew S2 hD _⟩
    · rw [vz_length, List.length_map, List.length_take]
      omega
    · rw [upd_same, take_snoc hu, List.map_append]
      have e : (1 : Int) * 2 ^ ((u : Int)).toNat = ((2 ^ u : Nat) : Int) := by
        rw [Int.one_mul, show ((u : Int)).toNat = u from rfl]
        exact (Int.natCast_pow 2 u).symm
      show some (HO.lst (_ ++ [V.int ((1 : Int) * 2 ^ ((u : Int)).toNat)])) = _
      rw [e]
      exact congrArg some (li_snoc _ (2 ^ u))
  · rintro H2 ⟨h2, S2⟩
    rw [vz_length, List.take_length] at h2
    refine ⟨D, _, rfl, SqL.of h2, ?_⟩
    rw [zs_sum]
    exact k H2 S2
end
end VP
end
noncomputable section
set_option Elab.async false
set_option linter.all false
set_option maxRecDepth 100000
namespace VP
open PySem PySem.Spec PyProof.Rows L2 VS VL
open Km457 (Valley Village)
open Km460 (nexts roads tourGo)

/-- what a call that only reads answers -/
def ansOf (s : Valley) (cs : List Nat) (c : Km460.Call) : List Int := Km460Neutral.told (Km460.act ⟨⟨s, cs⟩, [], []⟩ c).2
def outZ (H : Hp) (l : List Int) (Q : VK) : Prop := ∀ (r : Addr) (H' : Hp), Same H H' → H r = none → H' r = some (.lst (l.map V.int)) → Q (.ref r) H'
theorem pe_gint {X : Cx} {x : Str} {n : Int} {t : Tok} {pos : Pos} (hg : Gl X x) (hm : X.mg x = some (.int n t)) (hd : (x == ("__debug__" : Str)) = false := by decide) : PE X (.Name x pos) (tC (.int n)) := pe_glob (v := .int n) hg hm ⟨t, rfl⟩ hd
theorem not_lt_of {x n : Nat} (c : (!decide (x < n)) = true) : n ≤ x := by
  have : decide (x < n) = false := by simpa using c
  have := of_decide_eq_false this
  omega
theorem lt_of {x n : Nat} (c : ¬ (!decide (x < n)) = true) : x < n := by
  have : decide (x < n) = true := by simpa using c
  exact of_decide_eq_true this
theorem one_small {l : List V} (h : Nat.ble l.length 4000000 = true := by rfl) : l.length ≤ sizeLine := small (Nat.le_of_ble_eq_true h)
theorem out2 {H : Hp} {l : List Int} {Q : VK} (k : outZ H l Q) {H1 : Hp} (S : Same H H1) {r : Addr} (hr : H1 r = none) {l' : List V} (e : l' = l.map V.int) : Q (.ref r) (upd H1 r (.lst l')) := by
  subst e
  exact k r _ (keepNew S (S.free hr) _) (S.free hr) upd_same
section
variable {P : Program} {w : World} {K : PySem.W.Frag} {mg : Str → Option Value} {base : Heap}

def sp2 (C : Addr) (f : Nat → Nat → Km460.Call) : Sp := fun vs H Q _ => ∃ (p : Addr) (s : Valley) (cs : List Nat) (x y : Nat), vs = [.ref p, .int (x : Int), .int (y : Int)] ∧ RAt C H p s cs ∧ outZ H (ansOf s cs (f x y)) Q
def sp1 (C : Addr) (f : Nat → Km460.Call) : Sp := fun vs H Q _ => ∃ (p : Addr) (s : Valley) (cs : List Nat) (x : Nat), vs = [.ref p, .int (x : Int)] ∧ RAt C H p s cs ∧ outZ H (ansOf s cs (f x)) Q
theorem scFar : FnScope ["valley", "v", "w"] ["valley", "v", "w"] (defScope s_vr_far) := ⟨rfl, rfl, rfl, by decide +kernel, rfl, by decide +kernel, by decide +kernel⟩
theorem ans_far (s : Valley) (cs : List Nat) (x y : Nat) : ansOf s cs (.far x y) = if s.length ≤ x ∨ s.length ≤ y then [-2] else [((VR.far s x y : Nat) : Int)] := by
  show Km460Neutral.told (if s.length ≤ x ∨ s.length ≤ y then Km460.only (-2) else _) = _
  split <;> rfl
theorem ok_vr_far (T : Txt K mg) : FnOk P w K mg base CX0 4 T.vr_far.f T.vr_far.fd ["valley", "v", "w"] (sp2 T.C .far) := by
  refine T.vr_far.F.ok scFar (fun vs H Q E h => ?_) (fun cdv A outer s0 H vs Q E hr h => ?_)
  · obtain ⟨p, s, cs, x, y, rfl, _⟩ := h
    rfl
  obtain ⟨p, s, cs, x, y, rfl, R, k⟩ := h
  rw [ans_far] at k
  have hr1 : Room 1 _ := hr.mono (by decide)
  obtain ⟨tn, htn⟩ := T.c_THERES_NONE
  have W := R.wf
  have few := W.few
  refine ⟨_, pss_cons (ps_if (pw_or (pt_not (pt_val (pe_meth (pv 0) T.cl T.has.m (ok_has T) hr1 T.has.b .nil pass0 (pa_cons (pv 1) pa_nil)))) (pw_or1 (pt_not (pt_val (pe_meth (pv 0) T.cl T.has.m (ok_has T) hr1 T.has.b .nil pass0 (pa_cons (pv 2) pa_nil)))))).pt (pss_one (ps_ret (pe_lst (pa_cons (pe_gint rfl htn) pa_nil)))) pss_nil) (pss_one (ps_ret (pe_lst (pa_cons (pe_call (ok_far_between T) hr rfl T.far_between.m T.far_between.F.kp T.far_between.b .nil pass0 (pa_cons (pv 0) (pa_cons (pv 1) (pa_cons (pv 2) pa_nil)))) pa_nil)))), ?_⟩
  obtain ⟨dx, fs, lu, ll, lc, g1, g2, g3, g4, g5, g6, g7, g8, g9⟩ := R.ex
  refine ⟨_, rfl, p, dx, fs, rfl, g1, g9, _, rfl, p, s, cs, x, rfl, R, _, rfl, ?_⟩
  refine ite2 (fun c => ?_) (fun c => ?_)
  · rw [if_pos (.inl (not_lt_of c))] at k
    refine iteT ?_
    exact ⟨one_small, fun r hr' => out2 k (Same.refl H) hr' rfl⟩
  have hx := lt_of c
  refine ⟨_, rfl, p, dx, fs, rfl, g1, g9, _, rfl, p, s, cs, y, rfl, R, _, rfl, ?_⟩
  refine ite2 (fun c => ?_) (fun c => ?_)
  · rw [if_pos (.inr (not_lt_of c))] at k
    exact ⟨one_small, fun r hr' => out2 k (Same.refl H) hr' rfl⟩
  have hy := lt_of c
  rw [if_neg (by omega)] at k
  refine ⟨_, rfl, _, rfl, _, rfl, p, s, cs, x, y, rfl, R, hx, hy, fun H1 S1 => ?_⟩
  exact ⟨one_small, fun r2 hr2 => out2 k S1 hr2 rfl⟩

theorem scBet : FnScope ["valley", "v", "w", "passed", "told", "x"] ["valley", "v", "w"] (defScope s_vr_between) := ⟨rfl, rfl, rfl, by decide +kernel, rfl, by decide +kernel, by decide +kernel⟩
theorem ans_between {s : Valley} (W : VR.WF s) (cs : List Nat) (x y : Nat) : ansOf s cs (.between x y) = if s.length ≤ x ∨ s.length ≤ y then [-2] else
    (((VR.bt s x y).length : Nat) : Int) :: zs ((VR.bt s x y).map (fun z => z + 1)) ++ List.replicate (14 - (VR.bt s x y).length) 0 := by
  show Km460Neutral.told (if s.length ≤ x ∨ s.length ≤ y then Km460.only (-2) else _) = _
  split
  · rfl
  · rename_i h
    have few := W.few
    have n3 := VR.bt_few W (v := x) (w := y) (by omega) (by omega)
    show (((VR.bt s x y).length : Nat) : Int) :: Km460Neutral.nums (Km460.fill Km460.VILLAGES ((VR.bt s x y).map fun z => z + 1)) = _
    rw [VR.fill_eq (by rw [List.length_map]; show _ ≤ 14; omega)]
    unfold Km460Neutral.nums zs
    rw [List.map_append, List.length_map, List.map_replicate]
    rfl
theorem ok_vr_between (T : Txt K mg) : FnOk P w K mg base CX0 3 T.vr_between.f T.vr_between.fd ["valley", "v", "w"] (sp2 T.C .between) := by
  refine T.vr_between.F.ok scBet (fun vs H Q E h => ?_) (fun cdv A outer s0 H vs Q E hr h => ?_)
  · obtain ⟨p, s, cs, x, y, rfl, _⟩ := h
    rfl
  obtain ⟨p, s, cs, x, y, rfl, R, k⟩ := h
  have W := R.wf
  rw [ans_between W] at k
  have hr1 : Room 1 _ := hr.mono (by decide)
  obtain ⟨tn, htn⟩ := T.c_THERES_NONE
  obtain ⟨tm, htm⟩ := T.c_MOST_VILLAGES
  have few := W.few
  refine ⟨_, pss_cons (ps_if (pw_or (pt_not (pt_val (pe_meth (pv 0) T.cl T.has.m (ok_has T) hr1 T.has.b .nil pass0 (pa_cons (pv 1) pa_nil)))) (pw_or1 (pt_not (pt_val (pe_meth (pv 0) T.cl T.has.m (ok_has T) hr1 T.has.b .nil pass0 (pa_cons (pv 2) pa_nil)))))).pt (pss_one (ps_ret (pe_lst (pa_cons (pe_gint rfl htn) pa_nil)))) pss_nil) (pss_cons (ps_set (i := 3) scBet.nd rfl (Or.inl rfl) (pe_call (ok_way_between T) hr1 rfl T.way_between.m T.way_between.F.kp T.way_between.b .nil pass0 (pa_cons (pv 0) (pa_cons (pv 1) (pa_cons (pv 2) pa_nil)))))
    (pss_cons (ps_setLc (i := 4) (own := [("x", 5)]) rfl scBet.nd rfl rfl (sw_true rfl rfl rfl rfl) (pi_list (pv 3)) (blkOk_by (N := ["valley", "v", "w", "passed", "told", "x"]) (sc := defScope s_vr_between) (by decide +kernel))
      (fun _ _ _ _ _ => pg_name (i := 5) scBet.nd rfl (Or.inl rfl)) (fun _ _ _ _ _ => pts_nil) (fun _ _ _ _ _ => pe_op op_add (pv 5) pe_int))
    (pss_one (ps_ret (pe_op op_cat (pe_op op_cat (pe_lst (pa_cons (pe_callB call_len_seq rfl T.len PySem.boot_len (pa_cons (pv 3) pa_nil)) pa_nil)) (pv 4)) (pe_op op_rep (pe_lst (pa_cons pe_int pa_nil)) (pe_op op_sub (pe_gint rfl htm) (pe_callB call_len_seq rfl T.len PySem.boot_len (pa_cons (pv 3) pa_nil))))))))), ?_⟩
  obtain ⟨dx, fs, lu, ll, lc, g1, g2, g3, g4, g5, g6, g7, g8, g9⟩ := R.ex
  refine ⟨_, rfl, p, dx, fs, rfl, g1, g9, _, rfl, p, s, cs, x, rfl, R, _, rfl, ?_⟩
  refine ite2 (fun c => ?_) (fun c => ?_)
  · rw [if_pos (.inl (not_lt_of c))] at k
    refine iteT ?_
    exact ⟨one_small, fun r hr' => out2 k (Same.refl H) hr' rfl⟩
  have hx := lt_of c
  refine ⟨_, rfl, p, dx, fs, rfl, g1, g9, _, rfl, p, s, cs, y, rfl, R, _, rfl, ?_⟩
  refine ite2 (fun c => ?_) (fun c => ?_)
  · rw [if_pos (.inr (not_lt_of c))] at k
    exact ⟨one_small, fun r hr' => out2 k (Same.refl H) hr' rfl⟩
  have hy := lt_of c
  rw [if_neg (by omega)] at k
  have n3 := VR.bt_few W hx hy
  refine ⟨_, rfl, _, rfl, _, rfl, p, s, cs, x, y, rfl, R, hx, hy, fun lp H1 S1 hlp h1 => ?_⟩
  refine ⟨_, rfl, lp, rfl, ⟨_, SqL.of h1⟩, fun D hD => ?_⟩
  refine lc_list (K := K) (xs := vz (VR.bt s x y)) (fun i H' => H' D = some (li (((VR.bt s x y).take i).map fun z => z + 1)) ∧ Same H1 H') ⟨upd_same, same_new hD _⟩ (fun i H2 _ ⟨_, S2⟩ => SqL.of (S2 _ _ h1)) ?_ ?_
  · rintro i z H2 hi ⟨h2, S2⟩
    obtain ⟨u, hu, rfl⟩ := vz_get' hi
    refine ⟨rfl, yes ?_⟩
    refine ⟨_, rfl, _, _, rfl, rfl, _, h2, smallL ?_, ?_, keepNew S2 hD _⟩
    · rw [vz_length, List.length_map, List.length_take]
      omega
    · rw [upd_same, take_snoc hu, List.map_append]
      exact congrArg some (li_snoc _ (u + 1))
  · rintro H2 ⟨h2, S2⟩
    rw [vz_length, List.take_length] at h2
    have h1' := S2 _ _ h1
    refine ⟨_, rfl, lp, _, rfl, .inl (SqL.of h1'), one_small, fun l1 hl1 => ?_⟩
    have n1 : D ≠ l1 := ne_of_none h2 hl1
    refine ⟨_, rfl, l1, D, _, _, rfl, rfl, upd_same, (by rw [upd_ne n1]; exact h2), ?_, fun l2 hl2 => ?_⟩
    · show 1 + _ ≤ _
      rw [vz_length (List.map _ _), List.length_map]
      exact small (by omega)
    have n2 : lp ≠ l1 := ne_of_none h1' hl1
    have n3' : lp ≠ l2 := ne_of_none (by rw [upd_ne n2]; exact h1') hl2
    refine ⟨one_small, fun l3 hl3 => ?_⟩
    have n4 : lp ≠ l3 := ne_of_none (by rw [upd_ne n3', upd_ne n2]; exact h1') hl3
    have n5 : l2 ≠ l3 := ne_of_none upd_same hl3
    refine ⟨_, rfl, lp, _, rfl, .inl (SqL.of (by rw [upd_ne n4, upd_ne n3', upd_ne n2]; exact h1')), _, _, rfl, rfl, ?_⟩
    have eN : ((14 : Int) - (((vz (VR.bt s x y)).length : Nat) : Int)).toNat = 14 - (VR.bt s x y).length := by rw [vz_length]; omega
    refine ⟨l3, _, _, rfl, rfl, upd_same, ?_, ?_, ?_, fun l4 hl4 => ?_⟩
    · rw [vz_length]; omega
    · rw [vz_length]; omega
    · show 1 * _ ≤ _
      rw [eN]
      exact small (by omega)
    have n6 : l2 ≠ l4 := ne_of_none (by rw [upd_ne n5]; exact upd_same) hl4
    refine ⟨l2, l4, _, _, rfl, rfl, (by rw [upd_ne n6, upd_ne n5]; exact upd_same), upd_same, ?_, fun l5 hl5 => ?_⟩
    · rw [eN, len_rep, List.length_append, vz_length (List.map _ _), List.length_map]
      refine small ?_
      show 1 + _ + _ * 1 ≤ _
      omega
    refine out2 k ((((S1.trans S2).trans (same_new hl1 _)).trans (same_new hl2 _)).trans ((same_new hl3 _).trans (same_new hl4 _))) hl5 ?_
    rw [eN, vz_length]
    show V.int _ :: (vz ((VR.bt s x y).map fun z => z + 1) ++ (List.replicate (14 - (VR.bt s x y).length) [V.int 0]).flatten) = _
    have e7 : ∀ n : Nat, (List.replicate n [V.int 0]).flatten = (List.replicate n (0 : Int)).map V.int := by
      intro n
      induction n with
      | zero => rfl
      | succ n ih => rw [List.replicate_succ, List.flatten_cons, ih, List.replicate_succ]; rfl
    rw [e7]
    unfold vz
    rw [← List.map_append]
    rfl

theorem scRoads : FnScope ["valley", "a", "needed"] ["valley", "a"] (defScope s_vr_roads) := ⟨rfl, rfl, rfl, by decide +kernel, rfl, by decide +kernel, by decide +kernel⟩
theorem ans_roads (s : Valley) (cs : List Nat) (x : Nat) : ansOf s cs (.roads x) = if s.length ≤ x then [-2] else
    [(((roads s x cs).length : Nat) : Int), ((((roads s x cs).map (2 ^ ·)).sum : Nat) : Int), ((((roads s x cs).map (VR.ln s)).sum : Nat) : Int)] := by
  show Km460Neutral.told (if s.length ≤ x then Km460.only (-2) else _) = _
  split
  · rfl
  · show [(((roads s x cs).length : Nat) : Int), ((Km460.bits (roads s x cs) : Nat) : Int), ((Km460.length s (roads s x cs) : Nat) : Int)] = _
    rw [VR.kbits]
    unfold Km460.length
    rw [VR.ksum']
theorem roads_le {s : Valley} (W : VR.WF s) (a : Nat) (cs : List Nat) : (roads s a cs).length ≤ s.length :=
  VR.nodup_len W s.length _ (VR.nodup_of_lt VR.roads_sorted) fun x hx => (VR.roads_in x hx).2
theorem ok_vr_roads (T : Txt K mg) : FnOk P w K mg base CX0 4 T.vr_roads.f T.vr_roads.fd ["valley", "a"] (sp1 T.C .roads) := by
  refine T.vr_roads.F.ok scRoads (fun vs H Q E h => ?_) (fun cdv A outer s0 H vs Q E hr h => ?_)
  · obtain ⟨p, s, cs, x, rfl, _⟩ := h
    rfl
  obtain ⟨p, s, cs, x, rfl, R, k⟩ := h
  have W := R.wf
  rw [ans_roads] at k
  have hr1 : Room 1 _ := hr.mono (by decide)
  obtain ⟨tn, htn⟩ := T.c_THERES_NONE
  have few := W.few
  refine ⟨_, (pss_cons (ps_if (pt_not (pt_val (pe_meth (pv 0) T.cl T.has.m (ok_has T) hr1 T.has.b .nil pass0 (pa_cons (pv 1) pa_nil)))) (pss_one (ps_ret (pe_lst (pa_cons (pe_gint rfl htn) pa_nil)))) pss_nil) (pss_cons (ps_set (i := 2) scRoads.nd rfl (Or.inl rfl) (pe_call (ok_roads_needed T) hr rfl T.roads_needed.m T.roads_needed.F.kp T.roads_needed.b .nil pass0 (pa_cons (pv 0) (pa_cons (pv 1) pa_nil)))) (pss_one (ps_ret (pe_lst (pa_cons (pe_callB call_len_seq rfl T.len PySem.boot_len (pa_cons (pv 2) pa_nil)) (pa_cons (pe_call (ok_as_bits T) hr1 rfl T.as_bits.m T.as_bits.F.kp T.as_bits.b .nil pass0 (pa_cons (pv 2) pa_nil)) (pa_cons (pe_call (ok_length_of T) hr1 rfl T.length_of.m T.length_of.F.kp T.length_of.b .nil pass0 (pa_cons (pv 0) (pa_cons (pv 2) pa_nil))) pa_nil)))))))), ?_⟩
  obtain ⟨dx, fs, lu, ll, lc, g1, g2, g3, g4, g5, g6, g7, g8, g9⟩ := R.ex
  refine ⟨_, rfl, p, dx, fs, rfl, g1, g9, _, rfl, p, s, cs, x, rfl, R, _, rfl, ?_⟩
  refine ite2 (fun c => ?_) (fun c => ?_)
  · rw [if_pos (not_lt_of c)] at k
    exact ⟨one_small, fun r hr' => out2 k (Same.refl H) hr' rfl⟩
  have hx := lt_of c
  rw [if_neg (by omega)] at k
  have nr := roads_le W x cs
  refine ⟨_, rfl, _, rfl, p, s, cs, x, rfl, R, hx, fun ln H1 S1 hln h1 => ?_⟩
  refine ⟨_, rfl, ln, _, rfl, .inl (SqL.of h1), ?_⟩
  refine ⟨_, rfl, ln, _, rfl, h1, fun z hz => ?_, by omega, fun H2 S2 => ?_⟩
  · have := (VR.roads_in z hz).2
    omega
  refine ⟨_, rfl, _, rfl, p, ln, s, cs, _, rfl, (R.same S1).same S2, S2 _ _ h1, fun z hz => (VR.roads_in z hz).2, by omega, fun H3 S3 => ?_⟩
  refine ⟨one_small, fun r hr' => out2 k ((S1.trans S2).trans S3) hr' ?_⟩
  rw [vz_length]
  rfl

theorem scRound : FnScope ["valley", "a"] ["valley", "a"] (defScope s_vr_round) := ⟨rfl, rfl, rfl, by decide +kernel, rfl, by decide +kernel, by decide +kernel⟩
theorem ans_round (s : Valley) (cs : List Nat) (x : Nat) : ansOf s cs (.round x) = if s.length ≤ x then [-2] else [((Km460.round s x cs : Nat) : Int)] := by
  show Km460Neutral.told (if s.length ≤ x then Km460.only (-2) else _) = _
  split <;> rfl
theorem ok_vr_round (T : Txt K mg) : FnOk P w K mg base CX0 20 T.vr_round.f T.vr_round.fd ["valley", "a"] (sp1 T.C .round) := by
  refine T.vr_round.F.ok scRound (fun vs H Q E h => ?_) (fun cdv A outer s0 H vs Q E hr h => ?_)
  · obtain ⟨p, s, cs, x, rfl, _⟩ := h
    rfl
  obtain ⟨p, s, cs, x, rfl, R, k⟩ := h
  have W := R.wf
  rw [ans_round] at k
  have hr1 : Room 1 _ := hr.mono (by decide)
  obtain ⟨tn, htn⟩ := T.c_THERES_NONE
  refine ⟨_, (pss_cons (ps_if (pt_not (pt_val (pe_meth (pv 0) T.cl T.has.m (ok_has T) hr1 T.has.b .nil pass0 (pa_cons (pv 1) pa_nil)))) (pss_one (ps_ret (pe_lst (pa_cons (pe_gint rfl htn) pa_nil)))) pss_nil) (pss_one (ps_ret (pe_lst (pa_cons (pe_call (ok_round_length T) hr rfl T.round_length.m T.round_length.F.kp T.round_length.b .nil pass0 (pa_cons (pv 0) (pa_cons (pv 1) pa_nil))) pa_nil))))), ?_⟩
  obtain ⟨dx, fs, lu, ll, lc, g1, g2, g3, g4, g5, g6, g7, g8, g9⟩ := R.ex
  refine ⟨_, rfl, p, dx, fs, rfl, g1, g9, _, rfl, p, s, cs, x, rfl, R, _, rfl, ?_⟩
  refine ite2 (fun c => ?_) (fun c => ?_)
  · rw [if_pos (not_lt_of c)] at k
    exact ⟨one_small, fun r hr' => out2 k (Same.refl H) hr' rfl⟩
  have hx := lt_of c
  rw [if_neg (by omega)] at k
  refine ⟨_, rfl, _, rfl, p, s, cs, x, rfl, R, hx, fun H1 S1 => ?_⟩
  exact ⟨one_small, fun r2 hr2 => out2 k S1 hr2 rfl⟩

theorem scOnce : FnScope ["valley", "a", "passed"] ["valley", "a"] (defScope s_vr_once) := ⟨rfl, rfl, rfl, by decide +kernel, rfl, by decide +kernel, by decide +kernel⟩
theorem ans_once (s : Valley) (cs : List Nat) (x : Nat) : ansOf s cs (.once x) = if s.length ≤ x then [-2] else [((Km460.once s x cs : Nat) : Int), ((Km460.farthest s x cs : Nat) : Int)] := by
  show Km460Neutral.told (if s.length ≤ x then Km460.only (-2) else _) = _
  split <;> rfl
theorem ok_vr_once (T : Txt K mg) : FnOk P w K mg base CX0 19 T.vr_once.f T.vr_once.fd ["valley", "a"] (sp1 T.C .once) := by
  refine T.vr_once.F.ok scOnce (fun vs H Q E h => ?_) (fun cdv A outer s0 H vs Q E hr h => ?_)
  · obtain ⟨p, s, cs, x, rfl, _⟩ := h
    rfl
  obtain ⟨p, s, cs, x, rfl, R, k⟩ := h
  have W := R.wf
  rw [ans_once] at k
  have hr1 : Room 1 _ := hr.mono (by decide)
  have hr2 : Room 2 _ := hr.mono (by decide)
  obtain ⟨tn, htn⟩ := T.c_THERES_NONE
  refine ⟨_, pss_cons (ps_if (pt_not (pt_val (pe_meth (pv 0) T.cl T.has.m (ok_has T) hr1 T.has.b .nil pass0 (pa_cons (pv 1) pa_nil)))) (pss_one (ps_ret (pe_lst (pa_cons (pe_gint rfl htn) pa_nil)))) pss_nil) (pss_cons (ps_set (i := 2) scOnce.nd rfl (Or.inl rfl) (pe_call (ok_way_from T) hr rfl T.way_from.m T.way_from.F.kp T.way_from.b .nil pass0 (pa_cons (pv 0) (pa_cons (pv 1) pa_nil))))
    (pss_one (ps_ret (pe_lst (pa_cons (pe_call (ok_length_along T) hr2 rfl T.length_along.m T.length_along.F.kp T.length_along.b .nil pass0 (pa_cons (pv 0) (pa_cons (pv 2) pa_nil))) (pa_cons (pe_ix ix_list (pv 2) (pe_un un_neg pe_int) (fun _ _ => rfl)) pa_nil)))))), ?_⟩
  obtain ⟨dx, fs, lu, ll, lc, g1, g2, g3, g4, g5, g6, g7, g8, g9⟩ := R.ex
  refine ⟨_, rfl, p, dx, fs, rfl, g1, g9, _, rfl, p, s, cs, x, rfl, R, _, rfl, ?_⟩
  refine ite2 (fun c => ?_) (fun c => ?_)
  · rw [if_pos (not_lt_of c)] at k
    exact ⟨one_small, fun r hr' => out2 k (Same.refl H) hr' rfl⟩
  have hx := lt_of c
  rw [if_neg (by omega)] at k
  refine ⟨_, rfl, _, rfl, p, s, cs, x, rfl, R, hx, fun r H1 S1 hr' h1 => ?_⟩
  have w1 := VR.way_walk W hx R.cs_lt
  have w2 := VR.way_long W hx R.cs_lt
  have hl := way_le W hx R.cs_lt
  obtain ⟨z, ez⟩ := VR.way_end W hx R.cs_lt
  refine ⟨_, rfl, _, rfl, p, r, s, cs, _, rfl, R.same S1, h1, w1.all, way_pos W hx R.cs_lt, by omega, fun H2 S2 => ?_⟩
  refine ⟨_, rfl, 1, rfl, r, _, _, _, rfl, rfl, SqL.of (S2 _ _ h1), (by rw [ez]; exact vz_last z _), one_small, fun r2 hr2 => out2 k (S1.trans S2) hr2 ?_⟩
  rw [w2]
  rfl
end
end VP
end
noncomputable section
set_option Elab.async false
set_option linter.all false
set_option maxRecDepth 100000
namespace VP
open PySem PySem.Spec PyProof.Rows L2 VS VL
open Km457 (Valley Village)
open Km460 (nexts roads tourGo)

theorem cut_take (l : List Nat) (m : Nat) : cutV (vz l) none (some ((m : Nat) : Int)) = vz (l.take m) := by
  unfold cutV
  have e1 : HT.sIx (vz l).length 0 none = 0 := rfl
  have e2 : HT.sIx (vz l).length (vz l).length (some ((m : Nat) : Int)) = min m (vz l).length := by
    exact HT.sIx_nat _ _ m
  rw [e1, e2, List.drop_zero, Nat.sub_zero, ← vz_take]
  by_cases h : m ≤ (vz l).length
  · rw [Nat.min_eq_left h]
  · rw [Nat.min_eq_right (by omega), List.take_of_length_le (Nat.le_refl _), List.take_of_length_le (by omega)]
/-- the k-th village, how far, how many -/
def toldAt (s : Valley) (l : List Nat) (k : Nat) : List Int := match l[k]? with
  | none => [-33]
  | some v => [(v : Int), ((((VR.rds (l.take (k + 1))).map (VR.ln s)).sum : Nat) : Int), ((l.length : Nat) : Int)]
section
variable {P : Program} {w : World} {K : PySem.W.Frag} {mg : Str → Option Value} {base : Heap}
def spTA (C : Addr) : Sp := fun vs H Q _ => ∃ (p a : Addr) (s : Valley) (cs l : List Nat) (k : Nat), vs = [.ref p, .ref a, .int (k : Int)] ∧ RAt C H p s cs ∧ H a = some (li l) ∧ (∀ x ∈ l, x < s.length) ∧ l.length ≤ 100000 ∧ outZ H (toldAt s l k) Q
theorem scTA : FnScope ["valley", "passed", "k"] ["valley", "passed", "k"] (defScope s_told_at) := ⟨rfl, rfl, rfl, by decide +kernel, rfl, by decide +kernel, by decide +kernel⟩
theorem ok_told_at (T : Txt K mg) : FnOk P w K mg base CX0 3 T.told_at.f T.told_at.fd ["valley", "passed", "k"] (spTA T.C) := by
  refine T.told_at.F.ok scTA (fun vs H Q E h => ?_) (fun cdv A outer s0 H vs Q E hr h => ?_)
  · obtain ⟨p, a, s, cs, l, k, rfl, _⟩ := h
    rfl
  obtain ⟨p, a, s, cs, l, k, rfl, R, ha, hl, hl2, q⟩ := h
  have W := R.wf
  obtain ⟨tn, htn⟩ := T.c_NOT_HERE
  refine ⟨_, pss_cons (ps_if (pt_cmpR op_ge (pv 2) (pe_callB call_len_seq rfl T.len PySem.boot_len (pa_cons (pv 1) pa_nil)) (nomark _)) (pss_one (ps_ret (pe_lst (pa_cons (pe_gint rfl htn) pa_nil)))) pss_nil)
    (pss_one (ps_ret (pe_lst (pa_cons (pe_ix ix_list (pv 1) (pv 2) (fun _ _ => rfl)) (pa_cons (pe_call (ok_length_along T) hr rfl T.length_along.m T.length_along.F.kp T.length_along.b .nil pass0 (pa_cons (pv 0) (pa_cons (pe_slice sl_list (pv 1) po_none (po_some (pe_op op_add (pv 2) pe_int))) pa_nil))) (pa_cons (pe_callB call_len_seq rfl T.len PySem.boot_len (pa_cons (pv 1) pa_nil)) pa_nil)))))), ?_⟩
  refine ⟨_, rfl, _, rfl, a, _, rfl, .inl (SqL.of ha), _, _, rfl, rfl, _, rfl, ?_⟩
  rw [vz_length]
  refine ite2 (fun c => ?_) (fun c => ?_)
  · have hk : l.length ≤ k := by have := of_decide_eq_true c; omega
    have e : toldAt s l k = [-33] := by unfold toldAt; rw [List.getElem?_eq_none hk]
    rw [e] at q
    exact ⟨one_small, fun r hr' => out2 q (Same.refl H) hr' rfl⟩
  · have hk : k < l.length := by have := of_decide_eq_false (Bool.eq_false_iff.mpr c); omega
    have hx := List.getElem?_eq_getElem hk
    have e : toldAt s l k = [((l[k] : Nat) : Int), ((((VR.rds (l.take (k + 1))).map (VR.ln s)).sum : Nat) : Int), ((l.length : Nat) : Int)] := by unfold toldAt; rw [hx]
    rw [e] at q
    refine ⟨_, rfl, _, rfl, a, _, _, _, rfl, rfl, SqL.of ha, vz_at hx, _, rfl, _, rfl, _, rfl, _, _, rfl, rfl, _, rfl, a, _, rfl, SqL.of ha, fun r hr' => ?_⟩
    have e2 : cutV (vz l) none (some ((k : Int) + 1)) = vz (l.take (k + 1)) := cut_take l (k + 1)
    rw [e2]
    have S1 : Same H (upd H r (li (l.take (k + 1)))) := same_new hr' _
    refine ⟨p, r, s, cs, _, rfl, R.same S1, upd_same, fun x hx => hl x (List.mem_of_mem_take hx), ?_, ?_, fun H2 S2 => ?_⟩
    · rw [List.length_take]
      omega
    · rw [List.length_take]
      omega
    refine ⟨_, rfl, a, _, rfl, .inl (SqL.of (S2 _ _ (S1 _ _ ha))), one_small, fun r2 hr2 => out2 q (S1.trans S2) hr2 ?_⟩
    rw [vz_length]
    rfl

theorem long_take {s : Valley} (W : VR.WF s) {l : List Nat} (h : VR.Walk s l) (n : Nat) : Km460.long s (l.take n) = ((VR.rds (l.take n)).map (VR.ln s)).sum := by
  refine VR.long_rds W ?_
  have e : l = l.take n ++ l.drop n := (List.take_append_drop n l).symm
  rw [e] at h
  exact h.left
theorem ans_tour {s : Valley} (W : VR.WF s) {cs : List Nat} (hc : ∀ c ∈ cs, c < s.length) (x k : Nat) : ansOf s cs (.tour x k) = if s.length ≤ x then [-2] else toldAt s (Km460.tour s x cs) k := by
  show Km460Neutral.told (if s.length ≤ x then Km460.only (-2) else _) = _
  split
  · rfl
  · rename_i h
    have w1 := (VR.round_long W (a := x) (by omega) hc).1
    show Km460Neutral.told (match (Km460.tour s x cs)[k]? with | none => Km460.only (-33) | some v => ⟨((v : Nat) : Int), [Km460.long s ((Km460.tour s x cs).take (k + 1)), (Km460.tour s x cs).length]⟩) = _
    unfold toldAt
    cases (Km460.tour s x cs)[k]? with
    | none => rfl
    | some v =>
      rw [long_take W w1]
      rfl
theorem ans_way {s : Valley} (W : VR.WF s) {cs : List Nat} (hc : ∀ c ∈ cs, c < s.length) (x k : Nat) : ansOf s cs (.way x k) = if s.length ≤ x then [-2] else toldAt s (Km460.way s x cs) k := by
  show Km460Neutral.told (if s.length ≤ x then Km460.only (-2) else _) = _
  split
  · rfl
  · rename_i h
    have w1 := VR.way_walk W (a := x) (by omega) hc
    show Km460Neutral.told (match (Km460.way s x cs)[k]? with | none => Km460.only (-33) | some v => ⟨((v : Nat) : Int), [Km460.long s ((Km460.way s x cs).take (k + 1)), (Km460.way s x cs).length]⟩) = _
    unfold toldAt
    cases (Km460.way s x cs)[k]? with
    | none => rfl
    | some v =>
      rw [long_take W w1]
      rfl
theorem scTour : FnScope ["valley", "a", "k"] ["valley", "a", "k"] (defScope s_vr_tour) := ⟨rfl, rfl, rfl, by decide +kernel, rfl, by decide +kernel, by decide +kernel⟩
theorem ok_vr_tour (T : Txt K mg) : FnOk P w K mg base CX0 19 T.vr_tour.f T.vr_tour.fd ["valley", "a", "k"] (sp2 T.C .tour) := by
  refine T.vr_tour.F.ok scTour (fun vs H Q E h => ?_) (fun cdv A outer s0 H vs Q E hr h => ?_)
  · obtain ⟨p, s, cs, x, y, rfl, _⟩ := h
    rfl
  obtain ⟨p, s, cs, x, y, rfl, R, k⟩ := h
  have W := R.wf
  rw [ans_tour W R.cs_lt] at k
  have hr1 : Room 1 _ := hr.mono (by decide)
  have hr3 : Room 3 _ := hr.mono (by decide)
  obtain ⟨tn, htn⟩ := T.c_THERES_NONE
  refine ⟨_, pss_cons (ps_if (pt_not (pt_val (pe_meth (pv 0) T.cl T.has.m (ok_has T) hr1 T.has.b .nil pass0 (pa_cons (pv 1) pa_nil)))) (pss_one (ps_ret (pe_lst (pa_cons (pe_gint rfl htn) pa_nil)))) pss_nil) (pss_one (ps_ret (pe_call (ok_told_at T) hr3 rfl T.told_at.m T.told_at.F.kp T.told_at.b .nil pass0 (pa_cons (pv 0) (pa_cons (pe_call (ok_round_from T) hr rfl T.round_from.m T.round_from.F.kp T.round_from.b .nil pass0 (pa_cons (pv 0) (pa_cons (pv 1) pa_nil))) (pa_cons (pv 2) pa_nil)))))), ?_⟩
  obtain ⟨dx, fs, lu, ll, lc, g1, g2, g3, g4, g5, g6, g7, g8, g9⟩ := R.ex
  refine ⟨_, rfl, p, dx, fs, rfl, g1, g9, _, rfl, p, s, cs, x, rfl, R, _, rfl, ?_⟩
  refine ite2 (fun c => ?_) (fun c => ?_)
  · rw [if_pos (not_lt_of c)] at k
    exact ⟨one_small, fun r hr' => out2 k (Same.refl H) hr' rfl⟩
  have hx := lt_of c
  rw [if_neg (by omega)] at k
  refine ⟨_, rfl, _, rfl, _, rfl, p, s, cs, x, rfl, R, hx, fun r H1 S1 hr' h1 => ?_⟩
  have w1 := (VR.round_long W hx R.cs_lt).1
  have hl := tour_le W (cs := cs) hx
  refine ⟨_, rfl, p, r, s, cs, _, y, rfl, R.same S1, h1, w1.all, by omega, fun r2 H2 S2 hr2 h2 => ?_⟩
  exact k r2 H2 (S1.trans S2) (S1.free hr2) h2
theorem scWay : FnScope ["valley", "a", "k"] ["valley", "a", "k"] (defScope s_vr_way) := ⟨rfl, rfl, rfl, by decide +kernel, rfl, by decide +kernel, by decide +kernel⟩
theorem ok_vr_way (T : Txt K mg) : FnOk P w K mg base CX0 19 T.vr_way.f T.vr_way.fd ["valley", "a", "k"] (sp2 T.C .way) := by
  refine T.vr_way.F.ok scWay (fun vs H Q E h => ?_) (fun cdv A outer s0 H vs Q E hr h => ?_)
  · obtain ⟨p, s, cs, x, y, rfl, _⟩ := h
    rfl
  obtain ⟨p, s, cs, x, y, rfl, R, k⟩ := h
  have W := R.wf
  rw [ans_way W R.cs_lt] at k
  have hr1 : Room 1 _ := hr.mono (by decide)
  have hr3 : Room 3 _ := hr.mono (by decide)
  obtain ⟨tn, htn⟩ := T.c_THERES_NONE
  refine ⟨_, pss_cons (ps_if (pt_not (pt_val (pe_meth (pv 0) T.cl T.has.m (ok_has T) hr1 T.has.b .nil pass0 (pa_cons (pv 1) pa_nil)))) (pss_one (ps_ret (pe_lst (pa_cons (pe_gint rfl htn) pa_nil)))) pss_nil) (pss_one (ps_ret (pe_call (ok_told_at T) hr3 rfl T.told_at.m T.told_at.F.kp T.told_at.b .nil pass0 (pa_cons (pv 0) (pa_cons (pe_call (ok_way_from T) hr rfl T.way_from.m T.way_from.F.kp T.way_from.b .nil pass0 (pa_cons (pv 0) (pa_cons (pv 1) pa_nil))) (pa_cons (pv 2) pa_nil)))))), ?_⟩
  obtain ⟨dx, fs, lu, ll, lc, g1, g2, g3, g4, g5, g6, g7, g8, g9⟩ := R.ex
  refine ⟨_, rfl, p, dx, fs, rfl, g1, g9, _, rfl, p, s, cs, x, rfl, R, _, rfl, ?_⟩
  refine ite2 (fun c => ?_) (fun c => ?_)
  · rw [if_pos (not_lt_of c)] at k
    exact ⟨one_small, fun r hr' => out2 k (Same.refl H) hr' rfl⟩
  have hx := lt_of c
  rw [if_neg (by omega)] at k
  refine ⟨_, rfl, _, rfl, _, rfl, p, s, cs, x, rfl, R, hx, fun r H1 S1 hr' h1 => ?_⟩
  have w1 := VR.way_walk W hx R.cs_lt
  have hl := way_le W hx R.cs_lt
  refine ⟨_, rfl, p, r, s, cs, _, y, rfl, R.same S1, h1, w1.all, by omega, fun r2 H2 S2 hr2 h2 => ?_⟩
  exact k r2 H2 (S1.trans S2) (S1.free hr2) h2

theorem ans_when {s : Valley} (W : VR.WF s) {cs : List Nat} (hc : ∀ c ∈ cs, c < s.length) (x v : Nat) : ansOf s cs (.when x v) = if s.length ≤ x ∨ s.length ≤ v then [-2] else
    if v ∈ Km460.way s x cs then [((((VR.rds ((Km460.way s x cs).take ((Km460.way s x cs).idxOf v + 1))).map (VR.ln s)).sum : Nat) : Int)] else [-33] := by
  show Km460Neutral.told (if s.length ≤ x ∨ s.length ≤ v then Km460.only (-2) else _) = _
  split
  · rfl
  · rename_i h
    have w1 := VR.way_walk W (a := x) (by omega) hc
    show Km460Neutral.told (match Km460.when s (Km460.way s x cs) v with | none => Km460.only (-33) | some n => Km460.only ((n : Nat) : Int)) = _
    rw [VR.when_eq W w1 v]
    by_cases hm : v ∈ Km460.way s x cs
    · rw [if_pos hm, if_pos hm]
      rfl
    · rw [if_neg hm, if_neg hm]
      rfl
theorem scWhen : FnScope ["valley", "a", "v", "passed"] ["valley", "a", "v"] (defScope s_vr_when) := ⟨rfl, rfl, rfl, by decide +kernel, rfl, by decide +kernel, by decide +kernel⟩
theorem ok_vr_when (T : Txt K mg) : FnOk P w K mg base CX0 19 T.vr_when.f T.vr_when.fd ["valley", "a", "v"] (sp2 T.C .when) := by
  refine T.vr_when.F.ok scWhen (fun vs H Q E h => ?_) (fun cdv A outer s0 H vs Q E hr h => ?_)
  · obtain ⟨p, s, cs, x, y, rfl, _⟩ := h
    rfl
  obtain ⟨p, s, cs, x, y, rfl, R, k⟩ := h
  have W := R.wf
  rw [ans_when W R.cs_lt] at k
  have hr1 : Room 1 _ := hr.mono (by decide)
  have hr2 : Room 2 _ := hr.mono (by decide)
  obtain ⟨tn, htn⟩ := T.c_THERES_NONE
  obtain ⟨th, hth⟩ := T.c_NOT_HERE
  refine ⟨_, pss_cons (ps_if (pw_or (pt_not (pt_val (pe_meth (pv 0) T.cl T.has.m (ok_has T) hr1 T.has.b .nil pass0 (pa_cons (pv 1) pa_nil)))) (pw_or1 (pt_not (pt_val (pe_meth (pv 0) T.cl T.has.m (ok_has T) hr1 T.has.b .nil pass0 (pa_cons (pv 2) pa_nil)))))).pt (pss_one (ps_ret (pe_lst (pa_cons (pe_gint rfl htn) pa_nil)))) pss_nil) (pss_cons (ps_set (i := 3) scWhen.nd rfl (Or.inl rfl) (pe_call (ok_way_from T) hr rfl T.way_from.m T.way_from.F.kp T.way_from.b .nil pass0 (pa_cons (pv 0) (pa_cons (pv 1) pa_nil))))
    (pss_cons (ps_if (pt_cmpR op_notIn_seq (pv 2) (pv 3) (by with_unfolding_all rfl)) (pss_one (ps_ret (pe_lst (pa_cons (pe_gint rfl hth) pa_nil)))) pss_nil)
    (pss_one (ps_ret (pe_lst (pa_cons (pe_call (ok_length_along T) hr2 rfl T.length_along.m T.length_along.F.kp T.length_along.b .nil pass0 (pa_cons (pv 0) (pa_cons (pe_slice sl_list (pv 3) po_none (po_some (pe_op op_add (pe_bm PySem.F.plainAttrs_list PySem.F.slot_list_index PySem.F.type_list_index mt_index (pv 3) (pa_cons (pv 2) pa_nil)) pe_int))) pa_nil))) pa_nil)))))), ?_⟩
  obtain ⟨dx, fs, lu, ll, lc, g1, g2, g3, g4, g5, g6, g7, g8, g9⟩ := R.ex
  refine ⟨_, rfl, p, dx, fs, rfl, g1, g9, _, rfl, p, s, cs, x, rfl, R, _, rfl, ?_⟩
  refine ite2 (fun c => ?_) (fun c => ?_)
  · rw [if_pos (.inl (not_lt_of c))] at k
    refine iteT ?_
    exact ⟨one_small, fun r hr' => out2 k (Same.refl H) hr' rfl⟩
  have hx := lt_of c
  refine ⟨_, rfl, p, dx, fs, rfl, g1, g9, _, rfl, p, s, cs, y, rfl, R, _, rfl, ?_⟩
  refine ite2 (fun c => ?_) (fun c => ?_)
  · rw [if_pos (.inr (not_lt_of c))] at k
    exact ⟨one_small, fun r hr' => out2 k (Same.refl H) hr' rfl⟩
  have hy := lt_of c
  rw [if_neg (by omega)] at k
  refine ⟨_, rfl, _, rfl, p, s, cs, x, rfl, R, hx, fun lp H1 S1 hlp h1 => ?_⟩
  have w1 := VR.way_walk W hx R.cs_lt
  have hl := way_le W hx R.cs_lt
  refine ⟨_, rfl, _, rfl, lp, _, rfl, .inl (SqL.of h1), rfl, vz_flat _, _, rfl, ?_⟩
  have ein : (if true = true then !inV (V.int (y : Int)) (vz (Km460.way s x cs)) else inV (V.int (y : Int)) (vz (Km460.way s x cs))) = !decide (y ∈ Km460.way s x cs) := by
    rw [if_pos rfl, vz_in]
  show (if (if true = true then !inV (V.int (y : Int)) (vz (Km460.way s x cs)) else inV (V.int (y : Int)) (vz (Km460.way s x cs))) = true then _ else _)
  rw [ein]
  refine ite2 (fun c => ?_) (fun c => ?_)
  · have hm : y ∉ Km460.way s x cs := by simpa using c
    rw [if_neg hm] at k
    exact ⟨one_small, fun r hr' => out2 k S1 hr' rfl⟩
  · have hm : y ∈ Km460.way s x cs := by
      by_cases q : y ∈ Km460.way s x cs
      · exact q
      · exact absurd (by simpa using q) c
    rw [if_pos hm] at k
    generalize Km460.way s x cs = l at *
    have hi : l.idxOf y < l.length := List.idxOf_lt_length_iff.mpr hm
    have hz : l[l.idxOf y]? = some y := by
      rw [List.getElem?_eq_getElem hi]
      exact congrArg some (List.getElem_idxOf hi)
    refine ⟨_, rfl, _, rfl, _, rfl, .inl ⟨rfl, _, SqL.of h1⟩, _, rfl, lp, _, _, l.idxOf y, _, rfl, rfl, SqL.of h1, rfl, vz_flat _, vz_get hz, ?_, fun m z' hmj hz' => ?_, _, _, rfl, rfl, _, rfl, lp, _, rfl, SqL.of h1, fun r hr' => ?_⟩
    · show ((y : Int) == (y : Int)) = true
      exact beq_self_eq_true _
    · obtain ⟨u, hu, rfl⟩ := vz_get' hz'
      show ((u : Int) == (y : Int)) = false
      rw [beq_eq_false_iff_ne]
      intro e
      have e : u = y := by omega
      subst e
      have hmlt : m < l.length := by omega
      have hn := List.not_of_lt_findIdx (p := fun x => x == u) (xs := l) hmj
      rw [List.getElem?_eq_getElem hmlt] at hu
      have hu : l[m] = u := Option.some.inj hu
      simp [hu] at hn
    have e2 : cutV (vz l) none (some (((l.idxOf y : Nat) : Int) + 1)) = vz (l.take (l.idxOf y + 1)) := cut_take l (l.idxOf y + 1)
    rw [e2]
    have S2 : Same H1 (upd H1 r (li (l.take (l.idxOf y + 1)))) := same_new hr' _
    refine ⟨p, r, s, cs, _, rfl, (R.same S1).same S2, upd_same, fun z hz => w1.all z (List.mem_of_mem_take hz), ?_, ?_, fun H3 S3 => ?_⟩
    · rw [List.length_take]
      omega
    · rw [List.length_take]
      omega
    exact ⟨one_small, fun r2 hr2 => out2 k ((S1.trans S2).trans S3) hr2 rfl⟩
end
end VP
end
noncomputable section
set_option Elab.async false
set_option linter.all false
set_option maxRecDepth 100000
namespace VP
open PySem PySem.Spec PyProof.Rows L2 VS VL
open Km457 (Valley Village)
open Km460 (nexts roads tourGo)
/-- xs.count(k) of ints -/
def rCount (K : PySem.W.Frag) : V → List V → Hp → VK → Prop := fun x xs H Q => ∃ (a : Addr) (ns : List Int) (k : Int), x = V.ref a ∧ xs = [V.int k] ∧ SqL K H a (ns.map V.int) ∧ Q (.int ((ns.count k : Nat) : Int)) H
theorem mt_countL {X : Cx} : MtR X "list.count" (rCount X.K) := by
  intro pins s σ H x xs v us Q I rx rxs h
  obtain ⟨a, ns, k, rfl, rfl, hs, q⟩ := h
  cases rx
  obtain ⟨u, rfl, ru⟩ := vals1 rxs
  obtain ⟨t, rfl⟩ := ru
  obtain ⟨its, rv, hl, _⟩ := I.list hs
  exact count_list_ints hl.isList rv.ints ⟨.int _, H, I.tok _, ⟨_, rfl⟩, q⟩
theorem zs_count (l : List Nat) (x : Nat) : (zs l).count (x : Int) = Km460.count l x := by
  unfold Km460.count zs
  induction l with
  | nil => rfl
  | cons y l ih =>
    rw [List.map_cons, List.count_cons, ih, List.filter_cons]
    by_cases e : y = x
    · subst e; simp
    · have : ((y : Int) == (x : Int)) = false := by
        rw [beq_eq_false_iff_ne]
        omega
      rw [this]
      simp [e]
theorem long_take2 {s : Valley} {l : List Nat} : ∀ {i x y : Nat}, l[i]? = some x → l[i + 1]? = some y → Km460.long s (l.take (i + 2)) = Km460.long s (l.take (i + 1)) + VR.far s x y := by
  induction l with
  | nil => intro i x y h; simp at h
  | cons z l ih =>
    intro i x y hx hy
    cases l with
    | nil => simp at hy
    | cons u l =>
      cases i with
      | zero =>
        have hx : z = x := by simpa using hx
        have hy : u = y := by simpa using hy
        rw [← hx, ← hy]
        show Km457.far s z u + 0 = 0 + Km457.far s z u
        omega
      | succ i =>
        have h := ih (i := i) (x := x) (y := y) (by simpa using hx) (by simpa using hy)
        show Km460.long s (z :: u :: l.take (i + 1)) = Km460.long s (z :: u :: l.take i) + _
        show Km457.far s z u + Km460.long s (u :: l.take (i + 1)) = Km457.far s z u + Km460.long s (u :: l.take i) + _
        have h : Km460.long s (u :: l.take (i + 1)) = Km460.long s (u :: l.take i) + VR.far s x y := h
        rw [h]
        omega
section
variable {P : Program} {w : World} {K : PySem.W.Frag} {mg : Str → Option Value} {base : Heap}
def farL (s : Valley) (l : List Nat) (i : Nat) : Nat := VR.far s (l.getD i 0) (l.getD (i + 1) 0)
theorem long_sum {s : Valley} {l : List Nat} : ∀ {i : Nat}, i + 1 ≤ l.length → Km460.long s (l.take (i + 1)) = ((List.range i).map (farL s l)).sum
  | 0, h => by
    cases l with
    | nil => simp at h
    | cons x l => rfl
  | i + 1, h => by
    have ih := long_sum (s := s) (l := l) (i := i) (by omega)
    have hx : l[i]? = some (l.getD i 0) := by rw [List.getD_eq_getElem?_getD, List.getElem?_eq_getElem (by omega)]; rfl
    have hy : l[i + 1]? = some (l.getD (i + 1) 0) := by rw [List.getD_eq_getElem?_getD, List.getElem?_eq_getElem (by omega)]; rfl
    rw [long_take2 hx hy, ih, List.range_succ, List.map_append, List.sum_append]
    simp [farL]
def spFS (C : Addr) : Sp := fun vs H Q _ => ∃ (p a : Addr) (s : Valley) (cs l : List Nat), vs = [.ref p, .ref a] ∧ RAt C H p s cs ∧ H a = some (li l) ∧ (∀ x ∈ l, x < s.length) ∧ 1 ≤ l.length ∧ l.length ≤ 100000 ∧ ∀ H', Same H H' → Q (.int ((Km460.long s l : Nat) : Int)) H'
theorem scFS : FnScope ["valley", "stops", "k"] ["valley", "stops"] (defScope s_far_by_stops) := ⟨rfl, rfl, rfl, by decide +kernel, rfl, by decide +kernel, by decide +kernel⟩
theorem ok_far_by_stops (T : Txt K mg) : FnOk P w K mg base CX0 4 T.far_by_stops.f T.far_by_stops.fd ["valley", "stops"] (spFS T.C) := by
  refine T.far_by_stops.F.ok scFS (fun vs H Q E h => ?_) (fun cdv A outer s0 H vs Q E hr h => ?_)
  · obtain ⟨p, a, s, cs, l, rfl, _⟩ := h
    rfl
  obtain ⟨p, a, s, cs, l, rfl, R, ha, hl, hl1, hl2, k⟩ := h
  refine ⟨_, pss_one (ps_ret (pe_callB (call_sum rfl) rfl T.sum PyProof.Rows.boot_sum (pa_cons (pe_lc (own := [("k", 2)]) rfl scFS.nd (pi_range2 rfl T.range (pa_cons pe_int (pa_cons (pe_callB call_len_seq rfl T.len PySem.boot_len (pa_cons (pv 1) pa_nil)) pa_nil))) (blkOk_by (N := ["valley", "stops", "k"]) (sc := defScope s_far_by_stops) (by decide +kernel)) (fun _ _ _ _ _ => pg_name (i := 2) scFS.nd rfl (Or.inl rfl)) (fun _ _ _ _ _ => pts_nil) (fun _ _ _ _ _ => (pe_call (ok_far_between T) hr rfl T.far_between.m T.far_between.F.kp T.far_between.b .nil pass0 (pa_cons (pv 0) (pa_cons (pe_ix (ix_listK K rfl) (pv 1) (pe_op op_sub (pv 2) pe_int) (fun _ _ => rfl)) (pa_cons (pe_ix (ix_listK K rfl) (pv 1) (pv 2) (fun _ _ => rfl)) pa_nil)))))) pa_nil))), ?_⟩
  refine ⟨_, rfl, a, _, rfl, .inl (SqL.of ha), _, _, rfl, ⟨by decide, by decide, ?_, ?_⟩, fun D hD => ?_⟩
  · rw [vz_length]; omega
  · rw [vz_length]; omega
  have en : (((vz l).length : Int) - 1).toNat = l.length - 1 := by rw [vz_length]; omega
  rw [en]
  refine lc_range (fun i H' => H' D = some (li ((List.range i).map (farL s l))) ∧ Same H H') ⟨upd_same, same_new hD _⟩ ?_ ?_
  · rintro i H1 hi ⟨h1, S1⟩
    have hx : l[i]? = some (l.getD i 0) := by rw [List.getD_eq_getElem?_getD, List.getElem?_eq_getElem (by omega)]; rfl
    have hy : l[i + 1]? = some (l.getD (i + 1) 0) := by rw [List.getD_eq_getElem?_getD, List.getElem?_eq_getElem (by omega)]; rfl
    have ha1 := S1 _ _ ha
    refine ⟨rfl, yes ?_⟩
    refine ⟨_, rfl, _, rfl, _, rfl, _, _, rfl, rfl, a, _, _, _, rfl, rfl, SqL.of ha1, at_of (j := i) (by omega) (vz_get hx), _, rfl, _, rfl, a, _, _, _, rfl, rfl, SqL.of ha1, at_of (j := i + 1) (by omega) (vz_get hy), ?_⟩
    refine ⟨p, s, cs, _, _, rfl, R.same S1, hl _ (List.mem_of_getElem? hx), hl _ (List.mem_of_getElem? hy), fun H2 S2 => ?_⟩
    refine ⟨_, S2 _ _ h1, smallL ?_, ?_, keepNew (S1.trans S2) hD _⟩
    · rw [vz_length, List.length_map, List.length_range]
      omega
    · rw [upd_same, List.range_succ, List.map_append]
      exact congrArg some (li_snoc _ (farL s l i))
  · rintro H1 ⟨h1, S1⟩
    refine ⟨D, _, rfl, SqL.of h1, ?_⟩
    have e := long_sum (s := s) (l := l) (i := l.length - 1) (by omega)
    rw [List.take_of_length_le (by omega)] at e
    rw [zs_sum, ← e]
    exact k H1 S1

theorem scLast : FnScope ["valley", "a", "farthest"] ["valley", "a"] (defScope s_vr_last) := ⟨rfl, rfl, rfl, by decide +kernel, rfl, by decide +kernel, by decide +kernel⟩
theorem ans_last (s : Valley) (cs : List Nat) (x : Nat) : ansOf s cs (.last x) = if s.length ≤ x then [-2] else [((Km460.farthest s x cs : Nat) : Int), ((VR.far s x (Km460.farthest s x cs) : Nat) : Int)] := by
  show Km460Neutral.told (if s.length ≤ x then Km460.only (-2) else _) = _
  split <;> rfl
theorem ok_vr_last (T : Txt K mg) : FnOk P w K mg base CX0 5 T.vr_last.f T.vr_last.fd ["valley", "a"] (sp1 T.C .last) := by
  refine T.vr_last.F.ok scLast (fun vs H Q E h => ?_) (fun cdv A outer s0 H vs Q E hr h => ?_)
  · obtain ⟨p, s, cs, x, rfl, _⟩ := h
    rfl
  obtain ⟨p, s, cs, x, rfl, R, k⟩ := h
  have W := R.wf
  rw [ans_last] at k
  have hr1 : Room 1 _ := hr.mono (by decide)
  have hr3 : Room 3 _ := hr.mono (by decide)
  obtain ⟨tn, htn⟩ := T.c_THERES_NONE
  refine ⟨_, (pss_cons (ps_if (pt_not (pt_val (pe_meth (pv 0) T.cl T.has.m (ok_has T) hr1 T.has.b .nil pass0 (pa_cons (pv 1) pa_nil)))) (pss_one (ps_ret (pe_lst (pa_cons (pe_gint rfl htn) pa_nil)))) pss_nil) (pss_cons (ps_set (i := 2) scLast.nd rfl (Or.inl rfl) (pe_call (ok_farthest_from T) hr rfl T.farthest_from.m T.farthest_from.F.kp T.farthest_from.b .nil pass0 (pa_cons (pv 0) (pa_cons (pv 1) pa_nil)))) (pss_one (ps_ret (pe_lst (pa_cons (pv 2) (pa_cons (pe_call (ok_far_between T) hr3 rfl T.far_between.m T.far_between.F.kp T.far_between.b .nil pass0 (pa_cons (pv 0) (pa_cons (pv 1) (pa_cons (pv 2) pa_nil)))) pa_nil))))))), ?_⟩
  obtain ⟨dx, fs, lu, ll, lc, g1, g2, g3, g4, g5, g6, g7, g8, g9⟩ := R.ex
  refine ⟨_, rfl, p, dx, fs, rfl, g1, g9, _, rfl, p, s, cs, x, rfl, R, _, rfl, ?_⟩
  refine ite2 (fun c => ?_) (fun c => ?_)
  · rw [if_pos (not_lt_of c)] at k
    exact ⟨one_small, fun r hr' => out2 k (Same.refl H) hr' rfl⟩
  have hx := lt_of c
  rw [if_neg (by omega)] at k
  refine ⟨_, rfl, _, rfl, p, s, cs, x, rfl, R, hx, fun H1 S1 => ?_⟩
  refine ⟨_, rfl, _, rfl, _, rfl, _, rfl, p, s, cs, x, _, rfl, R.same S1, hx, VR.farthest_lt W hx R.cs_lt, fun H2 S2 => ?_⟩
  exact ⟨one_small, fun r hr' => out2 k (S1.trans S2) hr' rfl⟩

theorem scPass : FnScope ["valley", "a", "w"] ["valley", "a", "w"] (defScope s_vr_passes) := ⟨rfl, rfl, rfl, by decide +kernel, rfl, by decide +kernel, by decide +kernel⟩
theorem ans_passes (s : Valley) (cs : List Nat) (x y : Nat) : ansOf s cs (.passes x y) = if s.length ≤ x ∨ s.length ≤ y then [-2] else [((Km460.count (Km460.tour s x cs) y : Nat) : Int), ((Km460.count (Km460.way s x cs) y : Nat) : Int)] := by
  show Km460Neutral.told (if s.length ≤ x ∨ s.length ≤ y then Km460.only (-2) else _) = _
  split <;> rfl
theorem ok_vr_passes (T : Txt K mg) : FnOk P w K mg base CX0 19 T.vr_passes.f T.vr_passes.fd ["valley", "a", "w"] (sp2 T.C .passes) := by
  refine T.vr_passes.F.ok scPass (fun vs H Q E h => ?_) (fun cdv A outer s0 H vs Q E hr h => ?_)
  · obtain ⟨p, s, cs, x, y, rfl, _⟩ := h
    rfl
  obtain ⟨p, s, cs, x, y, rfl, R, k⟩ := h
  have W := R.wf
  rw [ans_passes] at k
  have hr1 : Room 1 _ := hr.mono (by decide)
  obtain ⟨tn, htn⟩ := T.c_THERES_NONE
  refine ⟨_, (pss_cons (ps_if (pw_or (pt_not (pt_val (pe_meth (pv 0) T.cl T.has.m (ok_has T) hr1 T.has.b .nil pass0 (pa_cons (pv 1) pa_nil)))) (pw_or1 (pt_not (pt_val (pe_meth (pv 0) T.cl T.has.m (ok_has T) hr1 T.has.b .nil pass0 (pa_cons (pv 2) pa_nil)))))).pt (pss_one (ps_ret (pe_lst (pa_cons (pe_gint rfl htn) pa_nil)))) pss_nil) (pss_one (ps_ret (pe_lst (pa_cons (pe_bm PySem.F.plainAttrs_list PySem.F.slot_list_count PySem.F.type_list_count mt_countL (pe_call (ok_round_from T) hr rfl T.round_from.m T.round_from.F.kp T.round_from.b .nil pass0 (pa_cons (pv 0) (pa_cons (pv 1) pa_nil))) (pa_cons (pv 2) pa_nil)) (pa_cons (pe_bm PySem.F.plainAttrs_list PySem.F.slot_list_count PySem.F.type_list_count mt_countL (pe_call (ok_way_from T) hr rfl T.way_from.m T.way_from.F.kp T.way_from.b .nil pass0 (pa_cons (pv 0) (pa_cons (pv 1) pa_nil))) (pa_cons (pv 2) pa_nil)) pa_nil)))))), ?_⟩
  obtain ⟨dx, fs, lu, ll, lc, g1, g2, g3, g4, g5, g6, g7, g8, g9⟩ := R.ex
  refine ⟨_, rfl, p, dx, fs, rfl, g1, g9, _, rfl, p, s, cs, x, rfl, R, _, rfl, ?_⟩
  refine ite2 (fun c => ?_) (fun c => ?_)
  · rw [if_pos (.inl (not_lt_of c))] at k
    refine iteT ?_
    exact ⟨one_small, fun r hr' => out2 k (Same.refl H) hr' rfl⟩
  have hx := lt_of c
  refine ⟨_, rfl, p, dx, fs, rfl, g1, g9, _, rfl, p, s, cs, y, rfl, R, _, rfl, ?_⟩
  refine ite2 (fun c => ?_) (fun c => ?_)
  · rw [if_pos (.inr (not_lt_of c))] at k
    exact ⟨one_small, fun r hr' => out2 k (Same.refl H) hr' rfl⟩
  have hy := lt_of c
  rw [if_neg (by omega)] at k
  refine ⟨_, rfl, _, rfl, p, s, cs, x, rfl, R, hx, fun r1 H1 S1 hr1' h1 => ?_⟩
  refine ⟨.inl ⟨rfl, _, SqL.of h1⟩, _, rfl, r1, _, _, rfl, rfl, SqL.of h1, ?_⟩
  refine ⟨_, rfl, _, rfl, p, s, cs, x, rfl, R.same S1, hx, fun r2 H2 S2 hr2' h2 => ?_⟩
  refine ⟨.inl ⟨rfl, _, SqL.of h2⟩, _, rfl, r2, _, _, rfl, rfl, SqL.of h2, ?_⟩
  refine ⟨one_small, fun r hr' => out2 k (S1.trans S2) hr' ?_⟩
  rw [zs_count, zs_count]
  rfl

theorem scLook : FnScope ["valley", "v"] ["valley", "v"] (defScope s_vr_look) := ⟨rfl, rfl, rfl, by decide +kernel, rfl, by decide +kernel, by decide +kernel⟩
theorem ans_look (s : Valley) (cs : List Nat) (x : Nat) : ansOf s cs (.look x) = if s.length ≤ x then [-2] else [((if x ∈ cs then 1 else 0 : Nat) : Int), ((VR.up s x : Nat) : Int), ((VR.ln s x : Nat) : Int)] := by
  show Km460Neutral.told (if s.length ≤ x then Km460.only (-2) else _) = _
  split
  · rfl
  · show [((Km460.bit (cs.contains x) : Nat) : Int), ((VR.up s x : Nat) : Int), ((VR.ln s x : Nat) : Int)] = _
    have : Km460.bit (cs.contains x) = if x ∈ cs then 1 else 0 := by
      unfold Km460.bit
      by_cases h : x ∈ cs
      · rw [if_pos h, if_pos (by simpa using h)]
      · rw [if_neg h, if_neg (by simpa using h)]
    rw [this]
theorem ok_vr_look (T : Txt K mg) : FnOk P w K mg base CX0 2 T.vr_look.f T.vr_look.fd ["valley", "v"] (sp1 T.C .look) := by
  refine T.vr_look.F.ok scLook (fun vs H Q E h => ?_) (fun cdv A outer s0 H vs Q E hr h => ?_)
  · obtain ⟨p, s, cs, x, rfl, _⟩ := h
    rfl
  obtain ⟨p, s, cs, x, rfl, R, k⟩ := h
  have W := R.wf
  rw [ans_look] at k
  have hr1 : Room 1 _ := hr.mono (by decide)
  obtain ⟨tn, htn⟩ := T.c_THERES_NONE
  refine ⟨_, (pss_cons (ps_if (pt_not (pt_val (pe_meth (pv 0) T.cl T.has.m (ok_has T) hr1 T.has.b .nil pass0 (pa_cons (pv 1) pa_nil)))) (pss_one (ps_ret (pe_lst (pa_cons (pe_gint rfl htn) pa_nil)))) pss_nil) (pss_one (ps_ret (pe_lst (pa_cons (pe_ix ix_list (pe_fld (pv 0) rfl) (pv 1) (fun _ _ => rfl)) (pa_cons (pe_ix ix_list (pe_fld (pv 0) rfl) (pv 1) (fun _ _ => rfl)) (pa_cons (pe_ix ix_list (pe_fld (pv 0) rfl) (pv 1) (fun _ _ => rfl)) pa_nil))))))), ?_⟩
  obtain ⟨dx, fs, lu, ll, lc, g1, g2, g3, g4, g5, g6, g7, g8, g9⟩ := R.ex
  refine ⟨_, rfl, p, dx, fs, rfl, g1, g9, _, rfl, p, s, cs, x, rfl, R, _, rfl, ?_⟩
  refine ite2 (fun c => ?_) (fun c => ?_)
  · rw [if_pos (not_lt_of c)] at k
    exact ⟨one_small, fun r hr' => out2 k (Same.refl H) hr' rfl⟩
  have hx := lt_of c
  rw [if_neg (by omega)] at k
  refine ⟨_, rfl, p, T.C, dx, fs, _, rfl, g1, T.cl, T.n_called, g4, _, rfl, lc, _, _, _, rfl, rfl, SqL.of g7, vz_at (called_at hx), ?_⟩
  refine ⟨_, rfl, p, T.C, dx, fs, _, rfl, g1, T.cl, T.n_ups, g2, _, rfl, lu, _, _, _, rfl, rfl, SqL.of g5, vz_at (up_at hx), ?_⟩
  refine ⟨_, rfl, p, T.C, dx, fs, _, rfl, g1, T.cl, T.n_lengths, g3, _, rfl, ll, _, _, _, rfl, rfl, SqL.of g6, vz_at (ln_at hx), ?_⟩
  exact ⟨one_small, fun r hr' => out2 k (Same.refl H) hr' rfl⟩
end
end VP
end
noncomputable section
set_option Elab.async false
set_option linter.all false
set_option maxRecDepth 100000
namespace VP
open PySem PySem.Spec PyProof.Rows L2 VS VL
open Km457 (Valley Village)
open Km460 (nexts roads tourGo)

/-! where to begin -/
def beg (s : Valley) (cs : List Nat) (n : Nat) : Nat := (List.range n).foldl (fun r a => if Km460.once s a cs < Km460.once s r cs then a else r) 0
theorem beg_is (s : Valley) (cs : List Nat) : ∀ n, (1 ≤ n → beg s cs n < n) ∧ (∀ a, a < n → Km460.once s (beg s cs n) cs ≤ Km460.once s a cs) ∧ (∀ a, a < beg s cs n → Km460.once s (beg s cs n) cs < Km460.once s a cs)
  | 0 => ⟨fun h => by omega, fun a h => by omega, fun a h => by simp [beg] at h⟩
  | n + 1 => by
    obtain ⟨h1, h2, h3⟩ := beg_is s cs n
    have e : beg s cs (n + 1) = if Km460.once s n cs < Km460.once s (beg s cs n) cs then n else beg s cs n := by
      unfold beg
      rw [List.range_succ, List.foldl_append]
      rfl
    by_cases c : Km460.once s n cs < Km460.once s (beg s cs n) cs
    · rw [if_pos c] at e
      rw [e]
      refine ⟨fun _ => by omega, fun a ha => ?_, fun a ha => ?_⟩
      · by_cases q : a = n
        · rw [q]; exact Nat.le_refl _
        · have := h2 a (by omega)
          omega
      · have := h2 a ha
        omega
    · rw [if_neg c] at e
      rw [e]
      refine ⟨fun _ => ?_, fun a ha => ?_, h3⟩
      · by_cases q : n = 0
        · subst q
          simp [beg]
        · have := h1 (by omega)
          omega
      · by_cases q : a = n
        · rw [q]; omega
        · exact h2 a (by omega)

/-! data that are compared -/
theorem shaped_ints (ns : List Int) : SeqAt.shaped (.list (ns.map PyData.int)) = true := by
  have h1 : PyData.canLayAll0 (ns.map PyData.int) = true := by
    induction ns with
    | nil => rfl
    | cons x l ih => simp [PyData.canLayAll0, PyData.canLay0, ih]
  have h2 : PyData.depthAll (ns.map PyData.int) = 0 := by
    induction ns with
    | nil => rfl
    | cons x l ih => simp [PyData.depthAll, PyData.depth, ih (by simpa [PyData.canLayAll0, PyData.canLay0] using h1)]
  simp [SeqAt.shaped, PyData.canLay0, PyData.depth, h1, h2]
theorem eqv_ints (ns ms : List Int) : PyData.eqv (.list (ns.map PyData.int)) (.list (ms.map PyData.int)) = decide (ns = ms) := by
  show PyData.eqvAll (ns.map PyData.int) (ms.map PyData.int) = _
  induction ns generalizing ms with
  | nil => cases ms <;> simp [PyData.eqvAll]
  | cons x l ih =>
    cases ms with
    | nil => simp [PyData.eqvAll]
    | cons y m =>
      simp only [List.map_cons, PyData.eqvAll, PyData.eqv, ih]
      by_cases h : x = y <;> by_cases h' : l = m <;> simp [h, h']
theorem dp_ints {K : PySem.W.Frag} {H : Hp} : ∀ ns : List Int, DpAll K H (ns.map V.int) (ns.map PyData.int)
  | [] => .nil
  | n :: r => .cons (.int n) (dp_ints r)

theorem cvs_perm {s : Valley} {cs : List Nat} (nd : cs.Nodup) (hc : ∀ c ∈ cs, c < s.length) : (cvs s cs).Perm cs := by
  refine (List.perm_ext_iff_of_nodup ?_ nd).mpr fun x => ?_
  · unfold cvs
    exact List.nodup_range.filter _
  · rw [mem_cvs]
    exact ⟨fun h => h.2, fun h => ⟨hc x h, h⟩⟩
theorem cvs_sorted (s : Valley) (cs : List Nat) : (cvs s cs).Pairwise (· < ·) := by
  unfold cvs
  exact List.pairwise_lt_range.filter _
section
variable {P : Program} {w : World} {K : PySem.W.Frag} {mg : Str → Option Value} {base : Heap}
def sp0 (C : Addr) (c : Km460.Call) : Sp := fun vs H Q _ => ∃ (p : Addr) (s : Valley) (cs : List Nat), vs = [.ref p] ∧ RAt C H p s cs ∧ cs.Nodup ∧ outZ H (ansOf s cs c) Q

theorem scBeg : FnScope ["valley", "lengths", "shortest", "a"] ["valley"] (defScope s_vr_begin) := ⟨rfl, rfl, rfl, by decide +kernel, rfl, by decide +kernel, by decide +kernel⟩
theorem ans_begin (s : Valley) (cs : List Nat) : ansOf s cs .bestStart = [((beg s cs s.length : Nat) : Int), ((Km460.once s (beg s cs s.length) cs : Nat) : Int)] := rfl
theorem ok_vr_begin (T : Txt K mg) : FnOk P w K mg base CX0 20 T.vr_begin.f T.vr_begin.fd ["valley"] (sp0 T.C .bestStart) := by
  refine T.vr_begin.F.ok scBeg (fun vs H Q E h => ?_) (fun cdv A outer s0 H vs Q E hr h => ?_)
  · obtain ⟨p, s, cs, rfl, _⟩ := h
    rfl
  obtain ⟨p, s, cs, rfl, R, nd, k⟩ := h
  have W := R.wf
  have few := W.few
  have hpos := W.pos
  rw [ans_begin] at k
  have hr1 : Room 1 _ := hr.mono (by decide)
  obtain ⟨b1, b2, b3⟩ := beg_is s cs s.length
  have b1 := b1 hpos
  refine ⟨_, (pss_cons (ps_setLc (i := 1) (own := [("a", 3)]) rfl scBeg.nd rfl rfl (sw_true rfl rfl rfl rfl) (pi_range1 rfl T.range (pa_cons (pe_meth0 (pv 0) T.cl T.size.m (ok_size T) hr1 T.size.b .nil pass0) pa_nil)) (blkOk_by (N := ["valley", "lengths", "shortest", "a"]) (sc := defScope s_vr_begin) (by decide +kernel)) (fun _ _ _ _ _ => pg_name (i := 3) scBeg.nd rfl (Or.inl rfl)) (fun _ _ _ _ _ => pts_nil) (fun _ _ _ _ _ => (pe_call (ok_way_length T) hr rfl T.way_length.m T.way_length.F.kp T.way_length.b .nil pass0 (pa_cons (pv 0) (pa_cons (pv 3) pa_nil))))) (pss_cons (ps_set (i := 2) scBeg.nd rfl (Or.inl rfl) (pe_callB (cr_min rfl) rfl T.min PyProof.Rows.boot_min (pa_cons (pv 1) pa_nil))) (pss_one (ps_ret (pe_lst (pa_cons (pe_bm PySem.F.plainAttrs_list PySem.F.slot_list_index PySem.F.type_list_index mt_index (pv 1) (pa_cons (pv 2) pa_nil)) (pa_cons (pv 2) pa_nil))))))), ?_⟩
  obtain ⟨dx, fs, lu, ll, lc, g1, g2, g3, g4, g5, g6, g7, g8, g9⟩ := R.ex
  refine ⟨_, rfl, p, dx, fs, rfl, g1, g8, p, s, cs, rfl, R, _, rfl, by omega, by omega, fun D hD => ?_⟩
  rw [show (((s.length : Nat) : Int)).toNat = s.length from rfl]
  refine lc_range (fun i H' => H' D = some (li ((List.range i).map fun a => Km460.once s a cs)) ∧ Same H H') ⟨upd_same, same_new hD _⟩ ?_ ?_
  · rintro i H1 hi ⟨h1, S1⟩
    have e0 : (0 : Int) + (i : Int) = (i : Int) := by omega
    rw [e0]
    refine ⟨rfl, yes ?_⟩
    refine ⟨_, rfl, _, rfl, p, s, cs, i, rfl, R.same S1, hi, fun H2 S2 => ?_⟩
    refine ⟨_, S2 _ _ h1, smallL ?_, ?_, keepNew (S1.trans S2) hD _⟩
    · rw [vz_length, List.length_map, List.length_range]
      omega
    · rw [upd_same, List.range_succ, List.map_append]
      exact congrArg some (li_snoc _ (Km460.once s i cs))
  · rintro H1 ⟨h1, S1⟩
    have at_ : ∀ a, a < s.length → ((List.range s.length).map fun a => Km460.once s a cs)[a]? = some (Km460.once s a cs) := fun a ha => by
      rw [List.getElem?_map, List.getElem?_range ha]
      rfl
    refine ⟨_, rfl, D, zs ((List.range s.length).map fun a => Km460.once s a cs), rfl, SqL.of h1, ?_, fun m hm1 hm2 => ?_⟩
    · rw [zs_length, List.length_map, List.length_range]
      exact hpos
    have em : m = ((Km460.once s (beg s cs s.length) cs : Nat) : Int) := by
      obtain ⟨x, hx, rfl⟩ := mem_zs.mp hm1
      obtain ⟨a, ha, rfl⟩ := List.mem_map.mp hx
      have q1 := b2 a (List.mem_range.mp ha)
      have q2 := hm2 ((Km460.once s (beg s cs s.length) cs : Nat) : Int) (mem_zs.mpr ⟨_, List.mem_map.mpr ⟨_, List.mem_range.mpr b1, rfl⟩, rfl⟩)
      omega
    subst em
    refine ⟨_, rfl, .inl ⟨rfl, _, SqL.of h1⟩, _, rfl, D, _, _, beg s cs s.length, _, rfl, rfl, SqL.of h1, rfl, vz_flat _, vz_get (at_ _ b1), ?_, fun m z' hmj hz' => ?_, ?_⟩
    · show (((Km460.once s (beg s cs s.length) cs : Nat) : Int) == _) = true
      exact beq_self_eq_true _
    · obtain ⟨u, hu, rfl⟩ := vz_get' hz'
      rw [at_ m (by omega)] at hu
      have hu := Option.some.inj hu
      have q := b3 m hmj
      show ((u : Int) == ((Km460.once s (beg s cs s.length) cs : Nat) : Int)) = false
      rw [beq_eq_false_iff_ne]
      omega
    refine ⟨_, rfl, one_small, fun r hr' => out2 k S1 hr' rfl⟩

theorem scCalls : FnScope ["valley", "called"] ["valley"] (defScope s_vr_calls) := ⟨rfl, rfl, rfl, by decide +kernel, rfl, by decide +kernel, by decide +kernel⟩
theorem ans_calls {s : Valley} {cs : List Nat} (nd : cs.Nodup) (hc : ∀ c ∈ cs, c < s.length) : ansOf s cs .calls = [(((cvs s cs).length : Nat) : Int), ((((cvs s cs).map (2 ^ ·)).sum : Nat) : Int)] := by
  have hp := cvs_perm nd hc
  show [((cs.length : Nat) : Int), ((Km460.bits cs : Nat) : Int)] = _
  rw [← VR.kbits_perm hp, ← hp.length_eq, VR.kbits]
theorem ok_vr_calls (T : Txt K mg) : FnOk P w K mg base CX0 3 T.vr_calls.f T.vr_calls.fd ["valley"] (sp0 T.C .calls) := by
  refine T.vr_calls.F.ok scCalls (fun vs H Q E h => ?_) (fun cdv A outer s0 H vs Q E hr h => ?_)
  · obtain ⟨p, s, cs, rfl, _⟩ := h
    rfl
  obtain ⟨p, s, cs, rfl, R, nd, k⟩ := h
  have few := R.wf.few
  rw [ans_calls nd R.cs_lt] at k
  have hr1 : Room 1 _ := hr.mono (by decide)
  refine ⟨_, (pss_cons (ps_set (i := 1) scCalls.nd rfl (Or.inl rfl) (pe_call (ok_called_villages T) hr rfl T.called_villages.m T.called_villages.F.kp T.called_villages.b .nil pass0 (pa_cons (pv 0) pa_nil))) (pss_one (ps_ret (pe_lst (pa_cons (pe_callB call_len_seq rfl T.len PySem.boot_len (pa_cons (pv 1) pa_nil)) (pa_cons (pe_call (ok_as_bits T) hr1 rfl T.as_bits.m T.as_bits.F.kp T.as_bits.b .nil pass0 (pa_cons (pv 1) pa_nil)) pa_nil)))))), ?_⟩
  refine ⟨_, rfl, p, s, cs, rfl, R, fun r1 H1 S1 hr1' h1 => ?_⟩
  refine ⟨_, rfl, r1, _, rfl, .inl (SqL.of h1), _, rfl, r1, _, rfl, h1, fun z hz => ?_, ?_, fun H2 S2 => ?_⟩
  · have := (mem_cvs.mp hz).1
    omega
  · have := cvs_len s cs
    omega
  refine ⟨one_small, fun r hr' => out2 k (S1.trans S2) hr' ?_⟩
  rw [vz_length]
  rfl

theorem scSums : FnScope ["valley"] ["valley"] (defScope s_vr_sums) := ⟨rfl, rfl, rfl, by decide +kernel, rfl, by decide +kernel, by decide +kernel⟩
theorem ans_sums (s : Valley) (cs : List Nat) : ansOf s cs .sums = [(((s.map (·.long)).sum : Nat) : Int), ((s.length : Nat) : Int)] := by
  show [((Km460.sum (s.map fun x => x.long) : Nat) : Int), ((s.length : Nat) : Int)] = _
  rw [VR.ksum']
theorem ok_vr_sums (T : Txt K mg) : FnOk P w K mg base CX0 2 T.vr_sums.f T.vr_sums.fd ["valley"] (sp0 T.C .sums) := by
  refine T.vr_sums.F.ok scSums (fun vs H Q E h => ?_) (fun cdv A outer s0 H vs Q E hr h => ?_)
  · obtain ⟨p, s, cs, rfl, _⟩ := h
    rfl
  obtain ⟨p, s, cs, rfl, R, nd, k⟩ := h
  rw [ans_sums] at k
  have hr1 : Room 1 _ := hr.mono (by decide)
  refine ⟨_, (pss_one (ps_ret (pe_lst (pa_cons (pe_callB (call_sum rfl) rfl T.sum PyProof.Rows.boot_sum (pa_cons (pe_fld (pv 0) rfl) pa_nil)) (pa_cons (pe_meth0 (pv 0) T.cl T.size.m (ok_size T) hr1 T.size.b .nil pass0) pa_nil))))), ?_⟩
  obtain ⟨dx, fs, lu, ll, lc, g1, g2, g3, g4, g5, g6, g7, g8, g9⟩ := R.ex
  refine ⟨_, rfl, p, T.C, dx, fs, _, rfl, g1, T.cl, T.n_lengths, g3, ll, _, rfl, SqL.of g6, ?_⟩
  refine ⟨_, rfl, p, dx, fs, rfl, g1, g8, p, s, cs, rfl, R, ?_⟩
  refine ⟨one_small, fun r hr' => out2 k (Same.refl H) hr' ?_⟩
  rw [zs_sum]
  rfl

theorem scOrd : FnScope ["valley", "a", "villages", "called", "order", "far"] ["valley", "a", "villages"] (defScope s_vr_order) := ⟨rfl, rfl, rfl, by decide +kernel, rfl, by decide +kernel, by decide +kernel⟩
theorem perm_of_sub : ∀ {cs q : List Nat}, cs.Nodup → (∀ v ∈ cs, v ∈ q) → q.length = cs.length → cs.Perm q
  | [], q, _, _, h => by
    have : q = [] := List.length_eq_zero_iff.mp h
    rw [this]
  | c :: cs, q, nd, hs, h => by
    obtain ⟨n1, n2⟩ := List.nodup_cons.mp nd
    have hc := hs c (List.mem_cons_self ..)
    have ih := perm_of_sub (cs := cs) (q := q.erase c) n2 (fun v hv => (List.mem_erase_of_ne (fun (e : v = c) => n1 (e ▸ hv))).mpr (hs v (List.mem_cons_of_mem _ hv))) (by rw [List.length_erase_of_mem hc, h]; simp)
    exact (ih.cons c).trans (List.perm_cons_erase hc).symm
/-- in the order handed in are just those at which calls are to be made -/
theorem order_iff {s : Valley} {cs q : List Nat} (nd : cs.Nodup) (hc : ∀ c ∈ cs, c < s.length) (hl : q.length = cs.length) : ((q.all fun v => cs.contains v) = false ∨ (cs.all fun v => q.contains v) = false) ↔ ¬ q.Perm (cvs s cs) := by
  have hp := cvs_perm nd hc
  constructor
  · rintro (h | h) z
    · have : ∀ v ∈ q, v ∈ cs := fun v hv => (z.trans hp).mem_iff.mp hv
      have : (q.all fun v => cs.contains v) = true := List.all_eq_true.mpr fun v hv => by simpa using this v hv
      rw [this] at h
      cases h
    · have : ∀ v ∈ cs, v ∈ q := fun v hv => (z.trans hp).mem_iff.mpr hv
      have : (cs.all fun v => q.contains v) = true := List.all_eq_true.mpr fun v hv => by simpa using this v hv
      rw [this] at h
      cases h
  · intro h
    by_cases h1 : (cs.all fun v => q.contains v) = true
    · exfalso
      apply h
      have hsub : ∀ v ∈ cs, v ∈ q := fun v hv => by simpa using List.all_eq_true.mp h1 v hv
      have : cs.Perm q := perm_of_sub nd hsub hl
      exact this.symm.trans hp.symm
    · exact .inr (by simpa using h1)
theorem ans_order (s : Valley) (cs : List Nat) (x : Nat) (l : List Nat) : ansOf s cs (.order x l) = if s.length ≤ x then [-2] else if 6 < cs.length then [-28] else
    if ((l.take cs.length).all fun v => cs.contains v) = false ∨ (cs.all fun v => (l.take cs.length).contains v) = false then [-22] else [((Km460.ordered s x (l.take cs.length) : Nat) : Int), ((Km460.ordered s x (l.take cs.length) - Km460.round s x cs : Nat) : Int)] := by
  show Km460Neutral.told (if s.length ≤ x then Km460.only (-2) else if 6 < cs.length then Km460.only (-28) else if _ then Km460.only (-22) else _) = _
  split
  · rfl
  · split
    · rfl
    · split <;> rfl
/-- a call with a village and a row -/
def sp3 (C : Addr) (f : Nat → List Nat → Km460.Call) : Sp := fun vs H Q _ => ∃ (p lv : Addr) (s : Valley) (cs : List Nat) (x : Nat) (l : List Nat), vs = [.ref p, .int (x : Int), .ref lv] ∧ RAt C H p s cs ∧ cs.Nodup ∧ H lv = some (li l) ∧ l.length = 6 ∧ outZ H (ansOf s cs (f x l)) Q
theorem ok_vr_order (T : Txt K mg) : FnOk P w K mg base CX0 20 T.vr_order.f T.vr_order.fd ["valley", "a", "villages"] (sp3 T.C .order) := by
  refine T.vr_order.F.ok scOrd (fun vs H Q E h => ?_) (fun cdv A outer s0 H vs Q E hr h => ?_)
  · obtain ⟨p, lv, s, cs, x, l, rfl, _⟩ := h
    rfl
  obtain ⟨p, lv, s, cs, x, l, rfl, R, nd, hlv, h6, k⟩ := h
  have W := R.wf
  have few := W.few
  rw [ans_order] at k
  have hr1 : Room 1 _ := hr.mono (by decide)
  have hr2 : Room 2 _ := hr.mono (by decide)
  have hr4 : Room 4 _ := hr.mono (by decide)
  obtain ⟨tn, htn⟩ := T.c_THERES_NONE
  obtain ⟨tm, htm⟩ := T.c_TOO_MANY
  obtain ⟨tf, htf⟩ := T.c_NOT_FIT
  obtain ⟨to, hto⟩ := T.c_MOST_IN_ORDER
  have hp := cvs_perm nd R.cs_lt
  refine ⟨_, (pss_cons (ps_if (pt_not (pt_val (pe_meth (pv 0) T.cl T.has.m (ok_has T) hr1 T.has.b .nil pass0 (pa_cons (pv 1) pa_nil)))) (pss_one (ps_ret (pe_lst (pa_cons (pe_gint rfl htn) pa_nil)))) pss_nil) (pss_cons (ps_set (i := 3) scOrd.nd rfl (Or.inl rfl) (pe_call (ok_called_villages T) hr2 rfl T.called_villages.m T.called_villages.F.kp T.called_villages.b .nil pass0 (pa_cons (pv 0) pa_nil))) (pss_cons (ps_if (pt_cmpR op_gt (pe_callB call_len_seq rfl T.len PySem.boot_len (pa_cons (pv 3) pa_nil)) (pe_gint rfl hto) (nomark _)) (pss_one (ps_ret (pe_lst (pa_cons (pe_gint rfl htm) pa_nil)))) pss_nil) (pss_cons (ps_set (i := 4) scOrd.nd rfl (Or.inl rfl) (pe_slice sl_list (pv 2) po_none (po_some (pe_callB call_len_seq rfl T.len PySem.boot_len (pa_cons (pv 3) pa_nil))))) (pss_cons (ps_if (pt_cmpR (op_neD hr.units) (pe_callB cr_sorted rfl T.sorted PyProof.Rows.boot_sorted (pa_cons (pv 4) pa_nil)) (pv 3) (nomark _)) (pss_one (ps_ret (pe_lst (pa_cons (pe_gint rfl htf) pa_nil)))) pss_nil) (pss_cons (ps_set (i := 5) scOrd.nd rfl (Or.inl rfl) (pe_call (ok_far_by_stops T) hr4 rfl T.far_by_stops.m T.far_by_stops.F.kp T.far_by_stops.b .nil pass0 (pa_cons (pv 0) (pa_cons (pe_op op_cat (pe_op op_cat (pe_lst (pa_cons (pv 1) pa_nil)) (pv 4)) (pe_lst (pa_cons (pv 1) pa_nil))) pa_nil)))) (pss_one (ps_ret (pe_lst (pa_cons (pv 5) (pa_cons (pe_op op_sub (pv 5) (pe_call (ok_round_length T) hr rfl T.round_length.m T.round_length.F.kp T.round_length.b .nil pass0 (pa_cons (pv 0) (pa_cons (pv 1) pa_nil)))) pa_nil))))))))))), ?_⟩
  obtain ⟨dx, fs, lu, ll, lc, g1, g2, g3, g4, g5, g6, g7, g8, g9⟩ := R.ex
  refine ⟨_, rfl, p, dx, fs, rfl, g1, g9, _, rfl, p, s, cs, x, rfl, R, _, rfl, ?_⟩
  refine ite2 (fun c => ?_) (fun c => ?_)
  · rw [if_pos (not_lt_of c)] at k
    exact ⟨one_small, fun r hr' => out2 k (Same.refl H) hr' rfl⟩
  have hx := lt_of c
  rw [if_neg (by omega)] at k
  refine ⟨_, rfl, p, s, cs, rfl, R, fun lc1 H1 S1 hlc1 h1 => ?_⟩
  refine ⟨_, rfl, lc1, _, rfl, .inl (SqL.of h1), _, _, rfl, rfl, _, rfl, ?_⟩
  rw [vz_length, hp.length_eq]
  refine ite2 (fun c => ?_) (fun c => ?_)
  · have c : 6 < cs.length := by have := of_decide_eq_true c; omega
    rw [if_pos c] at k
    exact ⟨one_small, fun r hr' => out2 k S1 hr' rfl⟩
  have c : ¬ 6 < cs.length := by have := of_decide_eq_false (Bool.eq_false_iff.mpr c); omega
  rw [if_neg c] at k
  refine ⟨_, rfl, _, rfl, lc1, _, rfl, .inl (SqL.of h1), ?_⟩
  rw [vz_length, hp.length_eq]
  refine ⟨_, rfl, lv, _, rfl, SqL.of (S1 _ _ hlv), fun lo hlo => ?_⟩
  have e2 : cutV (vz l) none (some ((cs.length : Nat) : Int)) = vz (l.take cs.length) := cut_take l cs.length
  rw [e2]
  have hql : (l.take cs.length).length = cs.length := by rw [List.length_take]; omega
  generalize l.take cs.length = q at *
  have S2 : Same H1 (upd H1 lo (li q)) := same_new hlo _
  have S12 := S1.trans S2
  refine ⟨_, rfl, lo, zs q, rfl, SqL.of upd_same, by rw [zs_length]; omega, fun ns' ls hperm hsort hls => ?_⟩
  have S3 : Same (upd H1 lo (li q)) (upd (upd H1 lo (li q)) ls (.lst (ns'.map V.int))) := same_new hls _
  refine ⟨_, rfl, _, _, .lst (SqL.of upd_same) (dp_ints ns'), .lst (SqL.of (S3 _ _ (S2 _ _ h1))) (dp_ints (zs (cvs s cs))), shaped_ints _, shaped_ints _, _, rfl, ?_⟩
  rw [eqv_ints]
  have hiff : ns' = zs (cvs s cs) ↔ q.Perm (cvs s cs) := by
    constructor
    · intro e
      have h1 : (zs q).Perm (zs (cvs s cs)) := hperm.symm.trans (e ▸ List.Perm.refl _)
      have h2 := h1.map Int.toNat
      unfold zs at h2
      rw [List.map_map, List.map_map] at h2
      have e3 : (Int.toNat ∘ fun (x : Nat) => (x : Int)) = id := by funext x; rfl
      rw [e3, List.map_id, List.map_id] at h2
      exact h2
    · intro z
      have h1 : ns'.Perm (zs (cvs s cs)) := hperm.trans (z.map _)
      exact List.Perm.eq_of_pairwise (le := (· ≤ ·)) (fun a b _ _ h1 h2 => by omega) hsort ((zs_sorted (cvs_sorted s cs)).imp fun h => by omega) h1
  have oi := order_iff nd R.cs_lt hql
  refine ite2 (fun c => ?_) (fun c => ?_)
  · have c : ¬ ns' = zs (cvs s cs) := by simpa using c
    rw [if_pos (oi.mpr fun z => c (hiff.mpr z))] at k
    exact ⟨one_small, fun r hr' => out2 k (S12.trans S3) hr' rfl⟩
  have c : ns' = zs (cvs s cs) := by
    by_cases z : ns' = zs (cvs s cs)
    · exact z
    · exact absurd (by simpa using z) c
  have hq := hiff.mp c
  rw [if_neg (fun z => oi.mp z hq)] at k
  have hqc : q.Perm cs := hq.trans hp
  have hqin : ∀ v ∈ q, v < s.length := fun v hv => R.cs_lt v (hqc.mem_iff.mp hv)
  have S13 := S12.trans S3
  refine ⟨_, rfl, _, rfl, one_small, fun l1 hl1 => ?_⟩
  have S4 := S13.trans (same_new hl1 (.lst [.int (x : Int)]))
  have n1 : lo ≠ l1 := ne_of_none (S3 _ _ upd_same) hl1
  refine ⟨_, rfl, l1, lo, _, _, rfl, rfl, upd_same, (by rw [upd_ne n1]; exact S3 _ _ upd_same), ?_, fun l2 hl2 => ?_⟩
  · rw [vz_length]
    refine small ?_
    show 1 + _ ≤ _
    omega
  have S5 := S4.trans (same_new hl2 (.lst ([.int (x : Int)] ++ vz q)))
  refine ⟨_, rfl, one_small, fun l3 hl3 => ?_⟩
  have S6 := S5.trans (same_new hl3 (.lst [.int (x : Int)]))
  have n2 : l2 ≠ l3 := ne_of_none upd_same hl3
  refine ⟨l2, l3, _, _, rfl, rfl, (by rw [upd_ne n2]; exact upd_same), upd_same, ?_, fun l4 hl4 => ?_⟩
  · rw [List.length_append, vz_length]
    refine small ?_
    show 1 + _ + 1 ≤ _
    omega
  have S7 := S6.trans (same_new hl4 (.lst (([.int (x : Int)] ++ vz q) ++ [.int (x : Int)])))
  have e4 : HO.lst (([.int (x : Int)] ++ vz q) ++ [.int (x : Int)]) = li (x :: q ++ [x]) := by
    show HO.lst _ = HO.lst _
    rw [vz_append]
    rfl
  have hin : ∀ v ∈ x :: q ++ [x], v < s.length := fun v hv => by
    rcases List.mem_append.mp hv with h | h
    · rcases List.mem_cons.mp h with rfl | h
      · exact hx
      · exact hqin v h
    · rw [List.mem_singleton.mp h]; exact hx
  rw [e4] at S7 ⊢
  refine ⟨p, l4, s, cs, _, rfl, R.same S7, upd_same, hin, by simp, by simp; omega, fun H8 S8 => ?_⟩
  have S78 := S7.trans S8
  refine ⟨_, rfl, _, rfl, _, rfl, _, rfl, p, s, cs, x, rfl, R.same S78, hx, fun H9 S9 => ?_⟩
  refine ⟨_, _, rfl, rfl, one_small, fun r hr' => out2 k (S78.trans S9) hr' ?_⟩
  have hge := VR.ordered_ge W hx R.cs_lt hqin (fun c hc => hqc.mem_iff.mpr hc)
  have e5 : ((Km460.long s (x :: q ++ [x]) : Nat) : Int) - ((Km460.round s x cs : Nat) : Int) = ((Km460.ordered s x q - Km460.round s x cs : Nat) : Int) := by
    show ((Km460.ordered s x q : Nat) : Int) - _ = _
    omega
  show [V.int _, V.int (((Km460.long s (x :: q ++ [x]) : Nat) : Int) - ((Km460.round s x cs : Nat) : Int))] = _
  rw [e5]
  rfl
end
end VP
end
noncomputable section
set_option Elab.async false
set_option linter.all false
set_option maxRecDepth 100000
namespace VP
open PySem PySem.Spec PyProof.Rows L2 VS VL
open Km457 (Valley Village)
open Km460 (Sea Desk Call)

/-! the object with its past and its future -/
/-- where the three rows of a kept valley lie, and their tuple -/
structure Rw where
  t : Addr
  a : Addr
  b : Addr
  c : Addr
def Rw.ls (e : Rw) : List Addr := [e.a, e.b, e.c]
def Rw.all (e : Rw) : List Addr := [e.t, e.a, e.b, e.c]
def RwAt (H : Hp) (e : Rw) (s : Sea) : Prop := H e.t = some (.tup [.ref e.a, .ref e.b, .ref e.c]) ∧ H e.a = some (li (s.valley.map (·.up))) ∧ H e.b = some (li (s.valley.map (·.long))) ∧ H e.c = some (li (calledL s.valley s.calls))
def RwsAt (H : Hp) : List Rw → List Sea → Prop
  | [], [] => True
  | e :: E, s :: S => RwAt H e s ∧ RwsAt H E S
  | _, _ => False
def rts (E : List Rw) : HO := .lst (E.map fun e => V.ref e.t).reverse
theorem RwAt.frame {H H' : Hp} {e : Rw} {s : Sea} (h : RwAt H e s) (k : ∀ x ∈ e.all, H' x = H x) : RwAt H' e s := by
  obtain ⟨h1, h2, h3, h4⟩ := h
  exact ⟨(k _ (by simp [Rw.all])).trans h1, (k _ (by simp [Rw.all])).trans h2, (k _ (by simp [Rw.all])).trans h3, (k _ (by simp [Rw.all])).trans h4⟩
theorem RwsAt.frame {H H' : Hp} : ∀ {E : List Rw} {S : List Sea}, RwsAt H E S → (∀ e ∈ E, ∀ x ∈ e.all, H' x = H x) → RwsAt H' E S
  | [], [], _, _ => trivial
  | e :: E, s :: S, h, k => ⟨h.1.frame (k e (List.mem_cons_self ..)), RwsAt.frame h.2 fun e he => k e (List.mem_cons_of_mem _ he)⟩
  | [], _ :: _, h, _ => h
  | _ :: _, [], h, _ => h
theorem RwsAt.length {H : Hp} : ∀ {E : List Rw} {S : List Sea}, RwsAt H E S → E.length = S.length
  | [], [], _ => rfl
  | e :: E, s :: S, h => congrArg (· + 1) (RwsAt.length h.2)
  | [], _ :: _, h => h.elim
  | _ :: _, [], h => h.elim
theorem RwsAt.take {H : Hp} : ∀ {E : List Rw} {S : List Sea} (n : Nat), RwsAt H E S → RwsAt H (E.take n) (S.take n)
  | [], [], n, _ => by simp [RwsAt]
  | e :: E, s :: S, 0, h => by simp [RwsAt]
  | e :: E, s :: S, n + 1, h => ⟨h.1, RwsAt.take n h.2⟩
  | [], _ :: _, _, h => h.elim
  | _ :: _, [], _, h => h.elim
theorem RwsAt.mem {H : Hp} : ∀ {E : List Rw} {S : List Sea}, RwsAt H E S → ∀ e ∈ E, ∃ s, RwAt H e s
  | [], [], _, e, he => by simp at he
  | e :: E, s :: S, h, x, hx => by
    rcases List.mem_cons.mp hx with rfl | hx
    · exact ⟨s, h.1⟩
    · exact RwsAt.mem h.2 x hx
  | [], _ :: _, h, _, _ => h.elim
  | _ :: _, [], h, _, _ => h.elim
def lists (lu ll lc le lt : Addr) (R : List Rw) : List Addr := lu :: ll :: lc :: le :: lt :: R.flatMap Rw.ls
def own (p lu ll lc le lt : Addr) (R : List Rw) : List Addr := p :: lu :: ll :: lc :: le :: lt :: R.flatMap Rw.all
structure VX (C : Addr) (H : Hp) (p : Addr) (d : Desk) (dx lu ll lc le lt : Addr) (E L : List Rw) : Prop where
  ob : H p = some (.ins C dx (flds lu ll lc le lt))
  u : H lu = some (li (d.now.valley.map (·.up)))
  l : H ll = some (li (d.now.valley.map (·.long)))
  c : H lc = some (li (calledL d.now.valley d.now.calls))
  e : H le = some (rts E)
  f : H lt = some (rts L)
  es : RwsAt H E d.past
  fs : RwsAt H L d.future
  nd : (lists lu ll lc le lt (E ++ L)).Nodup
  ok : VR.DeskOk d
theorem VX.rat {C : Addr} {H : Hp} {p : Addr} {d : Desk} {dx lu ll lc le lt : Addr} {E L : List Rw} (X : VX C H p d dx lu ll lc le lt E L) : RAt C H p d.now.valley d.now.calls := ⟨⟨dx, lu, ll, lc, le, lt, X.ob, X.u, X.l, X.c⟩, X.ok.now.wf, X.ok.now.lt⟩
theorem VX.frame {C : Addr} {H H' : Hp} {p : Addr} {d : Desk} {dx lu ll lc le lt : Addr} {E L : List Rw} (X : VX C H p d dx lu ll lc le lt E L) (k : ∀ a ∈ own p lu ll lc le lt (E ++ L), H' a = H a) : VX C H' p d dx lu ll lc le lt E L := by
  have kr : ∀ e ∈ E ++ L, ∀ x ∈ e.all, H' x = H x := fun e he x hx => k x (by unfold own; simp only [List.mem_cons, List.mem_flatMap]; exact .inr (.inr (.inr (.inr (.inr (.inr ⟨e, he, hx⟩))))))
  exact ⟨(k _ (by simp [own])).trans X.ob, (k _ (by simp [own])).trans X.u, (k _ (by simp [own])).trans X.l, (k _ (by simp [own])).trans X.c, (k _ (by simp [own])).trans X.e, (k _ (by simp [own])).trans X.f,
    X.es.frame fun e he => kr e (List.mem_append_left _ he), X.fs.frame fun e he => kr e (List.mem_append_right _ he), X.nd, X.ok⟩
theorem RwAt.there {H : Hp} {e : Rw} {s : Sea} (h : RwAt H e s) : ∀ x ∈ e.all, H x ≠ none := by
  obtain ⟨h1, h2, h3, h4⟩ := h
  intro x hx
  simp only [Rw.all, List.mem_cons, List.not_mem_nil, or_false] at hx
  rcases hx with rfl | rfl | rfl | rfl
  · rw [h1]; simp
  · rw [h2]; simp
  · rw [h3]; simp
  · rw [h4]; simp
theorem VX.rows {C : Addr} {H : Hp} {p : Addr} {d : Desk} {dx lu ll lc le lt : Addr} {E L : List Rw} (X : VX C H p d dx lu ll lc le lt E L) : ∀ e ∈ E ++ L, ∃ s, RwAt H e s := fun e he => by
  rcases List.mem_append.mp he with h | h
  · exact X.es.mem e h
  · exact X.fs.mem e h
theorem VX.there {C : Addr} {H : Hp} {p : Addr} {d : Desk} {dx lu ll lc le lt : Addr} {E L : List Rw} (X : VX C H p d dx lu ll lc le lt E L) : ∀ a ∈ own p lu ll lc le lt (E ++ L), H a ≠ none := by
  intro a ha
  unfold own at ha
  simp only [List.mem_cons, List.mem_flatMap] at ha
  rcases ha with rfl | rfl | rfl | rfl | rfl | rfl | ⟨e, he, hx⟩
  · rw [X.ob]; simp
  · rw [X.u]; simp
  · rw [X.l]; simp
  · rw [X.c]; simp
  · rw [X.e]; simp
  · rw [X.f]; simp
  · obtain ⟨s, hs⟩ := X.rows e he
    exact hs.there a hx
/-- the valley as it stands is changed in its rows -/
theorem VX.setNow {C : Addr} {H H' : Hp} {p : Addr} {d : Desk} {dx lu ll lc le lt : Addr} {E L : List Rw} (X : VX C H p d dx lu ll lc le lt E L) {s : Sea} (ok : VR.SeaOk s) (h1 : H' lu = some (li (s.valley.map (·.up)))) (h2 : H' ll = some (li (s.valley.map (·.long)))) (h3 : H' lc = some (li (calledL s.valley s.calls)))
    (k : ∀ a, a ≠ lu → a ≠ ll → a ≠ lc → H' a = H a) : VX C H' p { d with now := s } dx lu ll lc le lt E L := by
  have nd := X.nd
  unfold lists at nd
  simp only [List.nodup_cons, List.mem_cons, not_or] at nd
  obtain ⟨⟨n1, n2, n3, n4, n5⟩, ⟨n6, n7, n8, n9⟩, ⟨n10, n11, n12⟩, ⟨n13, n14⟩, n15, n16⟩ := nd
  have kl : ∀ {x : Addr} {o : HO}, H x = some o → (∀ z, o ≠ .lst z) → H' x = H x := fun {x o} h z => k x (ne_of h X.u (z _)) (ne_of h X.l (z _)) (ne_of h X.c (z _))
  have kr : ∀ e ∈ E ++ L, ∀ x ∈ e.all, H' x = H x := fun e he x hx => by
    obtain ⟨s, hs⟩ := X.rows e he
    have hin : ∀ y ∈ e.ls, y ∈ (E ++ L).flatMap Rw.ls := fun y hy => List.mem_flatMap.mpr ⟨e, he, hy⟩
    have out : ∀ y ∈ e.ls, H' y = H y := fun y hy => k y (fun z => n5 (z ▸ hin y hy)) (fun z => n9 (z ▸ hin y hy)) (fun z => n12 (z ▸ hin y hy))
    simp only [Rw.all, List.mem_cons, List.not_mem_nil, or_false] at hx
    rcases hx with rfl | rfl | rfl | rfl
    · exact kl hs.1 (by intro z; simp)
    · exact out _ (by simp [Rw.ls])
    · exact out _ (by simp [Rw.ls])
    · exact out _ (by simp [Rw.ls])
  refine ⟨(kl X.ob (by intro z; simp)).trans X.ob, h1, h2, h3, (k le (fun z => n3 z.symm) (fun z => n7 z.symm) (fun z => n10 z.symm)).trans X.e, (k lt (fun z => n4 z.symm) (fun z => n8 z.symm) (fun z => n11 z.symm)).trans X.f,
    X.es.frame fun e he => kr e (List.mem_append_left _ he), X.fs.frame fun e he => kr e (List.mem_append_right _ he), X.nd, ⟨ok, X.ok.past, X.ok.fut, X.ok.few⟩⟩
def VAt (C : Addr) (H : Hp) (p : Addr) (d : Desk) (F : Addr → Prop) : Prop := ∃ dx lu ll lc le lt E L, VX C H p d dx lu ll lc le lt E L ∧ ∀ a, F a ↔ a ∈ own p lu ll lc le lt (E ++ L)
/-- what is kept, when an object that owns F owns F' then -/
structure Fr (H H' : Hp) (F F' : Addr → Prop) : Prop where
  keep : ∀ a u, H a = some u → ¬ F a → H' a = some u
  ow : ∀ a, F' a → F a ∨ H a = none
  dom : ∀ a, H' a = none → H a = none
theorem Fr.trans {H H1 H2 : Hp} {F F1 F2 : Addr → Prop} (x : Fr H H1 F F1) (y : Fr H1 H2 F1 F2) : Fr H H2 F F2 := by
  refine ⟨fun a u h n => y.keep a u (x.keep a u h n) fun z => ?_, fun a z => ?_, fun a z => x.dom a (y.dom a z)⟩
  · rcases x.ow a z with q | q
    · exact n q
    · rw [h] at q; cases q
  · rcases y.ow a z with q | q
    · exact x.ow a q
    · exact .inr (x.dom a q)
theorem Fr.refl (H : Hp) (F : Addr → Prop) : Fr H H F F := ⟨fun _ _ h _ => h, fun _ z => .inl z, fun _ z => z⟩
/-- H' is H but for what the object owns and what is new -/
theorem Fr.upd {H H' : Hp} {F F' : Addr → Prop} (x : Fr H H' F F') {a : Addr} (h : F a ∨ H a = none) (o : HO) : Fr H (upd H' a o) F F' := by
  refine ⟨fun b u e n => ?_, x.ow, fun b z => ?_⟩
  · rw [upd_ne ?_]
    · exact x.keep b u e n
    · intro z
      subst z
      rcases h with q | q
      · exact n q
      · rw [e] at q; cases q
  · by_cases q : b = a
    · subst q; rw [upd_same] at z; cases z
    · rw [upd_ne q] at z; exact x.dom b z
theorem Fr.same {H H' : Hp} {F : Addr → Prop} (S : Same H H') : Fr H H' F F := ⟨fun a u h _ => S a u h, fun _ z => .inl z, fun a z => S.free z⟩
theorem Fr.owns {H H' : Hp} {F F' F'' : Addr → Prop} (x : Fr H H' F F') (h : ∀ a, F'' a → F a ∨ H a = none) : Fr H H' F F'' := ⟨x.keep, h, x.dom⟩
section
variable {P : Program} {w : World} {K : PySem.W.Frag} {mg : Str → Option Value} {base : Heap}

theorem upd_free {H : Hp} {a b : Addr} {o : HO} (h : upd H a o b = none) : H b = none := by
  by_cases q : b = a
  · subst q; rw [upd_same] at h; cases h
  · rw [upd_ne q] at h; exact h
/-! a new beginning -/
def spSA (C : Addr) : Sp := fun vs H Q _ => ∃ (p dx : Addr) (fs : List (Str × V)), vs = [.ref p] ∧ H p = some (.ins C dx fs) ∧ (fs = [] ∨ ∃ a b c d e, fs = flds a b c d e) ∧
  ∀ (H' : Hp) (lu ll lc le lt : Addr), VX C H' p Km460.fresh dx lu ll lc le lt [] [] → (∀ a u, H a = some u → a ≠ p → H' a = some u) → (∀ a ∈ [lu, ll, lc, le, lt], H a = none) → (∀ a, H' a = none → H a = none) → Q .non H'
theorem scSA : FnScope ["self"] ["self"] (defScope s_Valley_start_anew) := ⟨rfl, rfl, rfl, by decide +kernel, rfl, by decide +kernel, by decide +kernel⟩
theorem five {a b c d e : Addr} {fs : List (Str × V)} (h : fs = [] ∨ ∃ a b c d e, fs = flds a b c d e) : putF "later" (.ref e) (putF "earlier" (.ref d) (putF "called" (.ref c) (putF "lengths" (.ref b) (putF "ups" (.ref a) fs)))) = flds a b c d e := by
  rcases h with rfl | ⟨_, _, _, _, _, rfl⟩
  · rfl
  · rfl
theorem fiveL {a b c d : V} {fs : List (Str × V)} (h : fs = [] ∨ ∃ a b c d e, fs = flds a b c d e) : fs.length < 1000 ∧ (putF "ups" a fs).length < 1000 ∧ (putF "lengths" b (putF "ups" a fs)).length < 1000 ∧ (putF "called" c (putF "lengths" b (putF "ups" a fs))).length < 1000 ∧ (putF "earlier" d (putF "called" c (putF "lengths" b (putF "ups" a fs)))).length < 1000 := by
  rcases h with rfl | ⟨_, _, _, _, _, rfl⟩
  · refine ⟨?_, ?_, ?_, ?_, ?_⟩ <;> exact Nat.le_of_ble_eq_true rfl
  · refine ⟨?_, ?_, ?_, ?_, ?_⟩ <;> exact Nat.le_of_ble_eq_true rfl
theorem ok_start_anew (T : Txt K mg) : FnOk P w K mg base CX0 1 T.start_anew.f T.start_anew.fd ["self"] (spSA T.C) := by
  refine T.start_anew.F.ok scSA (fun vs H Q E h => ?_) (fun cdv A outer s0 H vs Q E hr h => ?_)
  · obtain ⟨p, dx, fs, rfl, _⟩ := h
    rfl
  obtain ⟨p, dx, fs, rfl, hp, hfs, k⟩ := h
  refine ⟨_, (pss_cons (ps_fld (pv 0) (pe_lst (pa_cons pe_int pa_nil)) rfl) (pss_cons (ps_fld (pv 0) (pe_lst (pa_cons pe_int pa_nil)) rfl) (pss_cons (ps_fld (pv 0) (pe_lst (pa_cons pe_int pa_nil)) rfl) (pss_cons (ps_fld (pv 0) (pe_lst pa_nil) rfl) (pss_one (ps_fld (pv 0) (pe_lst pa_nil) rfl)))))), ?_⟩
  refine ⟨one_small, fun a ha => ?_⟩
  have pa : p ≠ a := ne_of_none hp ha
  refine ⟨_, rfl, p, T.C, dx, fs, rfl, (by rw [upd_ne pa]; exact hp), T.cl, T.n_ups, (fiveL (a := .ref a) (b := .non) (c := .non) (d := .non) hfs).1, ?_⟩
  refine ⟨one_small, fun b hb => ?_⟩
  have pb : p ≠ b := ne_of_none upd_same hb
  have ab : a ≠ b := ne_of_none (by rw [upd_ne pa.symm]; exact upd_same) hb
  refine ⟨_, rfl, p, T.C, dx, _, rfl, (by rw [upd_ne pb]; exact upd_same), T.cl, T.n_lengths, (fiveL (a := .ref a) (b := .ref b) (c := .non) (d := .non) hfs).2.1, ?_⟩
  refine ⟨one_small, fun c hc => ?_⟩
  have pc : p ≠ c := ne_of_none upd_same hc
  have bc : b ≠ c := ne_of_none (by rw [upd_ne pb.symm]; exact upd_same) hc
  have ac : a ≠ c := ne_of_none (by rw [upd_ne pa.symm, upd_ne ab, upd_ne pa.symm]; exact upd_same) hc
  refine ⟨_, rfl, p, T.C, dx, _, rfl, (by rw [upd_ne pc]; exact upd_same), T.cl, T.n_called, (fiveL (a := .ref a) (b := .ref b) (c := .ref c) (d := .non) hfs).2.2.1, ?_⟩
  refine ⟨one_small, fun e he => ?_⟩
  have pe : p ≠ e := ne_of_none upd_same he
  have ce : c ≠ e := ne_of_none (by rw [upd_ne pc.symm]; exact upd_same) he
  have be : b ≠ e := ne_of_none (by rw [upd_ne pb.symm, upd_ne bc, upd_ne pb.symm]; exact upd_same) he
  have ae : a ≠ e := ne_of_none (by rw [upd_ne pa.symm, upd_ne ac, upd_ne pa.symm, upd_ne ab, upd_ne pa.symm]; exact upd_same) he
  refine ⟨_, rfl, p, T.C, dx, _, rfl, (by rw [upd_ne pe]; exact upd_same), T.cl, T.n_earlier, (fiveL (a := .ref a) (b := .ref b) (c := .ref c) (d := .ref e) hfs).2.2.2.1, ?_⟩
  refine ⟨one_small, fun f hf => ?_⟩
  have pf : p ≠ f := ne_of_none upd_same hf
  have ef : e ≠ f := ne_of_none (by rw [upd_ne pe.symm]; exact upd_same) hf
  have cf : c ≠ f := ne_of_none (by rw [upd_ne pc.symm, upd_ne ce, upd_ne pc.symm]; exact upd_same) hf
  have bf : b ≠ f := ne_of_none (by rw [upd_ne pb.symm, upd_ne be, upd_ne pb.symm, upd_ne bc, upd_ne pb.symm]; exact upd_same) hf
  have af : a ≠ f := ne_of_none (by rw [upd_ne pa.symm, upd_ne ae, upd_ne pa.symm, upd_ne ac, upd_ne pa.symm, upd_ne ab, upd_ne pa.symm]; exact upd_same) hf
  refine ⟨_, rfl, p, T.C, dx, _, rfl, (by rw [upd_ne pf]; exact upd_same), T.cl, T.n_later, (fiveL (a := .ref a) (b := .ref b) (c := .ref c) (d := .ref e) hfs).2.2.2.2, ?_⟩
  rw [five hfs]
  have pas := pa.symm
  have pbs := pb.symm
  have pcs := pc.symm
  have pes := pe.symm
  have pfs := pf.symm
  have b0 : H b = none := upd_free (upd_free hb)
  have c0 : H c = none := upd_free (upd_free (upd_free (upd_free hc)))
  have e0 : H e = none := upd_free (upd_free (upd_free (upd_free (upd_free (upd_free he)))))
  have f0 : H f = none := upd_free (upd_free (upd_free (upd_free (upd_free (upd_free (upd_free (upd_free hf)))))))
  refine k _ a b c e f ⟨upd_same, ?_, ?_, ?_, ?_, ?_, trivial, trivial, ?_, VR.fresh_ok⟩ (fun x u hx n => ?_) (fun x hx => ?_) (fun x hx => ?_)
  · rw [upd_ne pas, upd_ne af, upd_ne pas, upd_ne ae, upd_ne pas, upd_ne ac, upd_ne pas, upd_ne ab, upd_ne pas, upd_same]; rfl
  · rw [upd_ne pbs, upd_ne bf, upd_ne pbs, upd_ne be, upd_ne pbs, upd_ne bc, upd_ne pbs, upd_same]; rfl
  · rw [upd_ne pcs, upd_ne cf, upd_ne pcs, upd_ne ce, upd_ne pcs, upd_same]; rfl
  · rw [upd_ne pes, upd_ne ef, upd_ne pes, upd_same]; rfl
  · rw [upd_ne pfs, upd_same]; rfl
  · show (a :: b :: c :: e :: f :: []).Nodup
    simp [ab, ac, ae, af, bc, be, bf, ce, cf, ef]
  · rw [upd_ne n, upd_ne (ne_of_none hx f0), upd_ne n, upd_ne (ne_of_none hx e0), upd_ne n, upd_ne (ne_of_none hx c0), upd_ne n, upd_ne (ne_of_none hx b0), upd_ne n, upd_ne (ne_of_none hx ha)]; exact hx
  · simp only [List.mem_cons, List.not_mem_nil, or_false] at hx
    rcases hx with rfl | rfl | rfl | rfl | rfl
    · exact ha
    · exact b0
    · exact c0
    · exact e0
    · exact f0
  · exact upd_free (upd_free (upd_free (upd_free (upd_free (upd_free (upd_free (upd_free (upd_free (upd_free hx)))))))))
theorem scIn : FnScope ["self"] ["self"] (defScope s_Valley_init) := ⟨rfl, rfl, rfl, by decide +kernel, rfl, by decide +kernel, by decide +kernel⟩
theorem ok_init (T : Txt K mg) : FnOk P w K mg base CX0 2 T.init.f T.init.fd ["self"] (spSA T.C) := by
  refine T.init.F.ok scIn (fun vs H Q E h => ?_) (fun cdv A outer s0 H vs Q E hr h => ?_)
  · obtain ⟨p, dx, fs, rfl, _⟩ := h
    rfl
  obtain ⟨p, dx, fs, rfl, hp, hfs, k⟩ := h
  refine ⟨_, pss_one (ps_expr (pe_meth0 (pv 0) T.cl T.start_anew.m (ok_start_anew T) hr T.start_anew.b .nil pass0)), ?_⟩
  have hn : fs.lookup ("start_anew" : Str) = none := by
    rcases hfs with rfl | ⟨_, _, _, _, _, rfl⟩
    · rfl
    · rfl
  exact ⟨_, rfl, p, dx, fs, rfl, hp, hn, p, dx, fs, rfl, hp, hfs, fun H' lu ll lc le lt X k1 k2 k3 => k H' lu ll lc le lt X k1 k2 k3⟩

/-! the rows, copied; the rows, put in -/
def spRows (C : Addr) : Sp := fun vs H Q _ => ∃ (p : Addr) (s : Valley) (cs : List Nat), vs = [.ref p] ∧ RAt C H p s cs ∧ ∀ (e : Rw) (H' : Hp), Same H H' → (∀ x ∈ e.all, H x = none) → e.ls.Nodup → RwAt H' e ⟨s, cs⟩ → Q (.ref e.t) H'
theorem scRows : FnScope ["self"] ["self"] (defScope s_Valley_rows) := ⟨rfl, rfl, rfl, by decide +kernel, rfl, by decide +kernel, by decide +kernel⟩
theorem ok_rows (T : Txt K mg) : FnOk P w K mg base CX0 1 T.rows.f T.rows.fd ["self"] (spRows T.C) := by
  refine T.rows.F.ok scRows (fun vs H Q E h => ?_) (fun cdv A outer s0 H vs Q E hr h => ?_)
  · obtain ⟨p, s, cs, rfl, _⟩ := h
    rfl
  obtain ⟨p, s, cs, rfl, R, k⟩ := h
  refine ⟨_, pss_one (ps_ret (pe_tup (pa_cons (pe_callTy call_list_of rfl T.list PyProof.Rows.boot_list (pa_cons (pe_fld (pv 0) rfl) pa_nil)) (pa_cons (pe_callTy call_list_of rfl T.list PyProof.Rows.boot_list (pa_cons (pe_fld (pv 0) rfl) pa_nil)) (pa_cons (pe_callTy call_list_of rfl T.list PyProof.Rows.boot_list (pa_cons (pe_fld (pv 0) rfl) pa_nil)) pa_nil))))), ?_⟩
  obtain ⟨dx, lu, ll, lc, le, lt, g1, g2, g3, g4⟩ := R.ex5
  refine ⟨_, rfl, p, T.C, dx, _, _, rfl, g1, T.cl, T.n_ups, rfl, lu, _, rfl, .inl (SqL.of g2), fun a ha => ?_⟩
  have S1 : Same H (upd H a (li (s.map (·.up)))) := same_new ha _
  refine ⟨_, rfl, p, T.C, dx, _, _, rfl, S1 _ _ g1, T.cl, T.n_lengths, rfl, ll, _, rfl, .inl (SqL.of (S1 _ _ g3)), fun b hb => ?_⟩
  have S2 : Same (upd H a (li (s.map (·.up)))) (upd (upd H a (li (s.map (·.up)))) b (li (s.map (·.long)))) := same_new hb _
  refine ⟨_, rfl, p, T.C, dx, _, _, rfl, S2 _ _ (S1 _ _ g1), T.cl, T.n_called, rfl, lc, _, rfl, .inl (SqL.of (S2 _ _ (S1 _ _ g4))), fun c hc => ?_⟩
  have S3 := same_new hc (li (calledL s cs))
  refine ⟨one_small, fun t ht => ?_⟩
  have S4 := same_new ht (.tup [.ref a, .ref b, .ref c])
  have ab : a ≠ b := ne_of_none upd_same hb
  have ac : a ≠ c := ne_of_none (S2 _ _ upd_same) hc
  have bc : b ≠ c := ne_of_none upd_same hc
  refine k ⟨t, a, b, c⟩ _ (((S1.trans S2).trans S3).trans S4) (fun x hx => ?_) (by simp [Rw.ls, ab, ac, bc]) ⟨upd_same, S4 _ _ (S3 _ _ (S2 _ _ upd_same)), S4 _ _ (S3 _ _ upd_same), S4 _ _ upd_same⟩
  simp only [Rw.all, List.mem_cons, List.not_mem_nil, or_false] at hx
  rcases hx with rfl | rfl | rfl | rfl
  · exact upd_free (upd_free (upd_free ht))
  · exact ha
  · exact upd_free hb
  · exact upd_free (upd_free hc)
def spSR (C : Addr) : Sp := fun vs H Q _ => ∃ (p t dx lu ll lc le lt a b c : Addr), vs = [.ref p, .ref t] ∧ H p = some (.ins C dx (flds lu ll lc le lt)) ∧ H t = some (.tup [.ref a, .ref b, .ref c]) ∧ Q .non (upd H p (.ins C dx (flds a b c le lt)))
theorem scSR : FnScope ["self", "rows"] ["self", "rows"] (defScope s_Valley_set_rows) := ⟨rfl, rfl, rfl, by decide +kernel, rfl, by decide +kernel, by decide +kernel⟩
theorem ok_set_rows (T : Txt K mg) : FnOk P w K mg base CX0 1 T.set_rows.f T.set_rows.fd ["self", "rows"] (spSR T.C) := by
  refine T.set_rows.F.ok scSR (fun vs H Q E h => ?_) (fun cdv A outer s0 H vs Q E hr h => ?_)
  · obtain ⟨p, t, dx, lu, ll, lc, le, lt, a, b, c, rfl, _⟩ := h
    rfl
  obtain ⟨p, t, dx, lu, ll, lc, le, lt, a, b, c, rfl, hp, ht, k⟩ := h
  have tp : t ≠ p := ne_of ht hp (by intro z; cases z)
  refine ⟨_, (pss_cons (ps_fld (pv 0) (pe_ix ix_tup (pv 1) pe_int (fun _ _ => rfl)) rfl) (pss_cons (ps_fld (pv 0) (pe_ix ix_tup (pv 1) pe_int (fun _ _ => rfl)) rfl) (pss_one (ps_fld (pv 0) (pe_ix ix_tup (pv 1) pe_int (fun _ _ => rfl)) rfl)))), ?_⟩
  refine ⟨_, rfl, t, _, _, _, rfl, rfl, SqT.of ht, atI_nat (j := 0) rfl, _, rfl, p, T.C, dx, _, rfl, hp, T.cl, T.n_ups, Nat.le_of_ble_eq_true rfl, ?_⟩
  refine ⟨_, rfl, t, _, _, _, rfl, rfl, SqT.of (by rw [upd_ne tp]; exact ht), atI_nat (j := 1) rfl, _, rfl, p, T.C, dx, _, rfl, upd_same, T.cl, T.n_lengths, Nat.le_of_ble_eq_true rfl, ?_⟩
  refine ⟨_, rfl, t, _, _, _, rfl, rfl, SqT.of (by rw [upd_ne tp, upd_ne tp]; exact ht), atI_nat (j := 2) rfl, _, rfl, p, T.C, dx, _, rfl, upd_same, T.cl, T.n_called, Nat.le_of_ble_eq_true rfl, ?_⟩
  rw [upd_upd, upd_upd]
  exact k
end
end VP
end
noncomputable section
set_option Elab.async false
set_option linter.all false
set_option maxRecDepth 100000
namespace VP
open PySem PySem.Spec PyProof.Rows L2 VS VL
open Km457 (Valley Village)
open Km460 (Sea Desk Call)
theorem calledL_len (s : Valley) (cs : List Nat) : (calledL s cs).length = s.length := by unfold calledL; simp
theorem vz_set (l : List Nat) (i x : Nat) : (vz l).set i (.int (x : Int)) = vz (l.set i x) := by unfold vz zs; simp [List.map_set]
theorem calledL_set {s : Valley} {cs cs' : List Nat} {v o : Nat} (h : ∀ x, x < s.length → (if x ∈ cs' then 1 else 0) = if x = v then o else if x ∈ cs then 1 else 0) : (calledL s cs).set v o = calledL s cs' := by
  refine List.ext_getElem? fun i => ?_
  rw [List.getElem?_set, calledL_len]
  by_cases hi : i < s.length
  · rw [called_at hi, called_at hi, h i hi]
    by_cases e : v = i
    · subst e; simp [hi]
    · have e' : ¬ i = v := fun z => e z.symm
      rw [if_neg e, if_neg e']
  · rw [List.getElem?_eq_none (by rw [calledL_len]; omega), List.getElem?_eq_none (by rw [calledL_len]; omega)]
    by_cases e : v = i
    · rw [if_pos e, if_neg (by omega)]
    · rw [if_neg e]
theorem called_more (s : Valley) (cs : List Nat) (v : Nat) : (calledL s cs).set v 1 = calledL s (cs ++ [v]) := calledL_set fun x _ => by
  by_cases e : x = v
  · subst e; simp
  · simp [e]
theorem called_less (s : Valley) (cs : List Nat) (v : Nat) : (calledL s cs).set v 0 = calledL s (cs.filter fun x => x != v) := calledL_set fun x _ => by
  by_cases e : x = v
  · subst e; simp
  · simp [e]
section
variable {P : Program} {w : World} {K : PySem.W.Frag} {mg : Str → Option Value} {base : Heap}
def spWC (C : Addr) : Sp := fun vs H Q _ => ∃ (p : Addr) (s : Valley) (cs cs' : List Nat) (v o : Nat), vs = [.ref p, .int (v : Int), .int (o : Int)] ∧ RAt C H p s cs ∧ v < s.length ∧ (calledL s cs).set v o = calledL s cs' ∧ (∀ c ∈ cs', c < s.length) ∧ ∀ (q : Addr) (H' : Hp), Same H H' → RAt C H' q s cs' → Q (.ref q) H'
theorem scWC : FnScope ["self", "v", "o", "other"] ["self", "v", "o"] (defScope s_Valley_with_call) := ⟨rfl, rfl, rfl, by decide +kernel, rfl, by decide +kernel, by decide +kernel⟩
theorem ok_with_call (T : Txt K mg) : FnOk P w K mg base CX0 4 T.with_call.f T.with_call.fd ["self", "v", "o"] (spWC T.C) := by
  refine T.with_call.F.ok scWC (fun vs H Q E h => ?_) (fun cdv A outer s0 H vs Q E hr h => ?_)
  · obtain ⟨p, s, cs, cs', v, o, rfl, _⟩ := h
    rfl
  obtain ⟨p, s, cs, cs', v, o, rfl, R, hv, hset, hlt, k⟩ := h
  have hr1 : Room 1 _ := hr.mono (by decide)
  refine ⟨_, (pss_cons (ps_set (i := 3) scWC.nd rfl (Or.inl rfl) (pe_make0 T.mkC (ok_init T) hr rfl T.mC T.init.b .nil pass0)) (pss_cons (ps_expr (pe_meth (pv 3) T.cl T.set_rows.m (ok_set_rows T) hr1 T.set_rows.b .nil pass0 (pa_cons (pe_meth0 (pv 0) T.cl T.rows.m (ok_rows T) hr1 T.rows.b .nil pass0) pa_nil))) (pss_cons (ps_asg (pv 2) (pg_sub (pe_fld (pv 3) rfl) (pv 1) set_list)) (pss_one (ps_ret (pv 3)))))), ?_⟩
  refine fun q dq hq hdq hne => ?_
  refine ⟨q, dq, [], rfl, upd_same, .inl rfl, fun H1 lu ll lc le lt X k1 k2 k3 => ⟨rfl, ?_⟩⟩
  have S1 : Same H H1 := Same.made hq hdq k1
  have R1 := R.same S1
  obtain ⟨dx, fu, fl, fc, fe, ft, g1, g2, g3, g4⟩ := R1.ex5
  refine ⟨_, rfl, q, dq, _, rfl, X.ob, rfl, ?_⟩
  refine ⟨_, rfl, p, dx, _, rfl, g1, rfl, p, s, cs, rfl, R1, fun e H2 S2 fr nd re => ?_⟩
  refine ⟨q, e.t, dq, lu, ll, lc, le, lt, e.a, e.b, e.c, rfl, S2 _ _ X.ob, re.1, ?_⟩
  have S12 := S1.trans S2
  have aq : e.a ≠ q := fun z => by have := fr e.a (by simp [Rw.all]); rw [z, X.ob] at this; cases this
  have bq : e.b ≠ q := fun z => by have := fr e.b (by simp [Rw.all]); rw [z, X.ob] at this; cases this
  have cq : e.c ≠ q := fun z => by have := fr e.c (by simp [Rw.all]); rw [z, X.ob] at this; cases this
  have c0 : H e.c = none := S1.free (fr e.c (by simp [Rw.all]))
  have ca : e.a ≠ e.c := fun z => by simp [Rw.ls, z] at nd
  have cb : e.b ≠ e.c := fun z => by simp [Rw.ls, z] at nd
  have S3 : Same H (upd H2 q (.ins T.C dq (flds e.a e.b e.c le lt))) := keepNew S12 hq _
  refine ⟨_, rfl, _, rfl, q, T.C, dq, _, _, rfl, upd_same, T.cl, T.n_called, rfl, _, rfl, e.c, _, _, v, rfl, rfl, (by rw [upd_ne cq]; exact re.2.2.2), ?_, ?_⟩
  · unfold ixN
    rw [if_pos (by omega), if_pos (by rw [vz_length, calledL_len]; show (v : Int) < ((s.length : Nat) : Int); omega)]
    rfl
  refine ⟨_, rfl, k q _ (keepNew S3 c0 _) ⟨⟨dq, e.a, e.b, e.c, le, lt, ?_, ?_, ?_, ?_⟩, R.wf, hlt⟩⟩
  · rw [upd_ne cq.symm]; exact upd_same
  · rw [upd_ne ca, upd_ne aq]; exact re.2.1
  · rw [upd_ne cb, upd_ne bq]; exact re.2.2.1
  · rw [upd_same]
    show some (HO.lst ((vz _).set v (.int (o : Int)))) = _
    rw [vz_set, hset]

theorem scMore : FnScope ["valley", "a", "v", "other"] ["valley", "a", "v"] (defScope s_vr_more) := ⟨rfl, rfl, rfl, by decide +kernel, rfl, by decide +kernel, by decide +kernel⟩
theorem ans_more (s : Valley) (cs : List Nat) (x y : Nat) : ansOf s cs (.more x y) = if s.length ≤ x ∨ s.length ≤ y then [-2] else [((Km460.round s x (cs ++ [y]) - Km460.round s x cs : Nat) : Int), ((Km460.once s x (cs ++ [y]) : Nat) : Int)] := by
  show Km460Neutral.told (if s.length ≤ x ∨ s.length ≤ y then Km460.only (-2) else _) = _
  split <;> rfl
theorem ok_vr_more (T : Txt K mg) : FnOk P w K mg base CX0 20 T.vr_more.f T.vr_more.fd ["valley", "a", "v"] (sp2 T.C .more) := by
  refine T.vr_more.F.ok scMore (fun vs H Q E h => ?_) (fun cdv A outer s0 H vs Q E hr h => ?_)
  · obtain ⟨p, s, cs, x, y, rfl, _⟩ := h
    rfl
  obtain ⟨p, s, cs, x, y, rfl, R, k⟩ := h
  have W := R.wf
  rw [ans_more] at k
  have hr1 : Room 1 _ := hr.mono (by decide)
  have hr4 : Room 4 _ := hr.mono (by decide)
  obtain ⟨tn, htn⟩ := T.c_THERES_NONE
  refine ⟨_, (pss_cons (ps_if (pw_or (pt_not (pt_val (pe_meth (pv 0) T.cl T.has.m (ok_has T) hr1 T.has.b .nil pass0 (pa_cons (pv 1) pa_nil)))) (pw_or1 (pt_not (pt_val (pe_meth (pv 0) T.cl T.has.m (ok_has T) hr1 T.has.b .nil pass0 (pa_cons (pv 2) pa_nil)))))).pt (pss_one (ps_ret (pe_lst (pa_cons (pe_gint rfl htn) pa_nil)))) pss_nil) (pss_cons (ps_set (i := 3) scMore.nd rfl (Or.inl rfl) (pe_meth (pv 0) T.cl T.with_call.m (ok_with_call T) hr4 T.with_call.b .nil pass0 (pa_cons (pv 2) (pa_cons pe_int pa_nil)))) (pss_one (ps_ret (pe_lst (pa_cons (pe_op op_sub (pe_call (ok_round_length T) hr rfl T.round_length.m T.round_length.F.kp T.round_length.b .nil pass0 (pa_cons (pv 3) (pa_cons (pv 1) pa_nil))) (pe_call (ok_round_length T) hr rfl T.round_length.m T.round_length.F.kp T.round_length.b .nil pass0 (pa_cons (pv 0) (pa_cons (pv 1) pa_nil)))) (pa_cons (pe_call (ok_way_length T) hr rfl T.way_length.m T.way_length.F.kp T.way_length.b .nil pass0 (pa_cons (pv 3) (pa_cons (pv 1) pa_nil))) pa_nil))))))), ?_⟩
  obtain ⟨dx, lu, ll, lc, le, lt, g1, g2, g3, g4⟩ := R.ex5
  refine ⟨_, rfl, p, dx, _, rfl, g1, rfl, _, rfl, p, s, cs, x, rfl, R, _, rfl, ?_⟩
  refine ite2 (fun c => ?_) (fun c => ?_)
  · rw [if_pos (.inl (not_lt_of c))] at k
    refine iteT ?_
    exact ⟨one_small, fun r hr' => out2 k (Same.refl H) hr' rfl⟩
  have hx := lt_of c
  refine ⟨_, rfl, p, dx, _, rfl, g1, rfl, _, rfl, p, s, cs, y, rfl, R, _, rfl, ?_⟩
  refine ite2 (fun c => ?_) (fun c => ?_)
  · rw [if_pos (.inr (not_lt_of c))] at k
    exact ⟨one_small, fun r hr' => out2 k (Same.refl H) hr' rfl⟩
  have hy := lt_of c
  rw [if_neg (by omega)] at k
  have hlt : ∀ c ∈ cs ++ [y], c < s.length := fun c hc => by
    rcases List.mem_append.mp hc with h | h
    · exact R.cs_lt c h
    · rw [List.mem_singleton.mp h]; exact hy
  refine ⟨_, rfl, p, dx, _, rfl, g1, rfl, _, rfl, p, s, cs, cs ++ [y], y, 1, rfl, R, hy, called_more s cs y, hlt, fun q H1 S1 R1 => ?_⟩
  refine ⟨_, rfl, _, rfl, q, s, _, x, rfl, R1, hx, fun H2 S2 => ?_⟩
  refine ⟨_, rfl, _, rfl, p, s, _, x, rfl, R.same (S1.trans S2), hx, fun H3 S3 => ?_⟩
  refine ⟨_, _, rfl, rfl, _, rfl, _, rfl, q, s, _, x, rfl, R1.same (S2.trans S3), hx, fun H4 S4 => ?_⟩
  refine ⟨one_small, fun r hr' => out2 k (((S1.trans S2).trans S3).trans S4) hr' ?_⟩
  have hm := VR.round_mono W hx R.cs_lt hlt (fun c hc => List.mem_append_left _ hc)
  show [V.int (((Km460.round s x (cs ++ [y]) : Nat) : Int) - ((Km460.round s x cs : Nat) : Int)), V.int _] = _
  rw [show ((Km460.round s x (cs ++ [y]) : Nat) : Int) - ((Km460.round s x cs : Nat) : Int) = ((Km460.round s x (cs ++ [y]) - Km460.round s x cs : Nat) : Int) by omega]
  rfl

theorem scLess : FnScope ["valley", "a", "v", "other"] ["valley", "a", "v"] (defScope s_vr_less) := ⟨rfl, rfl, rfl, by decide +kernel, rfl, by decide +kernel, by decide +kernel⟩
theorem ans_less (s : Valley) (cs : List Nat) (x y : Nat) : ansOf s cs (.less x y) = if s.length ≤ x ∨ s.length ≤ y then [-2] else if y ∈ cs then [((Km460.round s x cs - Km460.round s x (cs.filter fun z => z != y) : Nat) : Int), ((Km460.once s x (cs.filter fun z => z != y) : Nat) : Int)] else [-17] := by
  show Km460Neutral.told (if s.length ≤ x ∨ s.length ≤ y then Km460.only (-2) else if cs.contains y = false then Km460.only (-17) else _) = _
  split
  · rfl
  · by_cases h : y ∈ cs
    · rw [if_neg (by simpa using h), if_pos h]
      rfl
    · rw [if_pos (by simpa using h), if_neg h]
      rfl
theorem ok_vr_less (T : Txt K mg) : FnOk P w K mg base CX0 20 T.vr_less.f T.vr_less.fd ["valley", "a", "v"] (sp2 T.C .less) := by
  refine T.vr_less.F.ok scLess (fun vs H Q E h => ?_) (fun cdv A outer s0 H vs Q E hr h => ?_)
  · obtain ⟨p, s, cs, x, y, rfl, _⟩ := h
    rfl
  obtain ⟨p, s, cs, x, y, rfl, R, k⟩ := h
  have W := R.wf
  rw [ans_less] at k
  have hr1 : Room 1 _ := hr.mono (by decide)
  have hr4 : Room 4 _ := hr.mono (by decide)
  obtain ⟨tn, htn⟩ := T.c_THERES_NONE
  obtain ⟨ts, hts⟩ := T.c_IT_IS_SO
  refine ⟨_, (pss_cons (ps_if (pw_or (pt_not (pt_val (pe_meth (pv 0) T.cl T.has.m (ok_has T) hr1 T.has.b .nil pass0 (pa_cons (pv 1) pa_nil)))) (pw_or1 (pt_not (pt_val (pe_meth (pv 0) T.cl T.has.m (ok_has T) hr1 T.has.b .nil pass0 (pa_cons (pv 2) pa_nil)))))).pt (pss_one (ps_ret (pe_lst (pa_cons (pe_gint rfl htn) pa_nil)))) pss_nil) (pss_cons (ps_if (pt_cmpR op_eq (pe_ix ix_list (pe_fld (pv 0) rfl) (pv 2) (fun _ _ => rfl)) pe_int (nomark _)) (pss_one (ps_ret (pe_lst (pa_cons (pe_gint rfl hts) pa_nil)))) pss_nil) (pss_cons (ps_set (i := 3) scLess.nd rfl (Or.inl rfl) (pe_meth (pv 0) T.cl T.with_call.m (ok_with_call T) hr4 T.with_call.b .nil pass0 (pa_cons (pv 2) (pa_cons pe_int pa_nil)))) (pss_one (ps_ret (pe_lst (pa_cons (pe_op op_sub (pe_call (ok_round_length T) hr rfl T.round_length.m T.round_length.F.kp T.round_length.b .nil pass0 (pa_cons (pv 0) (pa_cons (pv 1) pa_nil))) (pe_call (ok_round_length T) hr rfl T.round_length.m T.round_length.F.kp T.round_length.b .nil pass0 (pa_cons (pv 3) (pa_cons (pv 1) pa_nil)))) (pa_cons (pe_call (ok_way_length T) hr rfl T.way_length.m T.way_length.F.kp T.way_length.b .nil pass0 (pa_cons (pv 3) (pa_cons (pv 1) pa_nil))) pa_nil)))))))), ?_⟩
  obtain ⟨dx, lu, ll, lc, le, lt, g1, g2, g3, g4⟩ := R.ex5
  refine ⟨_, rfl, p, dx, _, rfl, g1, rfl, _, rfl, p, s, cs, x, rfl, R, _, rfl, ?_⟩
  refine ite2 (fun c => ?_) (fun c => ?_)
  · rw [if_pos (.inl (not_lt_of c))] at k
    refine iteT ?_
    exact ⟨one_small, fun r hr' => out2 k (Same.refl H) hr' rfl⟩
  have hx := lt_of c
  refine ⟨_, rfl, p, dx, _, rfl, g1, rfl, _, rfl, p, s, cs, y, rfl, R, _, rfl, ?_⟩
  refine ite2 (fun c => ?_) (fun c => ?_)
  · rw [if_pos (.inr (not_lt_of c))] at k
    exact ⟨one_small, fun r hr' => out2 k (Same.refl H) hr' rfl⟩
  have hy := lt_of c
  rw [if_neg (by omega)] at k
  refine ⟨_, rfl, p, T.C, dx, _, _, rfl, g1, T.cl, T.n_called, rfl, _, rfl, lc, _, _, _, rfl, rfl, SqL.of g4, vz_at (called_at hy), rfl, _, rfl, ?_⟩
  by_cases hm : y ∈ cs
  · rw [if_pos hm] at k
    rw [if_pos hm]
    refine iteF ?_
    have hlt : ∀ c ∈ cs.filter fun z => z != y, c < s.length := fun c hc => R.cs_lt c (List.mem_filter.mp hc).1
    refine ⟨_, rfl, p, dx, _, rfl, g1, rfl, _, rfl, p, s, cs, _, y, 0, rfl, R, hy, called_less s cs y, hlt, fun q H1 S1 R1 => ?_⟩
    refine ⟨_, rfl, _, rfl, p, s, _, x, rfl, R.same S1, hx, fun H2 S2 => ?_⟩
    refine ⟨_, rfl, _, rfl, q, s, _, x, rfl, R1.same S2, hx, fun H3 S3 => ?_⟩
    refine ⟨_, _, rfl, rfl, _, rfl, _, rfl, q, s, _, x, rfl, R1.same (S2.trans S3), hx, fun H4 S4 => ?_⟩
    refine ⟨one_small, fun r hr' => out2 k (((S1.trans S2).trans S3).trans S4) hr' ?_⟩
    have hmo := VR.round_mono W hx hlt R.cs_lt (fun c hc => (List.mem_filter.mp hc).1)
    show [V.int (((Km460.round s x cs : Nat) : Int) - ((Km460.round s x (cs.filter fun z => z != y) : Nat) : Int)), V.int _] = _
    rw [show ((Km460.round s x cs : Nat) : Int) - ((Km460.round s x (cs.filter fun z => z != y) : Nat) : Int) = ((Km460.round s x cs - Km460.round s x (cs.filter fun z => z != y) : Nat) : Int) by omega]
    rfl
  · rw [if_neg hm] at k
    rw [if_neg hm]
    refine iteT ?_
    exact ⟨one_small, fun r hr' => out2 k (Same.refl H) hr' rfl⟩
end
end VP
end
noncomputable section
set_option Elab.async false
set_option linter.all false
set_option maxRecDepth 100000
namespace VP
open PySem PySem.Spec PyProof.Rows L2 VS VL
open Km457 (Valley Village)
open Km460 (Sea Desk Call)
theorem nd_iff {lu ll lc le lt : Addr} {R : List Rw} : (lists lu ll lc le lt R).Nodup ↔ [lu, ll, lc, le, lt].Nodup ∧ (R.flatMap Rw.ls).Nodup ∧ ∀ a ∈ [lu, ll, lc, le, lt], ∀ b ∈ R.flatMap Rw.ls, a ≠ b := by
  show ([lu, ll, lc, le, lt] ++ R.flatMap Rw.ls).Nodup ↔ _
  exact List.nodup_append
theorem ls_all {e : Rw} {x : Addr} (h : x ∈ e.ls) : x ∈ e.all := List.mem_cons_of_mem _ h
theorem VX.owned {C : Addr} {H : Hp} {p : Addr} {d : Desk} {dx lu ll lc le lt : Addr} {E L : List Rw} (X : VX C H p d dx lu ll lc le lt E L) {x : Addr} (h : x ∈ lists lu ll lc le lt (E ++ L)) : H x ≠ none := by
  refine X.there x ?_
  unfold lists at h
  unfold own
  simp only [List.mem_cons, List.mem_flatMap] at h ⊢
  rcases h with h | h | h | h | h | ⟨e, he, hx⟩
  · exact .inr (.inl h)
  · exact .inr (.inr (.inl h))
  · exact .inr (.inr (.inr (.inl h)))
  · exact .inr (.inr (.inr (.inr (.inl h))))
  · exact .inr (.inr (.inr (.inr (.inr (.inl h)))))
  · exact .inr (.inr (.inr (.inr (.inr (.inr ⟨e, he, ls_all hx⟩)))))
/-- a row of the past or the future takes the place of the one that stands; this is kept -/
theorem nd_move {lu ll lc le lt : Addr} {A B R : List Rw} {e f : Rw} (h : (lists lu ll lc le lt (A ++ f :: B)).Nodup) (ne : e.ls.Nodup) (he : ∀ x ∈ e.ls, x ∉ lists lu ll lc le lt (A ++ f :: B)) (hp : R.Perm (e :: (A ++ B))) : (lists f.a f.b f.c le lt R).Nodup := by
  obtain ⟨h1, h2, h3⟩ := nd_iff.mp h
  have q : ((A ++ f :: B).flatMap Rw.ls).Perm (f.ls ++ (A ++ B).flatMap Rw.ls) := by
    have := (List.perm_middle (a := f) (l₁ := A) (l₂ := B)).flatMap_right Rw.ls
    rw [List.flatMap_cons] at this
    exact this
  have h4 := q.nodup_iff.mp h2
  obtain ⟨h5, h6, h7⟩ := List.nodup_append.mp h4
  have out : ∀ x ∈ e.ls, ∀ y ∈ lists lu ll lc le lt (A ++ f :: B), y ≠ x := fun x hx y hy z => he x hx (z ▸ hy)
  have inAB : ∀ {x}, x ∈ (A ++ B).flatMap Rw.ls → x ∈ (A ++ f :: B).flatMap Rw.ls := fun hx => q.mem_iff.mpr (List.mem_append_right _ hx)
  have inf : ∀ {x}, x ∈ f.ls → x ∈ (A ++ f :: B).flatMap Rw.ls := fun hx => q.mem_iff.mpr (List.mem_append_left _ hx)
  have inl : ∀ {x}, x ∈ (A ++ f :: B).flatMap Rw.ls → x ∈ lists lu ll lc le lt (A ++ f :: B) := fun hx => by
    show _ ∈ [lu, ll, lc, le, lt] ++ _
    exact List.mem_append_right _ hx
  have hle : le ∈ [lu, ll, lc, le, lt] := by simp
  have hlt : lt ∈ [lu, ll, lc, le, lt] := by simp
  have hlt' : le ≠ lt := by
    simp only [List.nodup_cons, List.mem_cons, List.not_mem_nil, or_false, not_or] at h1
    exact h1.2.2.2.1
  have five : ∀ {x}, x ∈ [f.a, f.b, f.c, le, lt] → x ∈ f.ls ∨ x = le ∨ x = lt := fun hx => by
    simp only [Rw.ls, List.mem_cons, List.not_mem_nil, or_false] at hx ⊢
    rcases hx with h | h | h | h | h
    · exact .inl (.inl h)
    · exact .inl (.inr (.inl h))
    · exact .inl (.inr (.inr h))
    · exact .inr (.inl h)
    · exact .inr (.inr h)
  refine nd_iff.mpr ⟨?_, ?_, fun x hx y hy => ?_⟩
  · show (f.ls ++ [le, lt]).Nodup
    refine List.nodup_append.mpr ⟨h5, by simp [hlt'], fun x hx y hy => ?_⟩
    simp only [List.mem_cons, List.not_mem_nil, or_false] at hy
    rcases hy with rfl | rfl
    · exact (h3 _ hle _ (inf hx)).symm
    · exact (h3 _ hlt _ (inf hx)).symm
  · refine ((hp.flatMap_right Rw.ls).nodup_iff).mpr ?_
    rw [List.flatMap_cons]
    exact List.nodup_append.mpr ⟨ne, h6, fun x hx y hy => (out x hx y (inl (inAB hy))).symm⟩
  · have hy := (hp.flatMap_right Rw.ls).mem_iff.mp hy
    rw [List.flatMap_cons, List.mem_append] at hy
    rcases hy with hy | hy
    · rcases five hx with h | rfl | rfl
      · exact out y hy x (inl (inf h))
      · exact out y hy _ (List.mem_append_left (bs := (A ++ f :: B).flatMap Rw.ls) hle)
      · exact out y hy _ (List.mem_append_left (bs := (A ++ f :: B).flatMap Rw.ls) hlt)
    · rcases five hx with h | rfl | rfl
      · exact h7 x h y hy
      · exact h3 _ hle _ (inAB hy)
      · exact h3 _ hlt _ (inAB hy)
theorem mem_own {p lu ll lc le lt x : Addr} {R : List Rw} : x ∈ own p lu ll lc le lt R ↔ x = p ∨ x = lu ∨ x = ll ∨ x = lc ∨ x = le ∨ x = lt ∨ ∃ e ∈ R, x ∈ e.all := by
  unfold own
  simp only [List.mem_cons, List.mem_flatMap]
theorem rts_cons (e : Rw) (E : List Rw) : HO.lst ((E.map fun e => V.ref e.t).reverse ++ [V.ref e.t]) = rts (e :: E) := by unfold rts; rw [List.map_cons, List.reverse_cons]
theorem rts_len (E : List Rw) : ((E.map fun e => V.ref e.t).reverse).length = E.length := by simp
section
variable {P : Program} {w : World} {K : PySem.W.Frag} {mg : Str → Option Value} {base : Heap}

def spKR (C : Addr) : Sp := fun vs H Q _ => ∃ (p : Addr) (d : Desk) (F : Addr → Prop), vs = [.ref p] ∧ VAt C H p d F ∧ ∀ (H' : Hp) (F' : Addr → Prop), VAt C H' p (d.become d.now) F' → Fr H H' F F' → Q .non H'
theorem scKR : FnScope ["self"] ["self"] (defScope s_Valley_keep_rows) := ⟨rfl, rfl, rfl, by decide +kernel, rfl, by decide +kernel, by decide +kernel⟩
theorem erase_first (E : List Rw) (h : E.length = 21) : HO.lst ((E.map fun e => V.ref e.t).reverse.eraseIdx 0) = rts (E.take 20) := by
  unfold rts
  congr 1
  rw [List.eraseIdx_zero, ← List.map_reverse, ← List.map_reverse, ← List.map_tail, List.tail_reverse, List.dropLast_eq_take, h]
theorem ok_keep_rows (T : Txt K mg) : FnOk P w K mg base CX0 2 T.keep_rows.f T.keep_rows.fd ["self"] (spKR T.C) := by
  refine T.keep_rows.F.ok scKR (fun vs H Q E h => ?_) (fun cdv A outer s0 H vs Q E hr h => ?_)
  · obtain ⟨p, d, F, rfl, _⟩ := h
    rfl
  obtain ⟨p, d, F, rfl, ⟨dx, lu, ll, lc, le, lt, E, L, X, hF⟩, k⟩ := h
  obtain ⟨tm, htm⟩ := T.c_MOST_TAKEN_BACK
  have few := X.ok.few
  have hE := X.es.length
  have nd := nd_iff.mp X.nd
  refine ⟨_, (pss_cons (ps_expr (pe_bm PySem.F.plainAttrs_list PySem.F.slot_list_append PySem.F.type_list_append mt_append (pe_fld (pv 0) rfl) (pa_cons (pe_meth0 (pv 0) T.cl T.rows.m (ok_rows T) hr T.rows.b .nil pass0) pa_nil))) (pss_cons (ps_if (pt_cmpR op_gt (pe_callB call_len_seq rfl T.len PySem.boot_len (pa_cons (pe_fld (pv 0) rfl) pa_nil)) (pe_gint rfl htm) (nomark _)) (pss_one (ps_expr (pe_bm PySem.F.plainAttrs_list PySem.F.slot_list_pop PySem.F.type_list_pop mt_popAt (pe_fld (pv 0) rfl) (pa_cons pe_int pa_nil)))) pss_nil) (pss_one (ps_fld (pv 0) (pe_lst pa_nil) rfl)))), ?_⟩
  refine ⟨_, rfl, p, T.C, dx, _, _, rfl, X.ob, T.cl, T.n_earlier, rfl, .inl ⟨rfl, _, SqL.of X.e⟩, ?_⟩
  refine ⟨_, rfl, p, dx, _, rfl, X.ob, rfl, p, _, _, rfl, X.rat, fun e H1 S1 fr ne re => ?_⟩
  have ob1 := S1 _ _ X.ob
  have pe : p ≠ le := ne_of X.ob X.e (by intro z; cases z)
  refine ⟨le, _, _, rfl, rfl, S1 _ _ X.e, smallL (by rw [rts_len]; omega), ?_⟩
  rw [rts_cons]
  have ob2 : upd H1 le (rts (e :: E)) p = _ := (upd_ne pe).trans ob1
  -- what is left to do, once the row of the past is as it should be
  have rest : ∀ H2, H2 = upd H1 le (rts ((e :: E).take 20)) → (∃ p', some p' = some p ∧ True) → ∀ f, H2 f = none → Q .non (upd (upd H2 f (.lst [])) p (.ins T.C dx (flds lu ll lc le f))) := by
    intro H2 e2 _ f hf
    subst e2
    have hf1 : H1 f = none := upd_free hf
    have hf0 : H f = none := S1.free hf1
    have big : ∀ {x}, H x ≠ none → x ≠ f := fun h z => h (z ▸ hf0)
    have bigE : ∀ {x y}, H x ≠ none → y ∈ e.all → x ≠ y := fun h hy z => h (z ▸ fr _ hy)
    have np : ∀ {x}, H x ≠ none → x ≠ p → x ≠ le → upd (upd (upd H1 le (rts ((e :: E).take 20))) f (.lst [])) p (.ins T.C dx (flds lu ll lc le f)) x = H x := fun {x} h1 h2 h3 => by
      rw [upd_ne h2, upd_ne (big h1), upd_ne h3]
      cases q : H x with
      | none => exact absurd q h1
      | some u => exact S1 _ _ q
    have n5 := nd.1
    simp only [List.nodup_cons, List.mem_cons, List.not_mem_nil, or_false, not_or] at n5
    obtain ⟨⟨n1, n2, n3, n4⟩, ⟨n6, n7, n8⟩, ⟨n9, n10⟩, n11, _⟩ := n5
    have pu : lu ≠ p := ne_of X.u X.ob (by intro z; cases z)
    have pl : ll ≠ p := ne_of X.l X.ob (by intro z; cases z)
    have pc : lc ≠ p := ne_of X.c X.ob (by intro z; cases z)
    have hu := np (x := lu) (by rw [X.u]; simp) pu n3
    have hl := np (x := ll) (by rw [X.l]; simp) pl n7
    have hc := np (x := lc) (by rw [X.c]; simp) pc n9
    -- the rows
    have te : e.t ≠ le := fun z => by have := fr e.t (by simp [Rw.all]); rw [z, X.e] at this; cases this
    have rw0 : RwsAt H1 (e :: E) (d.now :: d.past) := ⟨re, X.es.frame fun x hx y hy => by
      obtain ⟨s, hs⟩ := X.es.mem x hx
      have := hs.there y hy
      cases q : H y with
      | none => exact absurd q this
      | some u => exact S1 _ _ q⟩
    have kr : ∀ x ∈ (e :: E).take 20, ∀ y ∈ x.all, upd (upd (upd H1 le (rts ((e :: E).take 20))) f (.lst [])) p (.ins T.C dx (flds lu ll lc le f)) y = H1 y := fun x hx y hy => by
      have hx := List.mem_of_mem_take hx
      rcases List.mem_cons.mp hx with rfl | hx
      · have hy0 := fr y hy
        have y1 : y ≠ p := fun z => by rw [z, X.ob] at hy0; cases hy0
        have y2 : y ≠ le := fun z => by rw [z, X.e] at hy0; cases hy0
        have y3 : y ≠ f := fun z => re.there y hy (z ▸ hf1)
        rw [upd_ne y1, upd_ne y3, upd_ne y2]
      · obtain ⟨s, hs⟩ := X.es.mem x hx
        have h0 := hs.there y hy
        have y3 := big h0
        have y1 : y ≠ p := fun z => by
          simp only [Rw.all, List.mem_cons, List.not_mem_nil, or_false] at hy
          obtain ⟨r1, r2, r3, r4⟩ := hs
          rcases hy with h | h | h | h
          · rw [h] at z; exact ne_of r1 X.ob (by intro z; cases z) z
          · rw [h] at z; exact ne_of r2 X.ob (by intro z; cases z) z
          · rw [h] at z; exact ne_of r3 X.ob (by intro z; cases z) z
          · rw [h] at z; exact ne_of r4 X.ob (by intro z; cases z) z
        have y2 : y ≠ le := fun z => by
          have hin : ∀ y ∈ x.ls, y ∈ (E ++ L).flatMap Rw.ls := fun y hy => List.mem_flatMap.mpr ⟨x, List.mem_append_left _ hx, hy⟩
          have hle : le ∈ [lu, ll, lc, le, lt] := by simp
          rcases List.mem_cons.mp hy with h | h
          · rw [h] at z; exact ne_of hs.1 X.e (by intro z; cases z) z
          · exact nd.2.2 le hle y (hin y h) z.symm
        rw [upd_ne y1, upd_ne y3, upd_ne y2]
    refine k _ (fun a => a ∈ own p lu ll lc le f ((e :: E).take 20 ++ [])) ⟨dx, lu, ll, lc, le, f, (e :: E).take 20, [], ⟨upd_same, hu.trans X.u, hl.trans X.l, hc.trans X.c, ?_, ?_, (rw0.take 20).frame kr, trivial, ?_, VR.become_ok X.ok X.ok.now⟩, fun _ => Iff.rfl⟩ ?_
    · rw [upd_ne pe.symm, upd_ne (big (by rw [X.e]; simp)), upd_same]
    · rw [upd_ne (fun z => by rw [z, X.ob] at hf0; cases hf0), upd_same]; rfl
    · rw [List.append_nil]
      have sub : ∀ x ∈ ((e :: E).take 20).flatMap Rw.ls, x ∈ e.ls ++ E.flatMap Rw.ls := fun x hx => by
        obtain ⟨y, hy, hx⟩ := List.mem_flatMap.mp hx
        rw [← List.flatMap_cons]
        exact List.mem_flatMap.mpr ⟨y, List.mem_of_mem_take hy, hx⟩
      have eIn : ∀ {x}, x ∈ E.flatMap Rw.ls → x ∈ (E ++ L).flatMap Rw.ls := fun hx => by rw [List.flatMap_append]; exact List.mem_append_left _ hx
      have eTh : ∀ {x}, x ∈ E.flatMap Rw.ls → H x ≠ none := fun hx => X.owned (List.mem_append_right [lu, ll, lc, le, lt] (eIn hx))
      refine nd_iff.mpr ⟨?_, ?_, fun a ha b hb => ?_⟩
      · have f1 := big (x := lu) (by rw [X.u]; simp)
        have f2 := big (x := ll) (by rw [X.l]; simp)
        have f3 := big (x := lc) (by rw [X.c]; simp)
        have f4 := big (x := le) (by rw [X.e]; simp)
        simp [n1, n2, n3, n6, n7, n9, f1, f2, f3, f4]
      · have q : (e.ls ++ E.flatMap Rw.ls).Nodup := by
          refine List.nodup_append.mpr ⟨ne, ?_, fun a ha b hb z => eTh hb (z ▸ fr a (ls_all ha))⟩
          have := nd.2.1
          rw [List.flatMap_append] at this
          exact (List.nodup_append.mp this).1
        rw [← List.flatMap_cons] at q
        have e3 : (e :: E).flatMap Rw.ls = ((e :: E).take 20).flatMap Rw.ls ++ ((e :: E).drop 20).flatMap Rw.ls := by rw [← List.flatMap_append, List.take_append_drop]
        rw [e3] at q
        exact (List.nodup_append.mp q).1
      · rcases List.mem_append.mp (sub b hb) with h | h
        · have b0 := fr b (ls_all h)
          simp only [List.mem_cons, List.not_mem_nil, or_false] at ha
          rcases ha with rfl | rfl | rfl | rfl | rfl
          · exact fun z => by rw [← z, X.u] at b0; cases b0
          · exact fun z => by rw [← z, X.l] at b0; cases b0
          · exact fun z => by rw [← z, X.c] at b0; cases b0
          · exact fun z => by rw [← z, X.e] at b0; cases b0
          · exact fun z => re.there b (ls_all h) (z ▸ hf1)
        · simp only [List.mem_cons, List.not_mem_nil, or_false] at ha
          rcases ha with rfl | rfl | rfl | rfl | rfl
          · exact nd.2.2 _ (by simp) b (eIn h)
          · exact nd.2.2 _ (by simp) b (eIn h)
          · exact nd.2.2 _ (by simp) b (eIn h)
          · exact nd.2.2 _ (by simp) b (eIn h)
          · exact (big (eTh h)).symm
    · have F1 : Fr H H1 F F := Fr.same S1
      have hFp : F p := (hF p).mpr (mem_own.mpr (.inl rfl))
      have hFe : F le := (hF le).mpr (mem_own.mpr (.inr (.inr (.inr (.inr (.inl rfl))))))
      refine (((F1.upd (.inl hFe) _).upd (.inr hf0) _).upd (.inl hFp) _).owns fun a ha => ?_
      rw [List.append_nil] at ha
      rcases mem_own.mp ha with h | h | h | h | h | h | ⟨y, hy, hx⟩
      · exact .inl ((hF a).mpr (mem_own.mpr (.inl h)))
      · exact .inl ((hF a).mpr (mem_own.mpr (.inr (.inl h))))
      · exact .inl ((hF a).mpr (mem_own.mpr (.inr (.inr (.inl h)))))
      · exact .inl ((hF a).mpr (mem_own.mpr (.inr (.inr (.inr (.inl h))))))
      · exact .inl ((hF a).mpr (mem_own.mpr (.inr (.inr (.inr (.inr (.inl h)))))))
      · exact .inr (h ▸ hf0)
      · rcases List.mem_cons.mp (List.mem_of_mem_take hy) with rfl | hy
        · exact .inr (fr a hx)
        · exact .inl ((hF a).mpr (mem_own.mpr (.inr (.inr (.inr (.inr (.inr (.inr ⟨y, List.mem_append_left _ hy, hx⟩))))))))
  refine ⟨_, rfl, p, T.C, dx, _, _, rfl, ob2, T.cl, T.n_earlier, rfl, le, _, rfl, .inl (SqL.of upd_same), _, _, rfl, rfl, _, rfl, ?_⟩
  rw [rts_len]
  refine ite2 (fun c => ?_) (fun c => ?_)
  · have h21 : (e :: E).length = 21 := by have := of_decide_eq_true c; simp only [List.length_cons] at this ⊢; omega
    refine ⟨_, rfl, p, T.C, dx, _, _, rfl, ob2, T.cl, T.n_earlier, rfl, .inl ⟨rfl, _, SqL.of upd_same⟩, le, _, 0, 0, _, rfl, rfl, upd_same, by decide, by decide, ?_, List.getElem?_eq_getElem (by rw [rts_len]; omega), ?_⟩
    · rw [rts_len, h21]; rfl
    rw [upd_upd, erase_first _ h21]
    refine ⟨one_small, fun f hf => ?_⟩
    refine ⟨_, rfl, p, T.C, dx, _, rfl, (by rw [upd_ne (fun z => by rw [← z, upd_ne pe, ob1] at hf; cases hf), upd_ne pe]; exact ob1), T.cl, T.n_later, Nat.le_of_ble_eq_true rfl, ?_⟩
    exact rest _ rfl ⟨p, rfl, trivial⟩ f hf
  · have h20 : (e :: E).length ≤ 20 := by have := of_decide_eq_false (Bool.eq_false_iff.mpr c); omega
    have et : (e :: E).take 20 = e :: E := List.take_of_length_le h20
    refine ⟨one_small, fun f hf => ?_⟩
    refine ⟨_, rfl, p, T.C, dx, _, rfl, (by rw [upd_ne (fun z => by rw [← z, upd_ne pe, ob1] at hf; cases hf), upd_ne pe]; exact ob1), T.cl, T.n_later, Nat.le_of_ble_eq_true rfl, ?_⟩
    exact rest _ (by rw [et]) ⟨p, rfl, trivial⟩ f hf
end
end VP
end
noncomputable section
set_option Elab.async false
set_option linter.all false
set_option maxRecDepth 100000
namespace VP
open PySem PySem.Spec PyProof.Rows L2 VS VL
open Km457 (Valley Village)
open Km460 (Sea Desk Call)
theorem calledL_snoc {s : Valley} {cs : List Nat} (h : ∀ c ∈ cs, c < s.length) (x : Village) : calledL (s ++ [x]) cs = calledL s cs ++ [0] := by
  unfold calledL
  rw [List.length_append, List.length_singleton, List.range_succ, List.map_append]
  congr 1
  show [if s.length ∈ cs then 1 else 0] = [0]
  rw [if_neg (fun z => Nat.lt_irrefl _ (h _ z))]
theorem calledL_eq {s s' : Valley} (h : s.length = s'.length) (cs : List Nat) : calledL s cs = calledL s' cs := by unfold calledL; rw [h]
theorem calledL_sum {s : Valley} {cs : List Nat} (nd : cs.Nodup) (h : ∀ c ∈ cs, c < s.length) : (calledL s cs).sum = cs.length := by
  rw [← (cvs_perm nd h).length_eq]
  unfold calledL cvs
  induction List.range s.length with
  | nil => rfl
  | cons x l ih =>
    rw [List.map_cons, List.sum_cons, ih, List.filter_cons]
    by_cases c : x ∈ cs
    · simp [c]; omega
    · simp [c]
theorem calledL_none (s : Valley) : calledL s [] = (List.range s.length).map fun _ => 0 := by unfold calledL; simp
section
variable {P : Program} {w : World} {K : PySem.W.Frag} {mg : Str → Option Value} {base : Heap}
def outN (C : Addr) (H : Hp) (p : Addr) (F : Addr → Prop) (d : Desk) (n : Nat) (Q : VK) : Prop := ∀ (H' : Hp) (F' : Addr → Prop), VAt C H' p d F' → Fr H H' F F' → Q (.int (n : Int)) H'
theorem VX.apart {C : Addr} {H : Hp} {p : Addr} {d : Desk} {dx lu ll lc le lt : Addr} {E L : List Rw} (X : VX C H p d dx lu ll lc le lt E L) : lu ≠ ll ∧ lu ≠ lc ∧ ll ≠ lc ∧ p ≠ lu ∧ p ≠ ll ∧ p ≠ lc := by
  have n5 := (nd_iff.mp X.nd).1
  simp only [List.nodup_cons, List.mem_cons, List.not_mem_nil, or_false, not_or] at n5
  obtain ⟨⟨n1, n2, n3, n4⟩, ⟨n6, n7, n8⟩, _⟩ := n5
  exact ⟨n1, n2, n6, ne_of X.ob X.u (by intro z; cases z), ne_of X.ob X.l (by intro z; cases z), ne_of X.ob X.c (by intro z; cases z)⟩

def spAV (C : Addr) : Sp := fun vs H Q _ => ∃ (p : Addr) (d : Desk) (F : Addr → Prop) (x y : Nat), vs = [.ref p, .int (x : Int), .int (y : Int)] ∧ VAt C H p d F ∧ x < d.now.valley.length ∧ 1 ≤ y ∧ y ≤ 1000 ∧ d.now.valley.length < 14 ∧
  outN C H p F (d.become { d.now with valley := d.now.valley ++ [⟨x, y, 0⟩] }) d.now.valley.length Q
theorem scAV : FnScope ["self", "up", "far"] ["self", "up", "far"] (defScope s_Valley_add_village) := ⟨rfl, rfl, rfl, by decide +kernel, rfl, by decide +kernel, by decide +kernel⟩
theorem ok_add_village (T : Txt K mg) : FnOk P w K mg base CX0 3 T.add_village.f T.add_village.fd ["self", "up", "far"] (spAV T.C) := by
  refine T.add_village.F.ok scAV (fun vs H Q E h => ?_) (fun cdv A outer s0 H vs Q E hr h => ?_)
  · obtain ⟨p, d, F, x, y, rfl, _⟩ := h
    rfl
  obtain ⟨p, d, F, x, y, rfl, V0, hx, hy1, hy2, h14, k⟩ := h
  obtain ⟨dx0, _, _, _, _, _, _, _, X0, _⟩ := id V0
  refine ⟨_, (pss_cons (ps_expr (pe_meth0 (pv 0) T.cl T.keep_rows.m (ok_keep_rows T) hr T.keep_rows.b .nil pass0)) (pss_cons (ps_expr (pe_bm PySem.F.plainAttrs_list PySem.F.slot_list_append PySem.F.type_list_append mt_append (pe_fld (pv 0) rfl) (pa_cons (pv 1) pa_nil))) (pss_cons (ps_expr (pe_bm PySem.F.plainAttrs_list PySem.F.slot_list_append PySem.F.type_list_append mt_append (pe_fld (pv 0) rfl) (pa_cons (pv 2) pa_nil))) (pss_cons (ps_expr (pe_bm PySem.F.plainAttrs_list PySem.F.slot_list_append PySem.F.type_list_append mt_append (pe_fld (pv 0) rfl) (pa_cons pe_int pa_nil))) (pss_one (ps_ret (pe_op op_sub (pe_callB call_len_seq rfl T.len PySem.boot_len (pa_cons (pe_fld (pv 0) rfl) pa_nil)) pe_int))))))), ?_⟩
  refine ⟨_, rfl, p, dx0, _, rfl, X0.ob, rfl, p, d, F, rfl, V0, fun H1 F1 V1 Fr1 => ?_⟩
  obtain ⟨dx, lu, ll, lc, le, lt, E, L, X, hF⟩ := V1
  obtain ⟨ul, uc, lc', pu, pl, pc⟩ := X.apart
  have few := X.ok.now.wf.few
  have few : d.now.valley.length ≤ 14 := few
  refine ⟨_, rfl, p, T.C, dx, _, _, rfl, X.ob, T.cl, T.n_ups, rfl, .inl ⟨rfl, _, SqL.of X.u⟩, _, rfl, lu, _, _, rfl, rfl, X.u, smallL (by rw [vz_length, List.length_map]; show d.now.valley.length ≤ _; omega), ?_⟩
  have ob2 : ∀ o, upd H1 lu o p = _ := fun o => (upd_ne pu).trans X.ob
  have l2 : ∀ o, upd H1 lu o ll = _ := fun o => (upd_ne ul.symm).trans X.l
  refine ⟨_, rfl, p, T.C, dx, _, _, rfl, ob2 _, T.cl, T.n_lengths, rfl, .inl ⟨rfl, _, SqL.of (l2 _)⟩, _, rfl, ll, _, _, rfl, rfl, l2 _, smallL (by rw [vz_length, List.length_map]; show d.now.valley.length ≤ _; omega), ?_⟩
  have ob3 : ∀ o o', upd (upd H1 lu o) ll o' p = _ := fun o o' => (upd_ne pl).trans (ob2 o)
  have c3 : ∀ o o', upd (upd H1 lu o) ll o' lc = _ := fun o o' => (upd_ne lc'.symm).trans ((upd_ne uc.symm).trans X.c)
  refine ⟨_, rfl, p, T.C, dx, _, _, rfl, ob3 _ _, T.cl, T.n_called, rfl, .inl ⟨rfl, _, SqL.of (c3 _ _)⟩, lc, _, _, rfl, rfl, c3 _ _, smallL (by rw [vz_length, calledL_len]; show d.now.valley.length ≤ _; omega), ?_⟩
  refine ⟨_, rfl, p, T.C, dx, _, _, rfl, (by rw [upd_ne pc]; exact ob3 _ _), T.cl, T.n_ups, rfl, lu, _, rfl, .inl (SqL.of (by rw [upd_ne uc, upd_ne ul]; exact upd_same)), _, _, rfl, rfl, ?_⟩
  have en : ((((vz ((d.become d.now).now.valley.map (·.up))) ++ [V.int (x : Int)]).length : Nat) : Int) - 1 = ((d.now.valley.length : Nat) : Int) := by
    rw [List.length_append, vz_length, List.length_map]
    show ((d.now.valley.length + 1 : Nat) : Int) - 1 = _
    omega
  show Q (V.int (((((vz ((d.become d.now).now.valley.map (·.up))) ++ [V.int (x : Int)]).length : Nat) : Int) - 1)) _
  rw [en]
  have hU : F1 lu := (hF lu).mpr (mem_own.mpr (.inr (.inl rfl)))
  have hL : F1 ll := (hF ll).mpr (mem_own.mpr (.inr (.inr (.inl rfl))))
  have hC : F1 lc := (hF lc).mpr (mem_own.mpr (.inr (.inr (.inr (.inl rfl)))))
  refine k _ F1 ⟨dx, lu, ll, lc, le, lt, E, L, X.setNow (s := { d.now with valley := d.now.valley ++ [⟨x, y, 0⟩] }) (VR.village_ok (s := d.now) X.ok.now hx hy1 hy2 h14 0) ?_ ?_ ?_ ?_, hF⟩ (Fr1.trans ((((Fr.refl H1 F1).upd (.inl hU) _).upd (.inl hL) _).upd (.inl hC) _))
  · rw [upd_ne uc, upd_ne ul, upd_same, List.map_append]
    exact congrArg some (li_snoc _ x)
  · rw [upd_ne lc', upd_same, List.map_append]
    exact congrArg some (li_snoc _ y)
  · rw [upd_same]
    show _ = some (li (calledL (d.now.valley ++ [⟨x, y, 0⟩]) d.now.calls))
    rw [calledL_snoc (s := d.now.valley) (cs := d.now.calls) X.ok.now.lt]
    exact congrArg some (li_snoc _ 0)
  · intro a h1 h2 h3
    rw [upd_ne h3, upd_ne h2, upd_ne h1]

def spSD (C : Addr) : Sp := fun vs H Q _ => ∃ (p : Addr) (d : Desk) (F : Addr → Prop) (x y : Nat), vs = [.ref p, .int (x : Int), .int (y : Int)] ∧ VAt C H p d F ∧ x < d.now.valley.length ∧ x ≠ 0 ∧ 1 ≤ y ∧ y ≤ 1000 ∧
  outN C H p F (d.become { d.now with valley := d.now.valley.set x { Km457.at_ d.now.valley x with long := y } }) (VR.ln d.now.valley x) Q
theorem scSD : FnScope ["self", "v", "n", "was"] ["self", "v", "n"] (defScope s_Valley_set_road) := ⟨rfl, rfl, rfl, by decide +kernel, rfl, by decide +kernel, by decide +kernel⟩
theorem set_up {s : Valley} {x y : Nat} (h : x < s.length) : (s.set x { Km457.at_ s x with long := y }).map (·.up) = s.map (·.up) := by
  rw [List.map_set]
  refine List.ext_getElem? fun i => ?_
  rw [List.getElem?_set]
  by_cases e : x = i
  · subst e
    rw [if_pos rfl, if_pos (by rw [List.length_map]; exact h), up_at h]
  · rw [if_neg e]
theorem set_long {s : Valley} {x y : Nat} : (s.set x { Km457.at_ s x with long := y }).map (·.long) = (s.map (·.long)).set x y := by rw [List.map_set]
theorem ix_in {l : List Nat} {x : Nat} (h : x < l.length) : ixN (vz l).length (x : Int) = some x := by
  unfold ixN
  rw [if_pos (by omega), if_pos (by rw [vz_length]; omega)]
  rfl
theorem ok_set_road (T : Txt K mg) : FnOk P w K mg base CX0 3 T.set_road.f T.set_road.fd ["self", "v", "n"] (spSD T.C) := by
  refine T.set_road.F.ok scSD (fun vs H Q E h => ?_) (fun cdv A outer s0 H vs Q E hr h => ?_)
  · obtain ⟨p, d, F, x, y, rfl, _⟩ := h
    rfl
  obtain ⟨p, d, F, x, y, rfl, V0, hx, hx0, hy1, hy2, k⟩ := h
  obtain ⟨dx0, _, _, _, _, _, _, _, X0, _⟩ := id V0
  refine ⟨_, (pss_cons (ps_expr (pe_meth0 (pv 0) T.cl T.keep_rows.m (ok_keep_rows T) hr T.keep_rows.b .nil pass0)) (pss_cons (ps_set (i := 3) scSD.nd rfl (Or.inl rfl) (pe_ix ix_list (pe_fld (pv 0) rfl) (pv 1) (fun _ _ => rfl))) (pss_cons (ps_asg (pv 2) (pg_sub (pe_fld (pv 0) rfl) (pv 1) set_list)) (pss_one (ps_ret (pv 3)))))), ?_⟩
  refine ⟨_, rfl, p, dx0, _, rfl, X0.ob, rfl, p, d, F, rfl, V0, fun H1 F1 V1 Fr1 => ?_⟩
  obtain ⟨dx, lu, ll, lc, le, lt, E, L, X, hF⟩ := V1
  obtain ⟨ul, uc, lc', pu, pl, pc⟩ := X.apart
  refine ⟨_, rfl, p, T.C, dx, _, _, rfl, X.ob, T.cl, T.n_lengths, rfl, _, rfl, ll, _, _, _, rfl, rfl, SqL.of X.l, vz_at (ln_at hx), ?_⟩
  refine ⟨_, rfl, _, rfl, p, T.C, dx, _, _, rfl, X.ob, T.cl, T.n_lengths, rfl, _, rfl, ll, _, _, x, rfl, rfl, X.l, ix_in (by rw [List.length_map]; exact hx), ?_⟩
  have hL : F1 ll := (hF ll).mpr (mem_own.mpr (.inr (.inr (.inl rfl))))
  refine ⟨_, rfl, k _ F1 ⟨dx, lu, ll, lc, le, lt, E, L, X.setNow (s := { d.now with valley := d.now.valley.set x { Km457.at_ d.now.valley x with long := y } }) (VR.long_ok (s := d.now) X.ok.now hx hx0 hy1 hy2) ?_ ?_ ?_ ?_, hF⟩ (Fr1.trans ((Fr.refl H1 F1).upd (.inl hL) _))⟩
  · rw [upd_ne ul]
    show _ = some (li ((d.now.valley.set x _).map (·.up)))
    rw [set_up hx]
    exact X.u
  · rw [upd_same]
    show some (HO.lst ((vz _).set x (.int (y : Int)))) = some (li ((d.now.valley.set x _).map (·.long)))
    rw [vz_set, set_long]
    rfl
  · rw [upd_ne lc'.symm]
    show _ = some (li (calledL (d.now.valley.set x _) d.now.calls))
    rw [calledL_eq (List.length_set ..)]
    exact X.c
  · intro a h1 h2 h3
    rw [upd_ne h2]

def spSC (C : Addr) : Sp := fun vs H Q _ => ∃ (p : Addr) (d : Desk) (F : Addr → Prop) (x o : Nat) (l : List Nat), vs = [.ref p, .int (x : Int), .int (o : Int)] ∧ VAt C H p d F ∧ x < d.now.valley.length ∧ (calledL d.now.valley d.now.calls).set x o = calledL d.now.valley l ∧ VR.SeaOk { d.now with calls := l } ∧
  outN C H p F (d.become { d.now with calls := l }) l.length Q
theorem scSC : FnScope ["self", "v", "o"] ["self", "v", "o"] (defScope s_Valley_set_call) := ⟨rfl, rfl, rfl, by decide +kernel, rfl, by decide +kernel, by decide +kernel⟩
theorem ok_set_call (T : Txt K mg) : FnOk P w K mg base CX0 3 T.set_call.f T.set_call.fd ["self", "v", "o"] (spSC T.C) := by
  refine T.set_call.F.ok scSC (fun vs H Q E h => ?_) (fun cdv A outer s0 H vs Q E hr h => ?_)
  · obtain ⟨p, d, F, x, o, l, rfl, _⟩ := h
    rfl
  obtain ⟨p, d, F, x, o, l, rfl, V0, hx, hset, hok, k⟩ := h
  obtain ⟨dx0, _, _, _, _, _, _, _, X0, _⟩ := id V0
  refine ⟨_, (pss_cons (ps_expr (pe_meth0 (pv 0) T.cl T.keep_rows.m (ok_keep_rows T) hr T.keep_rows.b .nil pass0)) (pss_cons (ps_asg (pv 2) (pg_sub (pe_fld (pv 0) rfl) (pv 1) set_list)) (pss_one (ps_ret (pe_callB (call_sum rfl) rfl T.sum PyProof.Rows.boot_sum (pa_cons (pe_fld (pv 0) rfl) pa_nil)))))), ?_⟩
  refine ⟨_, rfl, p, dx0, _, rfl, X0.ob, rfl, p, d, F, rfl, V0, fun H1 F1 V1 Fr1 => ?_⟩
  obtain ⟨dx, lu, ll, lc, le, lt, E, L, X, hF⟩ := V1
  obtain ⟨ul, uc, lc', pu, pl, pc⟩ := X.apart
  refine ⟨_, rfl, _, rfl, p, T.C, dx, _, _, rfl, X.ob, T.cl, T.n_called, rfl, _, rfl, lc, _, _, x, rfl, rfl, X.c, ix_in (by rw [calledL_len]; exact hx), ?_⟩
  have hC : F1 lc := (hF lc).mpr (mem_own.mpr (.inr (.inr (.inr (.inl rfl)))))
  have ec : upd H1 lc (.lst ((vz (calledL (d.become d.now).now.valley (d.become d.now).now.calls)).set x (.int (o : Int)))) lc = some (li (calledL d.now.valley l)) := by
    rw [upd_same]
    show some (HO.lst ((vz (calledL d.now.valley d.now.calls)).set x (.int (o : Int)))) = _
    rw [vz_set, hset]
  refine ⟨_, rfl, p, T.C, dx, _, _, rfl, (by rw [upd_ne pc]; exact X.ob), T.cl, T.n_called, rfl, lc, _, rfl, SqL.of ec, ?_⟩
  rw [zs_sum, calledL_sum hok.nd hok.lt]
  refine k _ F1 ⟨dx, lu, ll, lc, le, lt, E, L, X.setNow hok ?_ ?_ ec ?_, hF⟩ (Fr1.trans ((Fr.refl H1 F1).upd (.inl hC) _))
  · rw [upd_ne uc]; exact X.u
  · rw [upd_ne lc']; exact X.l
  · intro a h1 h2 h3
    rw [upd_ne h3]

def spCC (C : Addr) : Sp := fun vs H Q _ => ∃ (p : Addr) (d : Desk) (F : Addr → Prop), vs = [.ref p] ∧ VAt C H p d F ∧ outN C H p F (d.become { d.now with calls := [] }) d.now.calls.length Q
theorem scCC : FnScope ["self", "were", "v"] ["self"] (defScope s_Valley_clear_calls) := ⟨rfl, rfl, rfl, by decide +kernel, rfl, by decide +kernel, by decide +kernel⟩
theorem ok_clear_calls (T : Txt K mg) : FnOk P w K mg base CX0 3 T.clear_calls.f T.clear_calls.fd ["self"] (spCC T.C) := by
  refine T.clear_calls.F.ok scCC (fun vs H Q E h => ?_) (fun cdv A outer s0 H vs Q E hr h => ?_)
  · obtain ⟨p, d, F, rfl, _⟩ := h
    rfl
  obtain ⟨p, d, F, rfl, V0, k⟩ := h
  obtain ⟨dx0, _, _, _, _, _, _, _, X0, _⟩ := id V0
  refine ⟨_, (pss_cons (ps_expr (pe_meth0 (pv 0) T.cl T.keep_rows.m (ok_keep_rows T) hr T.keep_rows.b .nil pass0)) (pss_cons (ps_set (i := 1) scCC.nd rfl (Or.inl rfl) (pe_callB (call_sum rfl) rfl T.sum PyProof.Rows.boot_sum (pa_cons (pe_fld (pv 0) rfl) pa_nil))) (pss_cons (ps_fld (pv 0) (pe_lc (own := [("v", 2)]) rfl scCC.nd (pi_list (pe_fld (pv 0) rfl)) (blkOk_by (N := ["self", "were", "v"]) (sc := defScope s_Valley_clear_calls) (by decide +kernel)) (fun _ _ _ _ _ => pg_name (i := 2) scCC.nd rfl (Or.inl rfl)) (fun _ _ _ _ _ => pts_nil) (fun _ _ _ _ _ => pe_int)) rfl) (pss_one (ps_ret (pv 1)))))), ?_⟩
  refine ⟨_, rfl, p, dx0, _, rfl, X0.ob, rfl, p, d, F, rfl, V0, fun H1 F1 V1 Fr1 => ?_⟩
  obtain ⟨dx, lu, ll, lc, le, lt, E, L, X, hF⟩ := V1
  have few := X.ok.now.wf.few
  have few : d.now.valley.length ≤ 14 := few
  refine ⟨_, rfl, p, T.C, dx, _, _, rfl, X.ob, T.cl, T.n_called, rfl, lc, _, rfl, SqL.of X.c, ?_⟩
  rw [zs_sum, calledL_sum X.ok.now.nd X.ok.now.lt]
  refine ⟨_, rfl, p, T.C, dx, _, _, rfl, X.ob, T.cl, T.n_called, rfl, lc, rfl, ⟨_, SqL.of X.c⟩, fun D hD => ?_⟩
  refine lc_list (K := K) (xs := vz (calledL d.now.valley d.now.calls)) (fun i H' => H' D = some (li ((List.range i).map fun _ => 0)) ∧ Same H1 H') ⟨upd_same, same_new hD _⟩ (fun i H2 _ ⟨_, S2⟩ => SqL.of (S2 _ _ X.c)) ?_ ?_
  · rintro i z H2 hi ⟨h2, S2⟩
    have hi : i < (vz (calledL d.now.valley d.now.calls)).length := (List.getElem?_eq_some_iff.mp hi).1
    rw [vz_length, calledL_len] at hi
    refine ⟨rfl, yes ?_⟩
    refine ⟨_, h2, smallL ?_, ?_, keepNew S2 hD _⟩
    · rw [vz_length, List.length_map, List.length_range]
      omega
    · rw [upd_same, List.range_succ, List.map_append]
      exact congrArg some (li_snoc _ 0)
  · rintro H2 ⟨h2, S2⟩
    rw [vz_length, calledL_len, ← calledL_none] at h2
    refine ⟨_, rfl, p, T.C, dx, _, rfl, S2 _ _ X.ob, T.cl, T.n_called, Nat.le_of_ble_eq_true rfl, ?_⟩
    have nd := nd_iff.mp X.nd
    have hP : F1 p := (hF p).mpr (mem_own.mpr (.inl rfl))
    have pD : p ≠ D := ne_of_none X.ob hD
    have big : ∀ {x}, x ∈ lists lu ll lc le lt (E ++ L) → x ≠ D := fun h z => X.owned h (z ▸ hD)
    have X2 : VX T.C H2 p (d.become d.now) dx lu ll lc le lt E L := X.frame fun a ha => by
      have := X.there a ha
      cases q : H1 a with
      | none => exact absurd q this
      | some u => exact S2 _ _ q
    have up : ∀ {x : Addr} {o o' : HO}, H2 x = some o → (∀ C dx fs, o ≠ .ins C dx fs) → upd H2 p o' x = some o := fun {x o o'} h n => by
      rw [upd_ne (ne_of h X2.ob (n _ _ _))]; exact h
    have fr : ∀ {E' : List Rw} {S : List Sea} {o' : HO}, RwsAt H2 E' S → RwsAt (upd H2 p o') E' S := fun {E' S o'} h => h.frame fun e he y hy => by
      obtain ⟨s, r1, r2, r3, r4⟩ := h.mem e he
      simp only [Rw.all, List.mem_cons, List.not_mem_nil, or_false] at hy
      rcases hy with rfl | rfl | rfl | rfl
      · exact (up r1 (by intros; simp)).trans r1.symm
      · exact (up r2 (by intros; simp)).trans r2.symm
      · exact (up r3 (by intros; simp)).trans r3.symm
      · exact (up r4 (by intros; simp)).trans r4.symm
    have n5 := nd.1
    simp only [List.nodup_cons, List.mem_cons, List.not_mem_nil, or_false, not_or] at n5
    obtain ⟨⟨n1, n2, n3, n4⟩, ⟨n6, n7, n8⟩, ⟨n9, n10⟩, n11, _⟩ := n5
    refine ⟨_, rfl, k _ (fun a => a ∈ own p lu ll D le lt (E ++ L)) ⟨dx, lu, ll, D, le, lt, E, L, ⟨upd_same, up X2.u (by intros; simp), up X2.l (by intros; simp), up h2 (by intros; simp), up X2.e (by unfold rts; intros; simp), up X2.f (by unfold rts; intros; simp), fr X2.es, fr X2.fs, ?_, VR.become_ok X0.ok (VR.clear_ok (s := d.now) X0.ok.now)⟩, fun _ => Iff.rfl⟩ ?_⟩
    · refine nd_iff.mpr ⟨?_, nd.2.1, fun a ha b hb => ?_⟩
      · have f1 := big (x := lu) (by simp [lists])
        have f2 := big (x := ll) (by simp [lists])
        have f4 := big (x := le) (by simp [lists])
        have f5 := big (x := lt) (by simp [lists])
        simp [n1, n3, n4, n7, n8, n11, f1, f2, f4.symm, f5.symm]
      · simp only [List.mem_cons, List.not_mem_nil, or_false] at ha
        rcases ha with rfl | rfl | rfl | rfl | rfl
        · exact nd.2.2 _ (by simp) b hb
        · exact nd.2.2 _ (by simp) b hb
        · exact (big (List.mem_append_right [lu, ll, lc, le, lt] hb)).symm
        · exact nd.2.2 _ (by simp) b hb
        · exact nd.2.2 _ (by simp) b hb
    · refine (Fr1.trans ((Fr.same (F := F1) S2).upd (.inl hP) _)).owns fun a ha => ?_
      have key : F1 a ∨ H1 a = none := by
        rcases mem_own.mp ha with h | h | h | h | h | h | h
        · exact .inl ((hF a).mpr (mem_own.mpr (.inl h)))
        · exact .inl ((hF a).mpr (mem_own.mpr (.inr (.inl h))))
        · exact .inl ((hF a).mpr (mem_own.mpr (.inr (.inr (.inl h)))))
        · exact .inr (h ▸ hD)
        · exact .inl ((hF a).mpr (mem_own.mpr (.inr (.inr (.inr (.inr (.inl h)))))))
        · exact .inl ((hF a).mpr (mem_own.mpr (.inr (.inr (.inr (.inr (.inr (.inl h))))))))
        · exact .inl ((hF a).mpr (mem_own.mpr (.inr (.inr (.inr (.inr (.inr (.inr h))))))))
      rcases key with q | q
      · exact Fr1.ow a q
      · exact .inr (Fr1.dom a q)
end
end VP
end
noncomputable section
set_option Elab.async false
set_option linter.all false
set_option maxRecDepth 100000
namespace VP
open PySem PySem.Spec PyProof.Rows L2 VS VL
open Km457 (Valley Village)
open Km460 (Sea Desk Call)
section
variable {P : Program} {w : World} {K : PySem.W.Frag} {mg : Str → Option Value} {base : Heap}

def spTB (C : Addr) : Sp := fun vs H Q _ => ∃ (p : Addr) (d : Desk) (F : Addr → Prop) (s : Sea) (r : List Sea), vs = [.ref p] ∧ VAt C H p d F ∧ d.past = s :: r ∧ outN C H p F ⟨s, r, d.now :: d.future⟩ r.length Q
theorem scTB : FnScope ["self"] ["self"] (defScope s_Valley_take_back) := ⟨rfl, rfl, rfl, by decide +kernel, rfl, by decide +kernel, by decide +kernel⟩
theorem ok_take_back (T : Txt K mg) : FnOk P w K mg base CX0 2 T.take_back.f T.take_back.fd ["self"] (spTB T.C) := by
  refine T.take_back.F.ok scTB (fun vs H Q E h => ?_) (fun cdv A outer s0 H vs Q E hr h => ?_)
  · obtain ⟨p, d, F, k, r, rfl, _⟩ := h
    rfl
  obtain ⟨p, d, F, s, r, rfl, ⟨dx, lu, ll, lc, le, lt, E, L, X, hF⟩, hd, k⟩ := h
  have few := X.ok.few
  have hEl := X.es.length
  have hLl := X.fs.length
  have DO := X.ok
  obtain ⟨g, G, eE, rg, rG⟩ : ∃ g G, E = g :: G ∧ RwAt H g s ∧ RwsAt H G r := by
    have h := X.es
    rw [hd] at h
    cases q : E with
    | nil => rw [q] at h; exact h.elim
    | cons g G => rw [q] at h; exact ⟨g, G, rfl, h.1, h.2⟩
  subst eE
  have nd := nd_iff.mp X.nd
  refine ⟨_, (pss_cons (ps_expr (pe_bm PySem.F.plainAttrs_list PySem.F.slot_list_append PySem.F.type_list_append mt_append (pe_fld (pv 0) rfl) (pa_cons (pe_meth0 (pv 0) T.cl T.rows.m (ok_rows T) hr T.rows.b .nil pass0) pa_nil))) (pss_cons (ps_expr (pe_meth (pv 0) T.cl T.set_rows.m (ok_set_rows T) hr T.set_rows.b .nil pass0 (pa_cons (pe_bm0 PySem.F.plainAttrs_list PySem.F.slot_list_pop PySem.F.type_list_pop mt_pop (pe_fld (pv 0) rfl)) pa_nil))) (pss_one (ps_ret (pe_callB call_len_seq rfl T.len PySem.boot_len (pa_cons (pe_fld (pv 0) rfl) pa_nil)))))), ?_⟩
  have n5 := nd.1
  simp only [List.nodup_cons, List.mem_cons, List.not_mem_nil, or_false, not_or] at n5
  obtain ⟨⟨n1, n2, n3, n4⟩, ⟨n6, n7, n8⟩, ⟨n9, n10⟩, n11, _⟩ := n5
  have pe : p ≠ le := ne_of X.ob X.e (by unfold rts; intro z; cases z)
  have pf : p ≠ lt := ne_of X.ob X.f (by unfold rts; intro z; cases z)
  refine ⟨_, rfl, p, T.C, dx, _, _, rfl, X.ob, T.cl, T.n_later, rfl, .inl ⟨rfl, _, SqL.of X.f⟩, ?_⟩
  refine ⟨_, rfl, p, dx, _, rfl, X.ob, rfl, p, _, _, rfl, X.rat, fun e H1 S1 fr ne re => ?_⟩
  have ob1 := S1 _ _ X.ob
  refine ⟨lt, _, _, rfl, rfl, S1 _ _ X.f, smallL (by rw [rts_len]; simp only [List.length_cons] at *; omega), ?_⟩
  rw [rts_cons]
  have ob2 : upd H1 lt (rts (e :: L)) p = _ := (upd_ne pf).trans ob1
  have he2 : upd H1 lt (rts (e :: L)) le = some (rts (g :: G)) := (upd_ne n11).trans (S1 _ _ X.e)
  refine ⟨_, rfl, p, dx, _, rfl, ob2, rfl, ?_⟩
  refine ⟨_, rfl, p, T.C, dx, _, _, rfl, ob2, T.cl, T.n_earlier, rfl, .inl ⟨rfl, _, SqL.of he2⟩, le, _, .ref g.t, rfl, rfl, he2, ?_, ?_⟩
  · rw [List.map_cons, List.reverse_cons]
    simp
  have edl : HO.lst (((g :: G).map fun e => V.ref e.t).reverse).dropLast = rts G := by
    unfold rts
    rw [List.map_cons, List.reverse_cons, List.dropLast_concat]
  rw [edl]
  have ob3 : upd (upd H1 lt (rts (e :: L))) le (rts G) p = _ := (upd_ne pe).trans ob2
  have out : ∀ {x}, H x ≠ none → x ≠ p → x ≠ le → x ≠ lt → ∀ o, upd (upd (upd H1 lt (rts (e :: L))) le (rts G)) p o x = H x := fun {x} h0 h1 h2 h3 o => by
    rw [upd_ne h1, upd_ne h2, upd_ne h3]
    cases q : H x with
    | none => exact absurd q h0
    | some u => exact S1 _ _ q
  have gt3 : upd (upd H1 lt (rts (e :: L))) le (rts G) g.t = some (.tup [.ref g.a, .ref g.b, .ref g.c]) := by
    rw [upd_ne (ne_of rg.1 X.e (by unfold rts; intro z; cases z)), upd_ne (ne_of rg.1 X.f (by unfold rts; intro z; cases z))]
    exact S1 _ _ rg.1
  refine ⟨p, g.t, dx, lu, ll, lc, le, lt, g.a, g.b, g.c, rfl, ob3, gt3, ?_⟩
  have rowOut : ∀ {x : Rw} {s : Sea}, x ∈ (g :: G) ++ L → RwAt H x s → ∀ y ∈ x.all, ∀ o, upd (upd (upd H1 lt (rts (e :: L))) le (rts G)) p o y = H y := fun {x s} hx hs y hy o => by
    refine out (hs.there y hy) (fun z => ?_) (fun z => ?_) (fun z => ?_) o
    · obtain ⟨r1, r2, r3, r4⟩ := hs
      simp only [Rw.all, List.mem_cons, List.not_mem_nil, or_false] at hy
      rcases hy with h | h | h | h
      · rw [h] at z; exact ne_of r1 X.ob (by intro z; cases z) z
      · rw [h] at z; exact ne_of r2 X.ob (by intro z; cases z) z
      · rw [h] at z; exact ne_of r3 X.ob (by intro z; cases z) z
      · rw [h] at z; exact ne_of r4 X.ob (by intro z; cases z) z
    · rcases List.mem_cons.mp hy with h | h
      · rw [h] at z; exact ne_of hs.1 X.e (by unfold rts; intro z; cases z) z
      · exact nd.2.2 le (by simp) y (List.mem_flatMap.mpr ⟨x, hx, h⟩) z.symm
    · rcases List.mem_cons.mp hy with h | h
      · rw [h] at z; exact ne_of hs.1 X.f (by unfold rts; intro z; cases z) z
      · exact nd.2.2 lt (by simp) y (List.mem_flatMap.mpr ⟨x, hx, h⟩) z.symm
  have newOut : ∀ y ∈ e.all, ∀ o, upd (upd (upd H1 lt (rts (e :: L))) le (rts G)) p o y = H1 y := fun y hy o => by
    have y0 := fr y hy
    rw [upd_ne (fun z => by rw [z, X.ob] at y0; cases y0), upd_ne (fun z => by rw [z, X.e] at y0; cases y0), upd_ne (fun z => by rw [z, X.f] at y0; cases y0)]
  have hg : g ∈ (g :: G) ++ L := (List.mem_append_left _ (List.mem_cons_self ..))
  have inG : ∀ x ∈ G, x ∈ (g :: G) ++ L := (fun x hx => List.mem_append_left _ (List.mem_cons_of_mem _ hx))
  have inL : ∀ x ∈ L, x ∈ (g :: G) ++ L := (fun x hx => List.mem_append_right _ hx)
  generalize hHo : (HO.ins T.C dx (flds g.a g.b g.c le lt)) = ob at *
  have ro := rowOut hg rg
  have obp : upd (upd (upd H1 lt (rts (e :: L))) le (rts G)) p ob p = some (.ins T.C dx (flds g.a g.b g.c le lt)) := by rw [upd_same, hHo]
  have hle4 : upd (upd (upd H1 lt (rts (e :: L))) le (rts G)) p ob le = some (rts G) := by rw [upd_ne pe.symm, upd_same]
  have hlt4 : upd (upd (upd H1 lt (rts (e :: L))) le (rts G)) p ob lt = some (rts (e :: L)) := by rw [upd_ne pf.symm, upd_ne (fun z => n11 z.symm), upd_same]
  refine ⟨_, rfl, p, T.C, dx, _, _, rfl, obp, T.cl, T.n_earlier, rfl, le, _, rfl, .inl (SqL.of hle4), ?_⟩
  rw [rts_len, rG.length]
  have rE : RwsAt (upd (upd (upd H1 lt (rts (e :: L))) le (rts G)) p ob) G r := rG.frame fun x hx y hy => by
    obtain ⟨s', hs'⟩ := rG.mem x hx
    exact rowOut (inG x hx) hs' y hy ob
  have rL : RwsAt (upd (upd (upd H1 lt (rts (e :: L))) le (rts G)) p ob) (e :: L) (d.now :: d.future) := ⟨re.frame fun y hy => newOut y hy ob, X.fs.frame fun x hx y hy => by
    obtain ⟨s', hs'⟩ := X.fs.mem x hx
    exact rowOut (inL x hx) hs' y hy ob⟩
  have ok' : VR.DeskOk ⟨s, r, d.now :: d.future⟩ := by
    have h1 := DO.past
    rw [hd] at h1
    have hk : d.past.length + d.future.length ≤ 20 := few
    rw [hd] at hk
    simp only [List.length_cons] at hk
    exact ⟨h1 s (List.mem_cons_self ..), fun x hx => h1 x (List.mem_cons_of_mem _ hx), fun x hx => (by rcases List.mem_cons.mp hx with rfl | hx; exact DO.now; exact DO.fut x hx), (by show r.length + (d.future.length + 1) ≤ 20; omega)⟩
  refine k _ (fun a => a ∈ own p g.a g.b g.c le lt (G ++ (e :: L))) ⟨dx, g.a, g.b, g.c, le, lt, G, (e :: L), ⟨obp, (ro _ (by simp [Rw.all]) ob).trans rg.2.1, (ro _ (by simp [Rw.all]) ob).trans rg.2.2.1, (ro _ (by simp [Rw.all]) ob).trans rg.2.2.2, hle4, hlt4, rE, rL, ?_, ok'⟩, fun _ => Iff.rfl⟩ ?_
  · refine nd_move (A := []) (B := (G ++ L)) (f := g) (e := e) X.nd ne (fun x hx h => X.owned h (fr x (ls_all hx))) List.perm_middle
  · have hP : F p := (hF p).mpr (mem_own.mpr (.inl rfl))
    have hE : F le := (hF le).mpr (mem_own.mpr (.inr (.inr (.inr (.inr (.inl rfl))))))
    have hT : F lt := (hF lt).mpr (mem_own.mpr (.inr (.inr (.inr (.inr (.inr (.inl rfl)))))))
    refine ((((Fr.same (F := F) S1).upd (.inl hT) _).upd (.inl hE) _).upd (.inl hP) _).owns fun a ha => ?_
    have inR : ∀ x ∈ (g :: G) ++ L, ∀ y ∈ x.all, F y := fun x hx y hy => (hF y).mpr (mem_own.mpr (.inr (.inr (.inr (.inr (.inr (.inr ⟨x, hx, hy⟩)))))))
    rcases mem_own.mp ha with h | h | h | h | h | h | ⟨x, hx, hy⟩
    · exact .inl (h ▸ hP)
    · exact .inl (inR g hg a (by simp [Rw.all, h]))
    · exact .inl (inR g hg a (by simp [Rw.all, h]))
    · exact .inl (inR g hg a (by simp [Rw.all, h]))
    · exact .inl (h ▸ hE)
    · exact .inl (h ▸ hT)
    · have hx : x = e ∨ x ∈ G ∨ x ∈ L := by
        simp only [List.mem_append, List.mem_cons] at hx
        rcases hx with h | h | h
        · exact .inr (.inl h)
        · exact .inl h
        · exact .inr (.inr h)
      rcases hx with rfl | hx | hx
      · exact .inr (fr a hy)
      · exact .inl (inR x (inG x hx) a hy)
      · exact .inl (inR x (inL x hx) a hy)

def spDA (C : Addr) : Sp := fun vs H Q _ => ∃ (p : Addr) (d : Desk) (F : Addr → Prop) (s : Sea) (r : List Sea), vs = [.ref p] ∧ VAt C H p d F ∧ d.future = s :: r ∧ outN C H p F ⟨s, d.now :: d.past, r⟩ r.length Q
theorem scDA : FnScope ["self"] ["self"] (defScope s_Valley_do_again) := ⟨rfl, rfl, rfl, by decide +kernel, rfl, by decide +kernel, by decide +kernel⟩
theorem ok_do_again (T : Txt K mg) : FnOk P w K mg base CX0 2 T.do_again.f T.do_again.fd ["self"] (spDA T.C) := by
  refine T.do_again.F.ok scDA (fun vs H Q E h => ?_) (fun cdv A outer s0 H vs Q E hr h => ?_)
  · obtain ⟨p, d, F, k, r, rfl, _⟩ := h
    rfl
  obtain ⟨p, d, F, s, r, rfl, ⟨dx, lu, ll, lc, le, lt, E, L, X, hF⟩, hd, k⟩ := h
  have few := X.ok.few
  have hEl := X.es.length
  have hLl := X.fs.length
  have DO := X.ok
  obtain ⟨g, G, eE, rg, rG⟩ : ∃ g G, L = g :: G ∧ RwAt H g s ∧ RwsAt H G r := by
    have h := X.fs
    rw [hd] at h
    cases q : L with
    | nil => rw [q] at h; exact h.elim
    | cons g G => rw [q] at h; exact ⟨g, G, rfl, h.1, h.2⟩
  subst eE
  have nd := nd_iff.mp X.nd
  refine ⟨_, (pss_cons (ps_expr (pe_bm PySem.F.plainAttrs_list PySem.F.slot_list_append PySem.F.type_list_append mt_append (pe_fld (pv 0) rfl) (pa_cons (pe_meth0 (pv 0) T.cl T.rows.m (ok_rows T) hr T.rows.b .nil pass0) pa_nil))) (pss_cons (ps_expr (pe_meth (pv 0) T.cl T.set_rows.m (ok_set_rows T) hr T.set_rows.b .nil pass0 (pa_cons (pe_bm0 PySem.F.plainAttrs_list PySem.F.slot_list_pop PySem.F.type_list_pop mt_pop (pe_fld (pv 0) rfl)) pa_nil))) (pss_one (ps_ret (pe_callB call_len_seq rfl T.len PySem.boot_len (pa_cons (pe_fld (pv 0) rfl) pa_nil)))))), ?_⟩
  have n5 := nd.1
  simp only [List.nodup_cons, List.mem_cons, List.not_mem_nil, or_false, not_or] at n5
  obtain ⟨⟨n1, n2, n3, n4⟩, ⟨n6, n7, n8⟩, ⟨n9, n10⟩, n11, _⟩ := n5
  have pe : p ≠ le := ne_of X.ob X.e (by unfold rts; intro z; cases z)
  have pf : p ≠ lt := ne_of X.ob X.f (by unfold rts; intro z; cases z)
  refine ⟨_, rfl, p, T.C, dx, _, _, rfl, X.ob, T.cl, T.n_earlier, rfl, .inl ⟨rfl, _, SqL.of X.e⟩, ?_⟩
  refine ⟨_, rfl, p, dx, _, rfl, X.ob, rfl, p, _, _, rfl, X.rat, fun e H1 S1 fr ne re => ?_⟩
  have ob1 := S1 _ _ X.ob
  refine ⟨le, _, _, rfl, rfl, S1 _ _ X.e, smallL (by rw [rts_len]; simp only [List.length_cons] at *; omega), ?_⟩
  rw [rts_cons]
  have ob2 : upd H1 le (rts (e :: E)) p = _ := (upd_ne pe).trans ob1
  have he2 : upd H1 le (rts (e :: E)) lt = some (rts (g :: G)) := (upd_ne (fun z => n11 z.symm)).trans (S1 _ _ X.f)
  refine ⟨_, rfl, p, dx, _, rfl, ob2, rfl, ?_⟩
  refine ⟨_, rfl, p, T.C, dx, _, _, rfl, ob2, T.cl, T.n_later, rfl, .inl ⟨rfl, _, SqL.of he2⟩, lt, _, .ref g.t, rfl, rfl, he2, ?_, ?_⟩
  · rw [List.map_cons, List.reverse_cons]
    simp
  have edl : HO.lst (((g :: G).map fun e => V.ref e.t).reverse).dropLast = rts G := by
    unfold rts
    rw [List.map_cons, List.reverse_cons, List.dropLast_concat]
  rw [edl]
  have ob3 : upd (upd H1 le (rts (e :: E))) lt (rts G) p = _ := (upd_ne pf).trans ob2
  have out : ∀ {x}, H x ≠ none → x ≠ p → x ≠ le → x ≠ lt → ∀ o, upd (upd (upd H1 le (rts (e :: E))) lt (rts G)) p o x = H x := fun {x} h0 h1 h2 h3 o => by
    rw [upd_ne h1, upd_ne h3, upd_ne h2]
    cases q : H x with
    | none => exact absurd q h0
    | some u => exact S1 _ _ q
  have gt3 : upd (upd H1 le (rts (e :: E))) lt (rts G) g.t = some (.tup [.ref g.a, .ref g.b, .ref g.c]) := by
    rw [upd_ne (ne_of rg.1 X.f (by unfold rts; intro z; cases z)), upd_ne (ne_of rg.1 X.e (by unfold rts; intro z; cases z))]
    exact S1 _ _ rg.1
  refine ⟨p, g.t, dx, lu, ll, lc, le, lt, g.a, g.b, g.c, rfl, ob3, gt3, ?_⟩
  have rowOut : ∀ {x : Rw} {s : Sea}, x ∈ E ++ (g :: G) → RwAt H x s → ∀ y ∈ x.all, ∀ o, upd (upd (upd H1 le (rts (e :: E))) lt (rts G)) p o y = H y := fun {x s} hx hs y hy o => by
    refine out (hs.there y hy) (fun z => ?_) (fun z => ?_) (fun z => ?_) o
    · obtain ⟨r1, r2, r3, r4⟩ := hs
      simp only [Rw.all, List.mem_cons, List.not_mem_nil, or_false] at hy
      rcases hy with h | h | h | h
      · rw [h] at z; exact ne_of r1 X.ob (by intro z; cases z) z
      · rw [h] at z; exact ne_of r2 X.ob (by intro z; cases z) z
      · rw [h] at z; exact ne_of r3 X.ob (by intro z; cases z) z
      · rw [h] at z; exact ne_of r4 X.ob (by intro z; cases z) z
    · rcases List.mem_cons.mp hy with h | h
      · rw [h] at z; exact ne_of hs.1 X.e (by unfold rts; intro z; cases z) z
      · exact nd.2.2 le (by simp) y (List.mem_flatMap.mpr ⟨x, hx, h⟩) z.symm
    · rcases List.mem_cons.mp hy with h | h
      · rw [h] at z; exact ne_of hs.1 X.f (by unfold rts; intro z; cases z) z
      · exact nd.2.2 lt (by simp) y (List.mem_flatMap.mpr ⟨x, hx, h⟩) z.symm
  have newOut : ∀ y ∈ e.all, ∀ o, upd (upd (upd H1 le (rts (e :: E))) lt (rts G)) p o y = H1 y := fun y hy o => by
    have y0 := fr y hy
    rw [upd_ne (fun z => by rw [z, X.ob] at y0; cases y0), upd_ne (fun z => by rw [z, X.f] at y0; cases y0), upd_ne (fun z => by rw [z, X.e] at y0; cases y0)]
  have hg : g ∈ E ++ (g :: G) := (List.mem_append_right _ (List.mem_cons_self ..))
  have inG : ∀ x ∈ G, x ∈ E ++ (g :: G) := (fun x hx => List.mem_append_right _ (List.mem_cons_of_mem _ hx))
  have inL : ∀ x ∈ E, x ∈ E ++ (g :: G) := (fun x hx => List.mem_append_left _ hx)
  generalize hHo : (HO.ins T.C dx (flds g.a g.b g.c le lt)) = ob at *
  have ro := rowOut hg rg
  have obp : upd (upd (upd H1 le (rts (e :: E))) lt (rts G)) p ob p = some (.ins T.C dx (flds g.a g.b g.c le lt)) := by rw [upd_same, hHo]
  have hle4 : upd (upd (upd H1 le (rts (e :: E))) lt (rts G)) p ob lt = some (rts G) := by rw [upd_ne pf.symm, upd_same]
  have hlt4 : upd (upd (upd H1 le (rts (e :: E))) lt (rts G)) p ob le = some (rts (e :: E)) := by rw [upd_ne pe.symm, upd_ne n11, upd_same]
  refine ⟨_, rfl, p, T.C, dx, _, _, rfl, obp, T.cl, T.n_later, rfl, lt, _, rfl, .inl (SqL.of hle4), ?_⟩
  rw [rts_len, rG.length]
  have rE : RwsAt (upd (upd (upd H1 le (rts (e :: E))) lt (rts G)) p ob) G r := rG.frame fun x hx y hy => by
    obtain ⟨s', hs'⟩ := rG.mem x hx
    exact rowOut (inG x hx) hs' y hy ob
  have rL : RwsAt (upd (upd (upd H1 le (rts (e :: E))) lt (rts G)) p ob) (e :: E) (d.now :: d.past) := ⟨re.frame fun y hy => newOut y hy ob, X.es.frame fun x hx y hy => by
    obtain ⟨s', hs'⟩ := X.es.mem x hx
    exact rowOut (inL x hx) hs' y hy ob⟩
  have ok' : VR.DeskOk ⟨s, d.now :: d.past, r⟩ := by
    have h1 := DO.fut
    rw [hd] at h1
    have hk : d.past.length + d.future.length ≤ 20 := few
    rw [hd] at hk
    simp only [List.length_cons] at hk
    exact ⟨h1 s (List.mem_cons_self ..), fun x hx => (by rcases List.mem_cons.mp hx with rfl | hx; exact DO.now; exact DO.past x hx), fun x hx => h1 x (List.mem_cons_of_mem _ hx), (by show (d.past.length + 1) + r.length ≤ 20; omega)⟩
  refine k _ (fun a => a ∈ own p g.a g.b g.c le lt ((e :: E) ++ G)) ⟨dx, g.a, g.b, g.c, le, lt, (e :: E), G, ⟨obp, (ro _ (by simp [Rw.all]) ob).trans rg.2.1, (ro _ (by simp [Rw.all]) ob).trans rg.2.2.1, (ro _ (by simp [Rw.all]) ob).trans rg.2.2.2, hlt4, hle4, rL, rE, ?_, ok'⟩, fun _ => Iff.rfl⟩ ?_
  · refine nd_move (A := E) (B := G) (f := g) (e := e) X.nd ne (fun x hx h => X.owned h (fr x (ls_all hx))) (List.Perm.refl _)
  · have hP : F p := (hF p).mpr (mem_own.mpr (.inl rfl))
    have hE : F le := (hF le).mpr (mem_own.mpr (.inr (.inr (.inr (.inr (.inl rfl))))))
    have hT : F lt := (hF lt).mpr (mem_own.mpr (.inr (.inr (.inr (.inr (.inr (.inl rfl)))))))
    refine ((((Fr.same (F := F) S1).upd (.inl hE) _).upd (.inl hT) _).upd (.inl hP) _).owns fun a ha => ?_
    have inR : ∀ x ∈ E ++ (g :: G), ∀ y ∈ x.all, F y := fun x hx y hy => (hF y).mpr (mem_own.mpr (.inr (.inr (.inr (.inr (.inr (.inr ⟨x, hx, hy⟩)))))))
    rcases mem_own.mp ha with h | h | h | h | h | h | ⟨x, hx, hy⟩
    · exact .inl (h ▸ hP)
    · exact .inl (inR g hg a (by simp [Rw.all, h]))
    · exact .inl (inR g hg a (by simp [Rw.all, h]))
    · exact .inl (inR g hg a (by simp [Rw.all, h]))
    · exact .inl (h ▸ hE)
    · exact .inl (h ▸ hT)
    · have hx : x = e ∨ x ∈ G ∨ x ∈ E := by
        simp only [List.mem_append, List.mem_cons] at hx
        rcases hx with (h | h) | h
        · exact .inl h
        · exact .inr (.inr h)
        · exact .inr (.inl h)
      rcases hx with rfl | hx | hx
      · exact .inr (fr a hy)
      · exact .inl (inR x (inG x hx) a hy)
      · exact .inl (inR x (inL x hx) a hy)
end
end VP
end
noncomputable section
set_option Elab.async false
set_option linter.all false
set_option maxRecDepth 100000
namespace VA
open PySem PySem.Spec PyProof.Rows L2 VS VL VP
open Km460 (Call Desk)
/-- what an object stands for, with the addresses that it owns -/
structure Rep where
  at_ : Hp → Addr → Desk → (Addr → Prop) → Prop
  frame : ∀ {H H' : Hp} {p : Addr} {d : Desk} {F : Addr → Prop}, at_ H p d F → (∀ a, F a → H' a = H a) → at_ H' p d F
  there : ∀ {H : Hp} {p : Addr} {d : Desk} {F : Addr → Prop} {a : Addr}, at_ H p d F → F a → H a ≠ none
def lz (l : List Int) : HO := .lst (l.map V.int)
def outD (R : Rep) (H : Hp) (p : Addr) (F : Addr → Prop) (d : Desk) (l : List Int) (Q : VK) : Prop := ∀ (r : Addr) (H' : Hp) (F' : Addr → Prop), R.at_ H' p d F' → (∀ a u, H a = some u → ¬ F a → H' a = some u) → (∀ a, F' a → F a ∨ H a = none) → H r = none → ¬ F' r → H' r = some (lz l) → Q (.ref r) H'
abbrev nextD (d : Desk) (c : Call) : Desk := (Km460.act d c).1
abbrev saysD (d : Desk) (c : Call) : List Int := Km460Neutral.told (Km460.act d c).2
def spA0 (R : Rep) (c : Call) : Sp := fun vs H Q _ => ∃ (p : Addr) (d : Desk) (F : Addr → Prop), vs = [.ref p] ∧ R.at_ H p d F ∧ outD R H p F (nextD d c) (saysD d c) Q
def spA1 (R : Rep) (c : Nat → Call) : Sp := fun vs H Q _ => ∃ (p : Addr) (d : Desk) (F : Addr → Prop) (x : Nat), vs = [.ref p, .int (x : Int)] ∧ R.at_ H p d F ∧ outD R H p F (nextD d (c x)) (saysD d (c x)) Q
def spA2 (R : Rep) (c : Nat → Nat → Call) : Sp := fun vs H Q _ => ∃ (p : Addr) (d : Desk) (F : Addr → Prop) (x y : Nat), vs = [.ref p, .int (x : Int), .int (y : Int)] ∧ R.at_ H p d F ∧ outD R H p F (nextD d (c x y)) (saysD d (c x y)) Q
def spA3 (R : Rep) (c : Nat → List Nat → Call) : Sp := fun vs H Q _ => ∃ (p lv : Addr) (d : Desk) (F : Addr → Prop) (x : Nat) (l : List Nat), vs = [.ref p, .int (x : Int), .ref lv] ∧ R.at_ H p d F ∧ H lv = some (li l) ∧ l.length = 6 ∧ outD R H p F (nextD d (c x l)) (saysD d (c x l)) Q
def spIn (R : Rep) (C : Addr) : Sp := fun vs H Q _ => ∃ (x dx : Addr), vs = [.ref x] ∧ H x = some (.ins C dx []) ∧ H dx = some (.own x) ∧ ∀ (H' : Hp) (F : Addr → Prop), R.at_ H' x Km460.fresh F → (∀ a u, H a = some u → a ≠ x → H' a = some u) → (∀ a, F a → a = x ∨ H a = none) → Q .non H'
theorem Rep.same {R : Rep} {H H' : Hp} {p : Addr} {d : Desk} {F : Addr → Prop} (h : R.at_ H p d F) (S : Same H H') : R.at_ H' p d F := by
  refine R.frame h (fun a z => ?_)
  cases e : H a with
  | none => exact absurd e (R.there h z)
  | some u => exact S a u e
theorem out_read {R : Rep} {H : Hp} {p : Addr} {F : Addr → Prop} {d : Desk} {l : List Int} {Q : VK} (hA : R.at_ H p d F) (k : outD R H p F d l Q) : outZ H l Q := fun r H' S hr hr' =>
  k r H' F (Rep.same hA S) (fun a u q _ => S a u q) (fun a z => .inl z) hr (fun z => R.there hA z hr) hr'
/-- the valley's object -/
def repV (C : Addr) : Rep where
  at_ := VAt C
  frame := by
    rintro H H' p d F ⟨dx, lu, ll, lc, le, lt, E, L, X, hF⟩ k
    exact ⟨dx, lu, ll, lc, le, lt, E, L, X.frame fun a ha => k a ((hF a).mpr ha), hF⟩
  there := by
    rintro H p d F a ⟨dx, lu, ll, lc, le, lt, E, L, X, hF⟩ h
    exact X.there a ((hF a).mp h)
theorem out_new {C : Addr} {H H1 : Hp} {p r : Addr} {F F1 : Addr → Prop} {d : Desk} {l : List Int} {l' : List V} {Q : VK} (k : outD (repV C) H p F d l Q) (V1 : VAt C H1 p d F1) (Fr1 : Fr H H1 F F1) (hr : H1 r = none) (e : l' = l.map V.int) : Q (.ref r) (upd H1 r (.lst l')) := by
  subst e
  have nr : ¬ F1 r := fun z => (repV C).there V1 z hr
  refine k r _ F1 ((repV C).frame (H := H1) V1 fun a ha => upd_ne fun z => nr (z ▸ ha)) (fun a u h n => ?_) Fr1.ow (Fr1.dom r hr) nr upd_same
  have h1 := Fr1.keep a u h n
  rw [upd_ne (ne_of_none h1 hr)]
  exact h1
theorem VAt.rat {C : Addr} {H : Hp} {p : Addr} {d : Desk} {F : Addr → Prop} (h : VAt C H p d F) : RAt C H p d.now.valley d.now.calls := by
  obtain ⟨dx, lu, ll, lc, le, lt, E, L, X, hF⟩ := h
  exact X.rat
theorem VAt.ok {C : Addr} {H : Hp} {p : Addr} {d : Desk} {F : Addr → Prop} (h : VAt C H p d F) : VR.DeskOk d := by
  obtain ⟨dx, lu, ll, lc, le, lt, E, L, X, hF⟩ := h
  exact X.ok

/-! kept valleys as data -/
def seaD (s : Km460.Sea) : PyData := .tuple [.list ((zs (s.valley.map (·.up))).map PyData.int), .list ((zs (s.valley.map (·.long))).map PyData.int), .list ((zs (calledL s.valley s.calls)).map PyData.int)]
theorem DpAll.append {K : PySem.W.Frag} {H : Hp} : ∀ {a b : List V} {x y : List PyData}, DpAll K H a x → DpAll K H b y → DpAll K H (a ++ b) (x ++ y)
  | _, _, _, _, .nil, h => h
  | _, _, _, _, .cons h t, g => .cons h (DpAll.append t g)
theorem dp_rows {K : PySem.W.Frag} {H : Hp} : ∀ {E : List Rw} {S : List Km460.Sea}, RwsAt H E S → DpAll K H (E.map fun e => V.ref e.t).reverse (S.map seaD).reverse
  | [], [], _ => .nil
  | e :: E, s :: S, h => by
    rw [List.map_cons, List.map_cons, List.reverse_cons, List.reverse_cons]
    obtain ⟨⟨h1, h2, h3, h4⟩, h5⟩ := h
    exact DpAll.append (dp_rows h5) (.cons (.tup (SqT.of h1) (.cons (.lst (SqL.of h2) (dp_ints _)) (.cons (.lst (SqL.of h3) (dp_ints _)) (.cons (.lst (SqL.of h4) (dp_ints _)) .nil)))) .nil)
  | [], _ :: _, h => h.elim
  | _ :: _, [], h => h.elim
theorem lay_all : ∀ {ds : List PyData}, (∀ d ∈ ds, d.canLay0 = true ∧ d.depth ≤ 2) → PyData.canLayAll0 ds = true ∧ PyData.depthAll ds ≤ 2
  | [], _ => ⟨rfl, by simp [PyData.depthAll]⟩
  | d :: ds, h => by
    obtain ⟨h1, h2⟩ := lay_all (ds := ds) fun x hx => h x (List.mem_cons_of_mem _ hx)
    obtain ⟨h3, h4⟩ := h d (List.mem_cons_self ..)
    refine ⟨by simp [PyData.canLayAll0, h1, h3], ?_⟩
    simp only [PyData.depthAll]
    omega
theorem lay_ints (ns : List Int) : PyData.canLay0 (.list (ns.map PyData.int)) = true ∧ PyData.depth (.list (ns.map PyData.int)) ≤ 1 := by
  have h1 : PyData.canLayAll0 (ns.map PyData.int) = true ∧ PyData.depthAll (ns.map PyData.int) = 0 := by
    induction ns with
    | nil => exact ⟨rfl, rfl⟩
    | cons x l ih =>
      obtain ⟨i1, i2⟩ := ih
      exact ⟨by simp [PyData.canLayAll0, PyData.canLay0, i1], by simp [PyData.depthAll, PyData.depth, i2]⟩
  exact ⟨by simp [PyData.canLay0, h1.1], by simp [PyData.depth, h1.2]⟩
theorem lay_sea (s : Km460.Sea) : (seaD s).canLay0 = true ∧ (seaD s).depth ≤ 2 := by
  obtain ⟨a1, a2⟩ := lay_ints (zs (s.valley.map (·.up)))
  obtain ⟨b1, b2⟩ := lay_ints (zs (s.valley.map (·.long)))
  obtain ⟨c1, c2⟩ := lay_ints (zs (calledL s.valley s.calls))
  unfold seaD
  refine ⟨by simp only [PyData.canLay0, PyData.canLayAll0] at *; simp [a1, b1, c1], ?_⟩
  simp only [PyData.depth, PyData.depthAll] at *
  omega
theorem shaped_seas (S : List Km460.Sea) : SeqAt.shaped (.list (S.map seaD).reverse) = true := by
  obtain ⟨h1, h2⟩ := lay_all (ds := (S.map seaD).reverse) fun d hd => by
    obtain ⟨s, _, rfl⟩ := List.mem_map.mp (List.mem_reverse.mp hd)
    exact lay_sea s
  unfold SeqAt.shaped
  rw [Bool.and_eq_true]
  refine ⟨by simp only [PyData.canLay0]; exact h1, decide_eq_true ?_⟩
  simp only [PyData.depth]
  omega
theorem eqv_nil (S : List Km460.Sea) : PyData.eqv (.list (S.map seaD).reverse) (.list []) = decide (S = []) := by
  cases S with
  | nil => rfl
  | cons s S =>
    rw [List.map_cons, List.reverse_cons]
    show PyData.eqvAll _ [] = _
    cases (S.map seaD).reverse with
    | nil => rfl
    | cons x l => rfl
section
variable {P : Program} {w : World} {K : PySem.W.Frag} {mg : Str → Option Value} {base : Heap}

theorem ok_initR (T : Txt K mg) : FnOk P w K mg base CX0 2 T.init.f T.init.fd ["self"] (spIn (repV T.C) T.C) := by
  refine (ok_init T).imp fun vs H Q E h => ?_
  obtain ⟨x, dx, rfl, hx, hdx, k⟩ := h
  refine ⟨x, dx, [], rfl, hx, .inl rfl, fun H' lu ll lc le lt X k1 k2 k3 => ?_⟩
  refine k H' (fun a => a ∈ own x lu ll lc le lt ([] ++ [])) ⟨dx, lu, ll, lc, le, lt, [], [], X, fun _ => Iff.rfl⟩ k1 fun a ha => ?_
  rcases mem_own.mp ha with h | h | h | h | h | h | ⟨e, he, _⟩
  · exact .inl h
  · exact .inr (k2 a (by simp [h]))
  · exact .inr (k2 a (by simp [h]))
  · exact .inr (k2 a (by simp [h]))
  · exact .inr (k2 a (by simp [h]))
  · exact .inr (k2 a (by simp [h]))
  · simp at he

theorem scStart : FnScope ["valley"] ["valley"] (defScope s_vr_start) := ⟨rfl, rfl, rfl, by decide +kernel, rfl, by decide +kernel, by decide +kernel⟩
theorem ok_vr_start (T : Txt K mg) : FnOk P w K mg base CX0 2 T.vr_start.f T.vr_start.fd ["valley"] (spA0 (repV T.C) .start) := by
  refine T.vr_start.F.ok scStart (fun vs H Q E h => ?_) (fun cdv A outer s0 H vs Q E hr h => ?_)
  · obtain ⟨p, d, F, rfl, _⟩ := h
    rfl
  obtain ⟨p, d, F, rfl, ⟨dx, lu, ll, lc, le, lt, E, L, X, hF⟩, k⟩ := h
  refine ⟨_, (pss_cons (ps_expr (pe_meth0 (pv 0) T.cl T.start_anew.m (ok_start_anew T) hr T.start_anew.b .nil pass0)) (pss_one (ps_ret (pe_lst (pa_cons pe_int pa_nil))))), ?_⟩
  refine ⟨_, rfl, p, dx, _, rfl, X.ob, rfl, p, dx, _, rfl, X.ob, .inr ⟨_, _, _, _, _, rfl⟩, fun H1 u l c e f X1 k1 k2 k3 => ?_⟩
  have hFp : F p := (hF p).mpr (mem_own.mpr (.inl rfl))
  refine ⟨one_small, fun r hr' => out_new (F1 := fun a => a ∈ own p u l c e f ([] ++ [])) k ⟨dx, u, l, c, e, f, [], [], X1, fun _ => Iff.rfl⟩ ⟨fun a o h n => k1 a o h fun z => n (z ▸ hFp), fun a ha => ?_, k3⟩ hr' rfl⟩
  rcases mem_own.mp ha with h | h | h | h | h | h | ⟨e, he, _⟩
  · exact .inl (h ▸ hFp)
  · exact .inr (k2 a (by simp [h]))
  · exact .inr (k2 a (by simp [h]))
  · exact .inr (k2 a (by simp [h]))
  · exact .inr (k2 a (by simp [h]))
  · exact .inr (k2 a (by simp [h]))
  · simp at he

def spFit : Sp := fun vs H Q _ => ∃ n : Nat, vs = [.int (n : Int)] ∧ Q (.bl (decide (1 ≤ n ∧ n ≤ 1000))) H
theorem scFit : FnScope ["n"] ["n"] (defScope s_road_fits) := ⟨rfl, rfl, rfl, by decide +kernel, rfl, by decide +kernel, by decide +kernel⟩
theorem ok_road_fits (T : Txt K mg) : FnOk P w K mg base CX0 1 T.road_fits.f T.road_fits.fd ["n"] spFit := by
  refine T.road_fits.F.ok scFit (fun vs H Q E h => ?_) (fun cdv A outer s0 H vs Q E hr h => ?_)
  · obtain ⟨n, rfl, _⟩ := h
    rfl
  obtain ⟨n, rfl, k⟩ := h
  obtain ⟨tl, htl⟩ := T.c_LONGEST_ROAD
  refine ⟨_, (pss_one (ps_ret (pe_chain op_le op_le pe_int (pv 0) (pe_gint rfl htl)))), ?_⟩
  refine ⟨_, rfl, _, _, rfl, rfl, _, rfl, ?_⟩
  refine ite2 (fun c => ?_) (fun c => ?_)
  · have c : 1 ≤ n := by have := of_decide_eq_true c; omega
    refine ⟨_, _, rfl, rfl, ?_⟩
    have e : decide ((n : Int) ≤ 1000) = decide (1 ≤ n ∧ n ≤ 1000) := by
      rw [Bool.eq_iff_iff]
      simp only [decide_eq_true_eq]
      omega
    show Q (.bl (decide ((n : Int) ≤ 1000))) H
    rw [e]
    exact k
  · have c : ¬ 1 ≤ n := by have := of_decide_eq_false (Bool.eq_false_iff.mpr c); omega
    rw [decide_eq_false (by omega)] at k
    exact k
theorem nofit {n : Nat} (c : (!decide (1 ≤ n ∧ n ≤ 1000)) = true) : n = 0 ∨ 1000 < n := by
  have : decide (1 ≤ n ∧ n ≤ 1000) = false := by
    cases h : decide (1 ≤ n ∧ n ≤ 1000) with
    | true => rw [h] at c; simp at c
    | false => rfl
  have := of_decide_eq_false this
  omega
theorem fit {n : Nat} (c : ¬ (!decide (1 ≤ n ∧ n ≤ 1000)) = true) : 1 ≤ n ∧ n ≤ 1000 := by
  have : decide (1 ≤ n ∧ n ≤ 1000) = true := by
    cases h : decide (1 ≤ n ∧ n ≤ 1000) with
    | true => rfl
    | false => rw [h] at c; simp at c
  exact of_decide_eq_true this

theorem scVil : FnScope ["valley", "up", "far"] ["valley", "up", "far"] (defScope s_vr_village) := ⟨rfl, rfl, rfl, by decide +kernel, rfl, by decide +kernel, by decide +kernel⟩
theorem ok_vr_village (T : Txt K mg) : FnOk P w K mg base CX0 4 T.vr_village.f T.vr_village.fd ["valley", "up", "far"] (spA2 (repV T.C) .village) := by
  refine T.vr_village.F.ok scVil (fun vs H Q E h => ?_) (fun cdv A outer s0 H vs Q E hr h => ?_)
  · obtain ⟨p, d, F, x, y, rfl, _⟩ := h
    rfl
  obtain ⟨p, d, F, x, y, rfl, V0, k⟩ := h
  have V0 : VAt T.C H p d F := V0
  have R := VAt.rat V0
  have hr1 : Room 1 _ := hr.mono (by decide)
  obtain ⟨tn, htn⟩ := T.c_THERES_NONE
  obtain ⟨tf, htf⟩ := T.c_NOT_FIT
  obtain ⟨tm, htm⟩ := T.c_TOO_MANY
  obtain ⟨tv, htv⟩ := T.c_MOST_VILLAGES
  have ea : Km460.act d (.village x y) = if d.now.valley.length ≤ x then (d, Km460.only (-2)) else if y = 0 ∨ 1000 < y then (d, Km460.only (-22)) else if 14 ≤ d.now.valley.length then (d, Km460.only (-28)) else (d.become { d.now with valley := d.now.valley ++ [⟨x, y, 0⟩] }, Km460.only ((d.now.valley.length : Nat) : Int)) := rfl
  unfold nextD saysD at k
  rw [ea] at k
  refine ⟨_, (pss_cons (ps_if (pt_not (pt_val (pe_meth (pv 0) T.cl T.has.m (ok_has T) hr1 T.has.b .nil pass0 (pa_cons (pv 1) pa_nil)))) (pss_one (ps_ret (pe_lst (pa_cons (pe_gint rfl htn) pa_nil)))) pss_nil) (pss_cons (ps_if (pt_not (pt_val (pe_call (ok_road_fits T) hr1 rfl T.road_fits.m T.road_fits.F.kp T.road_fits.b .nil pass0 (pa_cons (pv 2) pa_nil)))) (pss_one (ps_ret (pe_lst (pa_cons (pe_gint rfl htf) pa_nil)))) pss_nil) (pss_cons (ps_if (pt_cmpR op_eq (pe_meth0 (pv 0) T.cl T.size.m (ok_size T) hr1 T.size.b .nil pass0) (pe_gint rfl htv) (nomark _)) (pss_one (ps_ret (pe_lst (pa_cons (pe_gint rfl htm) pa_nil)))) pss_nil) (pss_one (ps_ret (pe_lst (pa_cons (pe_meth (pv 0) T.cl T.add_village.m (ok_add_village T) hr T.add_village.b .nil pass0 (pa_cons (pv 1) (pa_cons (pv 2) pa_nil))) pa_nil))))))), ?_⟩
  obtain ⟨dx, lu, ll, lc, le, lt, g1, g2, g3, g4⟩ := R.ex5
  refine ⟨_, rfl, p, dx, _, rfl, g1, rfl, _, rfl, p, _, _, x, rfl, R, _, rfl, ?_⟩
  refine ite2 (fun c => ?_) (fun c => ?_)
  · rw [if_pos (not_lt_of c)] at k
    exact ⟨one_small, fun r hr' => out2 (out_read (R := repV T.C) V0 k) (Same.refl H) hr' rfl⟩
  have hx := lt_of c
  rw [if_neg (by omega)] at k
  refine ⟨_, rfl, y, rfl, _, rfl, ?_⟩
  refine ite2 (fun c => ?_) (fun c => ?_)
  · rw [if_pos (nofit c)] at k
    exact ⟨one_small, fun r hr' => out2 (out_read (R := repV T.C) V0 k) (Same.refl H) hr' rfl⟩
  obtain ⟨hy1, hy2⟩ := fit c
  rw [if_neg (by omega)] at k
  refine ⟨_, rfl, p, dx, _, rfl, g1, rfl, p, _, _, rfl, R, rfl, _, rfl, ?_⟩
  have few := R.wf.few
  refine ite2 (fun c => ?_) (fun c => ?_)
  · have c : d.now.valley.length = 14 := by have := of_decide_eq_true c; injection this with this; omega
    rw [if_pos (by omega)] at k
    exact ⟨one_small, fun r hr' => out2 (out_read (R := repV T.C) V0 k) (Same.refl H) hr' rfl⟩
  have c : ¬ d.now.valley.length = 14 := fun z => c (by rw [z]; exact decide_eq_true rfl)
  rw [if_neg (by omega)] at k
  refine ⟨_, rfl, p, dx, _, rfl, g1, rfl, _, rfl, _, rfl, p, d, F, x, y, rfl, V0, hx, hy1, hy2, by omega, fun H1 F1 V1 Fr1 => ?_⟩
  exact ⟨one_small, fun r hr' => out_new k V1 Fr1 hr' rfl⟩

theorem scRoad : FnScope ["valley", "v", "n"] ["valley", "v", "n"] (defScope s_vr_road) := ⟨rfl, rfl, rfl, by decide +kernel, rfl, by decide +kernel, by decide +kernel⟩
theorem ok_vr_road (T : Txt K mg) : FnOk P w K mg base CX0 4 T.vr_road.f T.vr_road.fd ["valley", "v", "n"] (spA2 (repV T.C) .long_) := by
  refine T.vr_road.F.ok scRoad (fun vs H Q E h => ?_) (fun cdv A outer s0 H vs Q E hr h => ?_)
  · obtain ⟨p, d, F, x, y, rfl, _⟩ := h
    rfl
  obtain ⟨p, d, F, x, y, rfl, V0, k⟩ := h
  have V0 : VAt T.C H p d F := V0
  have R := VAt.rat V0
  have hr1 : Room 1 _ := hr.mono (by decide)
  obtain ⟨tn, htn⟩ := T.c_THERES_NONE
  obtain ⟨tf, htf⟩ := T.c_NOT_FIT
  obtain ⟨th, hth⟩ := T.c_NOT_HERE
  have ea : Km460.act d (.long_ x y) = if d.now.valley.length ≤ x then (d, Km460.only (-2)) else if y = 0 ∨ 1000 < y then (d, Km460.only (-22)) else if x = 0 then (d, Km460.only (-33)) else (d.become { d.now with valley := d.now.valley.set x { Km457.at_ d.now.valley x with long := y } }, Km460.only ((VR.ln d.now.valley x : Nat) : Int)) := rfl
  unfold nextD saysD at k
  rw [ea] at k
  refine ⟨_, (pss_cons (ps_if (pt_not (pt_val (pe_meth (pv 0) T.cl T.has.m (ok_has T) hr1 T.has.b .nil pass0 (pa_cons (pv 1) pa_nil)))) (pss_one (ps_ret (pe_lst (pa_cons (pe_gint rfl htn) pa_nil)))) pss_nil) (pss_cons (ps_if (pt_not (pt_val (pe_call (ok_road_fits T) hr1 rfl T.road_fits.m T.road_fits.F.kp T.road_fits.b .nil pass0 (pa_cons (pv 2) pa_nil)))) (pss_one (ps_ret (pe_lst (pa_cons (pe_gint rfl htf) pa_nil)))) pss_nil) (pss_cons (ps_if (pt_cmpR op_eq (pv 1) pe_int (nomark _)) (pss_one (ps_ret (pe_lst (pa_cons (pe_gint rfl hth) pa_nil)))) pss_nil) (pss_one (ps_ret (pe_lst (pa_cons (pe_meth (pv 0) T.cl T.set_road.m (ok_set_road T) hr T.set_road.b .nil pass0 (pa_cons (pv 1) (pa_cons (pv 2) pa_nil))) pa_nil))))))), ?_⟩
  obtain ⟨dx, lu, ll, lc, le, lt, g1, g2, g3, g4⟩ := R.ex5
  refine ⟨_, rfl, p, dx, _, rfl, g1, rfl, _, rfl, p, _, _, x, rfl, R, _, rfl, ?_⟩
  refine ite2 (fun c => ?_) (fun c => ?_)
  · rw [if_pos (not_lt_of c)] at k
    exact ⟨one_small, fun r hr' => out2 (out_read (R := repV T.C) V0 k) (Same.refl H) hr' rfl⟩
  have hx := lt_of c
  rw [if_neg (by omega)] at k
  refine ⟨_, rfl, y, rfl, _, rfl, ?_⟩
  refine ite2 (fun c => ?_) (fun c => ?_)
  · rw [if_pos (nofit c)] at k
    exact ⟨one_small, fun r hr' => out2 (out_read (R := repV T.C) V0 k) (Same.refl H) hr' rfl⟩
  obtain ⟨hy1, hy2⟩ := fit c
  rw [if_neg (by omega)] at k
  refine ⟨_, rfl, rfl, _, rfl, ?_⟩
  refine ite2 (fun c => ?_) (fun c => ?_)
  · have c : x = 0 := by have := of_decide_eq_true c; injection this with this; omega
    rw [if_pos c] at k
    exact ⟨one_small, fun r hr' => out2 (out_read (R := repV T.C) V0 k) (Same.refl H) hr' rfl⟩
  have c : ¬ x = 0 := fun z => c (by rw [z]; exact decide_eq_true rfl)
  rw [if_neg c] at k
  refine ⟨_, rfl, p, dx, _, rfl, g1, rfl, _, rfl, _, rfl, p, d, F, x, y, rfl, V0, hx, c, hy1, hy2, fun H1 F1 V1 Fr1 => ?_⟩
  exact ⟨one_small, fun r hr' => out_new k V1 Fr1 hr' rfl⟩

theorem scCall : FnScope ["valley", "v", "o"] ["valley", "v", "o"] (defScope s_vr_call) := ⟨rfl, rfl, rfl, by decide +kernel, rfl, by decide +kernel, by decide +kernel⟩
theorem ok_vr_call (T : Txt K mg) : FnOk P w K mg base CX0 4 T.vr_call.f T.vr_call.fd ["valley", "v", "o"] (spA2 (repV T.C) .call_) := by
  refine T.vr_call.F.ok scCall (fun vs H Q E h => ?_) (fun cdv A outer s0 H vs Q E hr h => ?_)
  · obtain ⟨p, d, F, x, y, rfl, _⟩ := h
    rfl
  obtain ⟨p, d, F, x, o, rfl, V0, k⟩ := h
  have V0 : VAt T.C H p d F := V0
  have R := VAt.rat V0
  have D := VAt.ok V0
  have hr1 : Room 1 _ := hr.mono (by decide)
  obtain ⟨tn, htn⟩ := T.c_THERES_NONE
  obtain ⟨tf, htf⟩ := T.c_NOT_FIT
  obtain ⟨ts, hts⟩ := T.c_IT_IS_SO
  have ea : Km460.act d (.call_ x o) = if d.now.valley.length ≤ x then (d, Km460.only (-2)) else if 1 < o then (d, Km460.only (-22)) else if d.now.calls.contains x = (o == 1) then (d, Km460.only (-17)) else (d.become { d.now with calls := if o = 1 then d.now.calls ++ [x] else d.now.calls.filter fun p => p != x }, Km460.only (((if o = 1 then d.now.calls ++ [x] else d.now.calls.filter fun p => p != x).length : Nat) : Int)) := rfl
  unfold nextD saysD at k
  rw [ea] at k
  refine ⟨_, (pss_cons (ps_if (pt_not (pt_val (pe_meth (pv 0) T.cl T.has.m (ok_has T) hr1 T.has.b .nil pass0 (pa_cons (pv 1) pa_nil)))) (pss_one (ps_ret (pe_lst (pa_cons (pe_gint rfl htn) pa_nil)))) pss_nil) (pss_cons (ps_if (pt_cmpR op_gt (pv 2) pe_int (nomark _)) (pss_one (ps_ret (pe_lst (pa_cons (pe_gint rfl htf) pa_nil)))) pss_nil) (pss_cons (ps_if (pt_cmpR op_eq (pe_ix ix_list (pe_fld (pv 0) rfl) (pv 1) (fun _ _ => rfl)) (pv 2) (nomark _)) (pss_one (ps_ret (pe_lst (pa_cons (pe_gint rfl hts) pa_nil)))) pss_nil) (pss_one (ps_ret (pe_lst (pa_cons (pe_meth (pv 0) T.cl T.set_call.m (ok_set_call T) hr T.set_call.b .nil pass0 (pa_cons (pv 1) (pa_cons (pv 2) pa_nil))) pa_nil))))))), ?_⟩
  obtain ⟨dx, lu, ll, lc, le, lt, g1, g2, g3, g4⟩ := R.ex5
  refine ⟨_, rfl, p, dx, _, rfl, g1, rfl, _, rfl, p, _, _, x, rfl, R, _, rfl, ?_⟩
  refine ite2 (fun c => ?_) (fun c => ?_)
  · rw [if_pos (not_lt_of c)] at k
    exact ⟨one_small, fun r hr' => out2 (out_read (R := repV T.C) V0 k) (Same.refl H) hr' rfl⟩
  have hx := lt_of c
  rw [if_neg (by omega)] at k
  refine ⟨_, rfl, _, _, rfl, rfl, _, rfl, ?_⟩
  refine ite2 (fun c => ?_) (fun c => ?_)
  · have c : 1 < o := by have := of_decide_eq_true c; omega
    rw [if_pos c] at k
    exact ⟨one_small, fun r hr' => out2 (out_read (R := repV T.C) V0 k) (Same.refl H) hr' rfl⟩
  have c : ¬ 1 < o := by have := of_decide_eq_false (Bool.eq_false_iff.mpr c); omega
  rw [if_neg c] at k
  refine ⟨_, rfl, p, T.C, dx, _, _, rfl, g1, T.cl, T.n_called, rfl, _, rfl, lc, _, _, _, rfl, rfl, SqL.of g4, vz_at (called_at hx), _, rfl, rfl, _, rfl, ?_⟩
  have key : (d.now.calls.contains x = (o == 1)) ↔ (if x ∈ d.now.calls then 1 else 0) = o := by
    rcases (show o = 0 ∨ o = 1 by omega) with h | h
    · subst h
      by_cases m : x ∈ d.now.calls <;> simp [m]
    · subst h
      by_cases m : x ∈ d.now.calls <;> simp [m]
  refine ite2 (fun c => ?_) (fun c => ?_)
  · have c : (if x ∈ d.now.calls then 1 else 0) = o := by have := of_decide_eq_true c; injection this with this; omega
    rw [if_pos (key.mpr c)] at k
    exact ⟨one_small, fun r hr' => out2 (out_read (R := repV T.C) V0 k) (Same.refl H) hr' rfl⟩
  have c : ¬ (if x ∈ d.now.calls then 1 else 0) = o := fun z => c (by rw [z]; exact decide_eq_true rfl)
  rw [if_neg (fun z => c (key.mp z))] at k
  rcases (show o = 0 ∨ o = 1 by omega) with h | h
  · subst h
    rw [if_neg (by decide)] at k
    refine ⟨_, rfl, p, dx, _, rfl, g1, rfl, _, rfl, _, rfl, p, d, F, x, 0, _, rfl, V0, hx, called_less _ _ _, VR.less_ok D.now _, fun H1 F1 V1 Fr1 => ?_⟩
    exact ⟨one_small, fun r hr' => out_new k V1 Fr1 hr' rfl⟩
  · subst h
    rw [if_pos rfl] at k
    have hm : x ∉ d.now.calls := fun z => c (by rw [if_pos z])
    refine ⟨_, rfl, p, dx, _, rfl, g1, rfl, _, rfl, _, rfl, p, d, F, x, 1, _, rfl, V0, hx, called_more _ _ _, VR.more_ok D.now hx hm, fun H1 F1 V1 Fr1 => ?_⟩
    exact ⟨one_small, fun r hr' => out_new k V1 Fr1 hr' rfl⟩

theorem scClear : FnScope ["valley"] ["valley"] (defScope s_vr_clear) := ⟨rfl, rfl, rfl, by decide +kernel, rfl, by decide +kernel, by decide +kernel⟩
theorem ok_vr_clear (T : Txt K mg) : FnOk P w K mg base CX0 4 T.vr_clear.f T.vr_clear.fd ["valley"] (spA0 (repV T.C) .clear) := by
  refine T.vr_clear.F.ok scClear (fun vs H Q E h => ?_) (fun cdv A outer s0 H vs Q E hr h => ?_)
  · obtain ⟨p, d, F, rfl, _⟩ := h
    rfl
  obtain ⟨p, d, F, rfl, V0, k⟩ := h
  have V0 : VAt T.C H p d F := V0
  have R := VAt.rat V0
  have D := VAt.ok V0
  obtain ⟨ts, hts⟩ := T.c_IT_IS_SO
  have ea : Km460.act d .clear = if d.now.calls = [] then (d, Km460.only (-17)) else (d.become { d.now with calls := [] }, Km460.only ((d.now.calls.length : Nat) : Int)) := rfl
  unfold nextD saysD at k
  rw [ea] at k
  refine ⟨_, (pss_cons (ps_if (pt_cmpR op_eq (pe_callB (call_sum rfl) rfl T.sum PyProof.Rows.boot_sum (pa_cons (pe_fld (pv 0) rfl) pa_nil)) pe_int (nomark _)) (pss_one (ps_ret (pe_lst (pa_cons (pe_gint rfl hts) pa_nil)))) pss_nil) (pss_one (ps_ret (pe_lst (pa_cons (pe_meth0 (pv 0) T.cl T.clear_calls.m (ok_clear_calls T) hr T.clear_calls.b .nil pass0) pa_nil))))), ?_⟩
  obtain ⟨dx, lu, ll, lc, le, lt, g1, g2, g3, g4⟩ := R.ex5
  refine ⟨_, rfl, p, T.C, dx, _, _, rfl, g1, T.cl, T.n_called, rfl, lc, _, rfl, SqL.of g4, rfl, _, rfl, ?_⟩
  rw [zs_sum, calledL_sum D.now.nd D.now.lt]
  refine ite2 (fun c => ?_) (fun c => ?_)
  · have c : d.now.calls = [] := List.length_eq_zero_iff.mp (by have := of_decide_eq_true c; injection this with this; omega)
    rw [if_pos c] at k
    exact ⟨one_small, fun r hr' => out2 (out_read (R := repV T.C) V0 k) (Same.refl H) hr' rfl⟩
  have c : ¬ d.now.calls = [] := fun z => c (by rw [z]; exact decide_eq_true rfl)
  rw [if_neg c] at k
  refine ⟨_, rfl, p, dx, _, rfl, g1, rfl, p, d, F, rfl, V0, fun H1 F1 V1 Fr1 => ?_⟩
  exact ⟨one_small, fun r hr' => out_new k V1 Fr1 hr' rfl⟩

theorem scBack : FnScope ["valley"] ["valley"] (defScope s_vr_back) := ⟨rfl, rfl, rfl, by decide +kernel, rfl, by decide +kernel, by decide +kernel⟩
theorem ok_vr_back (T : Txt K mg) : FnOk P w K mg base CX0 3 T.vr_back.f T.vr_back.fd ["valley"] (spA0 (repV T.C) .back) := by
  refine T.vr_back.F.ok scBack (fun vs H Q E h => ?_) (fun cdv A outer s0 H vs Q E hr h => ?_)
  · obtain ⟨p, d, F, rfl, _⟩ := h
    rfl
  obtain ⟨p, d, F, rfl, V0, k⟩ := h
  have V0 : VAt T.C H p d F := V0
  obtain ⟨dx, lu, ll, lc, le, lt, E, L, X, hF⟩ := id V0
  obtain ⟨tn, htn⟩ := T.c_THERES_NONE
  unfold nextD saysD Km460.act at k
  refine ⟨_, (pss_cons (ps_if (pt_cmpR (op_eqD hr.units) (pe_fld (pv 0) rfl) (pe_lst pa_nil) (nomark _)) (pss_one (ps_ret (pe_lst (pa_cons (pe_gint rfl htn) pa_nil)))) pss_nil) (pss_one (ps_ret (pe_lst (pa_cons (pe_meth0 (pv 0) T.cl T.take_back.m (ok_take_back T) hr T.take_back.b .nil pass0) pa_nil))))), ?_⟩
  refine ⟨_, rfl, p, T.C, dx, _, _, rfl, X.ob, T.cl, T.n_earlier, rfl, one_small, fun l hl => ?_⟩
  have S1 : Same H (upd H l (.lst [])) := same_new hl _
  have V1 : VAt T.C (upd H l (.lst [])) p d F := Rep.same (R := repV T.C) V0 S1
  have X1 : VX T.C (upd H l (.lst [])) p d dx lu ll lc le lt E L := X.frame fun a ha => upd_ne fun z => X.there a ha (z ▸ hl)
  refine ⟨_, _, .lst (SqL.of X1.e) (dp_rows X1.es), .lst (SqL.of upd_same) .nil, shaped_seas _, rfl, _, rfl, ?_⟩
  rw [eqv_nil]
  refine ite2 (fun c => ?_) (fun c => ?_)
  · have c : d.past = [] := of_decide_eq_true c
    rw [c] at k
    exact ⟨one_small, fun r hr' => out2 (out_read (R := repV T.C) V0 k) S1 hr' rfl⟩
  have c : d.past ≠ [] := fun z => c (decide_eq_true z)
  cases q : d.past with
  | nil => exact absurd q c
  | cons s r =>
    rw [q] at k
    refine ⟨_, rfl, p, dx, _, rfl, X1.ob, rfl, p, d, F, s, r, rfl, V1, q, fun H2 F2 V2 Fr2 => ?_⟩
    exact ⟨one_small, fun r hr' => out_new k V2 ((Fr.same S1).trans Fr2) hr' rfl⟩

theorem scAgain : FnScope ["valley"] ["valley"] (defScope s_vr_again) := ⟨rfl, rfl, rfl, by decide +kernel, rfl, by decide +kernel, by decide +kernel⟩
theorem ok_vr_again (T : Txt K mg) : FnOk P w K mg base CX0 3 T.vr_again.f T.vr_again.fd ["valley"] (spA0 (repV T.C) .again) := by
  refine T.vr_again.F.ok scAgain (fun vs H Q E h => ?_) (fun cdv A outer s0 H vs Q E hr h => ?_)
  · obtain ⟨p, d, F, rfl, _⟩ := h
    rfl
  obtain ⟨p, d, F, rfl, V0, k⟩ := h
  have V0 : VAt T.C H p d F := V0
  obtain ⟨dx, lu, ll, lc, le, lt, E, L, X, hF⟩ := id V0
  obtain ⟨tn, htn⟩ := T.c_THERES_NONE
  unfold nextD saysD Km460.act at k
  refine ⟨_, (pss_cons (ps_if (pt_cmpR (op_eqD hr.units) (pe_fld (pv 0) rfl) (pe_lst pa_nil) (nomark _)) (pss_one (ps_ret (pe_lst (pa_cons (pe_gint rfl htn) pa_nil)))) pss_nil) (pss_one (ps_ret (pe_lst (pa_cons (pe_meth0 (pv 0) T.cl T.do_again.m (ok_do_again T) hr T.do_again.b .nil pass0) pa_nil))))), ?_⟩
  refine ⟨_, rfl, p, T.C, dx, _, _, rfl, X.ob, T.cl, T.n_later, rfl, one_small, fun l hl => ?_⟩
  have S1 : Same H (upd H l (.lst [])) := same_new hl _
  have V1 : VAt T.C (upd H l (.lst [])) p d F := Rep.same (R := repV T.C) V0 S1
  have X1 : VX T.C (upd H l (.lst [])) p d dx lu ll lc le lt E L := X.frame fun a ha => upd_ne fun z => X.there a ha (z ▸ hl)
  refine ⟨_, _, .lst (SqL.of X1.f) (dp_rows X1.fs), .lst (SqL.of upd_same) .nil, shaped_seas _, rfl, _, rfl, ?_⟩
  rw [eqv_nil]
  refine ite2 (fun c => ?_) (fun c => ?_)
  · have c : d.future = [] := of_decide_eq_true c
    rw [c] at k
    exact ⟨one_small, fun r hr' => out2 (out_read (R := repV T.C) V0 k) S1 hr' rfl⟩
  have c : d.future ≠ [] := fun z => c (decide_eq_true z)
  have et : (d.now :: d.past).take Km460.PAST = d.now :: d.past := VR.again_take X.ok c
  cases q : d.future with
  | nil => exact absurd q c
  | cons s r =>
    rw [q] at k
    have k : outD (repV T.C) H p F ⟨s, (d.now :: d.past).take Km460.PAST, r⟩ [((r.length : Nat) : Int)] Q := k
    rw [et] at k
    refine ⟨_, rfl, p, dx, _, rfl, X1.ob, rfl, p, d, F, s, r, rfl, V1, q, fun H2 F2 V2 Fr2 => ?_⟩
    exact ⟨one_small, fun r hr' => out_new k V2 ((Fr.same S1).trans Fr2) hr' rfl⟩

theorem scState : FnScope ["valley"] ["valley"] (defScope s_vr_state) := ⟨rfl, rfl, rfl, by decide +kernel, rfl, by decide +kernel, by decide +kernel⟩
theorem ok_vr_state (T : Txt K mg) : FnOk P w K mg base CX0 2 T.vr_state.f T.vr_state.fd ["valley"] (spA0 (repV T.C) .state) := by
  refine T.vr_state.F.ok scState (fun vs H Q E h => ?_) (fun cdv A outer s0 H vs Q E hr h => ?_)
  · obtain ⟨p, d, F, rfl, _⟩ := h
    rfl
  obtain ⟨p, d, F, rfl, V0, k⟩ := h
  have V0 : VAt T.C H p d F := V0
  obtain ⟨dx, lu, ll, lc, le, lt, E, L, X, hF⟩ := id V0
  refine ⟨_, (pss_one (ps_ret (pe_lst (pa_cons (pe_meth0 (pv 0) T.cl T.size.m (ok_size T) hr T.size.b .nil pass0) (pa_cons (pe_callB call_len_seq rfl T.len PySem.boot_len (pa_cons (pe_fld (pv 0) rfl) pa_nil)) (pa_cons (pe_callB call_len_seq rfl T.len PySem.boot_len (pa_cons (pe_fld (pv 0) rfl) pa_nil)) pa_nil)))))), ?_⟩
  refine ⟨_, rfl, p, dx, _, rfl, X.ob, rfl, p, _, _, rfl, X.rat, ?_⟩
  refine ⟨_, rfl, p, T.C, dx, _, _, rfl, X.ob, T.cl, T.n_earlier, rfl, le, _, rfl, .inl (SqL.of X.e), ?_⟩
  refine ⟨_, rfl, p, T.C, dx, _, _, rfl, X.ob, T.cl, T.n_later, rfl, lt, _, rfl, .inl (SqL.of X.f), ?_⟩
  refine ⟨one_small, fun r hr' => out2 (out_read (R := repV T.C) V0 k) (Same.refl H) hr' ?_⟩
  rw [rts_len, rts_len, X.es.length, X.fs.length]
  rfl
end
end VA
end
noncomputable section
set_option Elab.async false
set_option linter.all false
set_option maxRecDepth 100000
namespace VA
open PySem PySem.Spec PyProof.Rows L2 VS VL VP
open Km460 (Call Desk)
section
variable {P : Program} {w : World} {K : PySem.W.Frag} {mg : Str → Option Value} {base : Heap}
structure FnA (P : Program) (w : World) (K : PySem.W.Frag) (mg : Str → Option Value) (base : Heap) (k : Nat) (f : Addr) (sp : Sp) where
  fd : FuncData
  ps : List Str
  ok : FnOk P w K mg base CX0 k f fd ps sp
  kp : PySem.W.keepIn K (.ref f) = true
  b : Binds K fd ps []
structure Tab (P : Program) (w : World) (K : PySem.W.Frag) (mg : Str → Option Value) (base : Heap) (R : Rep) where
  a0 : Addr
  a1 : Addr
  a2 : Addr
  a3 : Addr
  kv0 : List (Int × Addr)
  kv1 : List (Int × Addr)
  kv2 : List (Int × Addr)
  kv3 : List (Int × Addr)
  D0 : ModD K a0 kv0
  D1 : ModD K a1 kv1
  D2 : ModD K a2 kv2
  D3 : ModD K a3 kv3
  m0 : mg "WITH_NO_NUMBER" = some (.ref a0)
  m1 : mg "WITH_ONE_NUMBER" = some (.ref a1)
  m2 : mg "WITH_TWO_NUMBERS" = some (.ref a2)
  m3 : mg "WITH_A_NUMBER_AND_A_ROW" = some (.ref a3)
  h0 : ∀ k c, VD.zeroC k = some c → ∃ f, valI kv0 (k : Int) = some f ∧ Nonempty (FnA P w K mg base 24 f (spA0 R c))
  h1 : ∀ k c, VD.oneC k = some c → valI kv0 (k : Int) = none ∧ ∃ f, valI kv1 (k : Int) = some f ∧ Nonempty (FnA P w K mg base 24 f (spA1 R c))
  h2 : ∀ k c, VD.twoC k = some c → valI kv0 (k : Int) = none ∧ valI kv1 (k : Int) = none ∧ ∃ f, valI kv2 (k : Int) = some f ∧ Nonempty (FnA P w K mg base 24 f (spA2 R c))
  h3 : valI kv0 18 = none ∧ valI kv1 18 = none ∧ valI kv2 18 = none ∧ ∃ f, valI kv3 18 = some f ∧ Nonempty (FnA P w K mg base 24 f (spA3 R .order))
  C : Addr
  cl : Cls K C
  fi : Addr
  mkd : Mk K C fi
  init : FnA P w K mg base 20 fi (spIn R C)
  mC : mg "Valley" = some (.ref C)
  an : Df K mg "answers" s_answers ["calls"]
  len : mg "len" = none
theorem scAn : FnScope ["calls", "valley", "given", "at", "number", "answer", "behind"] ["calls"] (defScope s_answers) := ⟨rfl, rfl, rfl, by decide +kernel, rfl, by decide +kernel, by decide +kernel⟩
def spAn (K : PySem.W.Frag) : Sp := fun vs H Q _ => ∃ (cl : Addr) (nl : List Nat) (cs : List Call), vs = [.ref cl] ∧ SqL K H cl (vz nl) ∧ VD.Dec nl cs ∧ (PyFlat.told (VD.playD Km460.fresh cs)).length ≤ 10000000 ∧ ∀ (r : Addr) (H' : Hp), Same H H' → H r = none → H' r = some (lz (PyFlat.told (VD.playD Km460.fresh cs))) → Q (.ref r) H'
def LI (R : Rep) (H : Hp) (cl p g : Addr) (nl : List Nat) (tot : List Int) : Nat → L2.St → Hp → Prop := fun m σ H' => ∃ (kk : Nat) (d : Desk) (F : Addr → Prop) (done : List Int) (cs : List Call) (s4 s5 s6 : Option V), m = nl.length - kk ∧ kk ≤ nl.length ∧ σ = [some (.ref cl), some (.ref p), some (.ref g), some (.int (kk : Int)), s4, s5, s6] ∧ VD.Dec (nl.drop kk) cs ∧
  R.at_ H' p d F ∧ H' g = some (lz done) ∧ ¬ F g ∧ Same H H' ∧ (∀ a, F a → H a = none) ∧ done ++ PyFlat.told (VD.playD d cs) = tot
theorem told_cons (x : List Int) (l : List (List Int)) : PyFlat.told (x :: l) = (x.length : Int) :: x ++ PyFlat.told l := by unfold PyFlat.told; rw [List.flatMap_cons]
/-- behind a call: its answer is told -/
theorem li_step {R : Rep} {H H' H1 : Hp} {cl p g r : Addr} {nl : List Nat} {tot done : List Int} {kk n : Nat} {d : Desk} {F F1 : Addr → Prop} {c : Call} {cs : List Call} {s4 s6 : Option V} (hn : kk + n ≤ nl.length) (hD : VD.Dec (nl.drop (kk + n)) cs)
    (hA : R.at_ H' p d F) (hg : H' g = some (lz done)) (hFg : ¬ F g) (S : Same H H') (hF : ∀ a, F a → H a = none) (he : done ++ PyFlat.told (VD.playD d (c :: cs)) = tot) (hg0 : H g = none)
    (A1 : R.at_ H1 p (nextD d c) F1) (k1 : ∀ a u, H' a = some u → ¬ F a → H1 a = some u) (o1 : ∀ a, F1 a → F a ∨ H' a = none) (r0 : H' r = none) (r1 : ¬ F1 r) (r2 : H1 r = some (lz (saysD d c))) :
    H1 g = some (lz done) ∧ r ≠ g ∧ LI R H cl p g nl tot (nl.length - (kk + n)) [some (.ref cl), some (.ref p), some (.ref g), some (.int ((kk + n : Nat) : Int)), s4, some (.ref r), s6] (upd (upd H1 g (lz (done ++ [((saysD d c).length : Int)]))) g (lz ((done ++ [((saysD d c).length : Int)]) ++ saysD d c))) := by
  have g1 : H1 g = some (lz done) := k1 g _ hg hFg
  have hF1g : ¬ F1 g := fun z => by
    rcases o1 g z with q | q
    · exact hFg q
    · rw [hg] at q; cases q
  have hrg : r ≠ g := fun z => by rw [z, hg] at r0; cases r0
  have S1 : Same H H1 := fun a u q => k1 a u (S a u q) (fun z => by rw [hF a z] at q; cases q)
  refine ⟨g1, hrg, kk + n, _, F1, _, cs, s4, _, s6, rfl, hn, rfl, hD, R.frame A1 (fun a z => ?_), upd_same, hF1g, keepNew (keepNew S1 hg0 _) hg0 _, fun a z => ?_, ?_⟩
  · have : a ≠ g := fun q => hF1g (q ▸ z)
    rw [upd_ne this, upd_ne this]
  · rcases o1 a z with q | q
    · exact hF a q
    · exact S.free q
  · rw [← he]
    show _ = done ++ PyFlat.told (saysD d c :: VD.playD (nextD d c) cs)
    rw [told_cons]
    simp
theorem drop_at {nl : List Nat} {k x : Nat} {t : List Nat} (h : nl.drop k = x :: t) : nl[k]? = some x ∧ nl.drop (k + 1) = t := by
  refine ⟨?_, ?_⟩
  · have := List.getElem?_drop (xs := nl) (i := k) (j := 0)
    rw [h] at this
    simpa using this.symm
  · rw [← List.drop_drop, h]
    rfl
theorem lt_at {nl : List Nat} {k x : Nat} (h : nl[k]? = some x) : k + 1 ≤ nl.length := by
  obtain ⟨h, _⟩ := List.getElem?_eq_some_iff.mp h
  exact h
theorem told_len {done tot : List Int} {d : Desk} {c : Call} {cs : List Call} {n : Nat} (he : done ++ PyFlat.told (VD.playD d (c :: cs)) = tot) (h : tot.length ≤ n) : done.length + 1 + (saysD d c).length ≤ n := by
  rw [← he] at h
  have : VD.playD d (c :: cs) = saysD d c :: VD.playD (nextD d c) cs := rfl
  rw [this, told_cons] at h
  simp only [List.length_append, List.length_cons] at h
  omega
theorem lz_app (l m : List Int) : HO.lst (l.map V.int ++ m.map V.int) = lz (l ++ m) := by unfold lz; rw [List.map_append]
theorem lz_snoc (l : List Int) (z : Int) : HO.lst (l.map V.int ++ [V.int z]) = lz (l ++ [z]) := by unfold lz; rw [List.map_append]; rfl
theorem iteT' {b : Bool} {p q : Prop} (h : b = true) (x : p) : if b = true then p else q := by rw [if_pos h]; exact x
theorem iteF' {b : Bool} {p q : Prop} (h : b = false) (x : q) : if b = true then p else q := by rw [if_neg (by rw [h]; decide)]; exact x
theorem cut_mid {nl : List Nat} {i j : Nat} (h : i ≤ j) (hj : j ≤ nl.length) : cutV (vz nl) (some ((i : Nat) : Int)) (some ((j : Nat) : Int)) = vz ((nl.drop i).take (j - i)) := by
  unfold cutV
  rw [HT.sIx_nat, HT.sIx_nat, vz_length, Nat.min_eq_left hj, Nat.min_eq_left (by omega)]
  unfold vz zs
  rw [← List.map_drop, ← List.map_drop, ← List.map_take, ← List.map_take]
theorem sl16 {n : Nat} (h : n ≤ 10000000) : n ≤ sizeLine := by rw [sizeLine_eq]; omega
theorem sl16L {n : Nat} (h : n ≤ 10000000) : n < sizeLine := by rw [sizeLine_eq]; omega
theorem ok_answers {R : Rep} (T : Tab P w K mg base R) : FnOk P w K mg base CX0 26 T.an.f T.an.fd ["calls"] (spAn K) := by
  refine T.an.F.ok scAn (fun vs H Q E h => ?_) (fun cdv A outer s0 H vs Q E hr h => ?_)
  · obtain ⟨cl, nl, cs, rfl, _⟩ := h
    rfl
  obtain ⟨cl, nl, cs, rfl, hcl, hD, hlen, k⟩ := h
  have hr24 : Room 24 _ := hr.mono (by decide)
  have hr21 : Room 21 _ := hr.mono (by decide)
  refine ⟨_, pss_cons (ps_set (i := 1) scAn.nd rfl (Or.inl rfl) (pe_make0 T.mkd T.init.ok hr21 rfl T.mC T.init.b .nil pass0))
    (pss_cons (ps_set (i := 2) scAn.nd rfl (Or.inl rfl) (pe_lst pa_nil))
    (pss_cons (ps_set (i := 3) scAn.nd rfl (Or.inl rfl) pe_int)
    (pss_cons (ps_while PassesOwn.never (pt_cmpR op_lt (pv 3) (pe_callB call_len_seq (by rfl) T.len PySem.boot_len (pa_cons (pv 0) pa_nil)) (nomark _))
      (pss_cons (ps_set (i := 4) scAn.nd rfl (Or.inl rfl) (pe_ix ix_list (pv 0) (pv 3) (fun _ _ => rfl)))
      (pss_cons (ps_if (pt_cmp (pc_min T.D0 rfl T.m0 (pv 4)))
        (pss_cons (ps_set (i := 5) scAn.nd rfl (Or.inl rfl) (pe_callV (pe_mget T.D0 rfl T.m0 (pv 4) (fun _ _ => rfl)) (pa_cons (pv 1) pa_nil)))
          (pss_one (ps_set (i := 3) scAn.nd rfl (Or.inl rfl) (pe_op op_add (pv 3) pe_int))))
        (pss_one (ps_if (pt_cmp (pc_min T.D1 rfl T.m1 (pv 4)))
          (pss_cons (ps_set (i := 5) scAn.nd rfl (Or.inl rfl) (pe_callV (pe_mget T.D1 rfl T.m1 (pv 4) (fun _ _ => rfl)) (pa_cons (pv 1) (pa_cons (pe_ix ix_list (pv 0) (pe_op op_add (pv 3) pe_int) (fun _ _ => rfl)) pa_nil))))
            (pss_one (ps_set (i := 3) scAn.nd rfl (Or.inl rfl) (pe_op op_add (pv 3) pe_int))))
          (pss_one (ps_if (pt_cmp (pc_min T.D2 rfl T.m2 (pv 4)))
            (pss_cons (ps_set (i := 5) scAn.nd rfl (Or.inl rfl) (pe_callV (pe_mget T.D2 rfl T.m2 (pv 4) (fun _ _ => rfl)) (pa_cons (pv 1) (pa_cons (pe_ix ix_list (pv 0) (pe_op op_add (pv 3) pe_int) (fun _ _ => rfl)) (pa_cons (pe_ix ix_list (pv 0) (pe_op op_add (pv 3) pe_int) (fun _ _ => rfl)) pa_nil)))))
              (pss_one (ps_set (i := 3) scAn.nd rfl (Or.inl rfl) (pe_op op_add (pv 3) pe_int))))
            (pss_cons (ps_set (i := 6) scAn.nd rfl (Or.inl rfl) (pe_op op_add (pe_op op_add (pv 3) pe_int) (pe_ix ix_list (pv 0) (pe_op op_add (pv 3) pe_int) (fun _ _ => rfl))))
              (pss_cons (ps_set (i := 5) scAn.nd rfl (Or.inl rfl) (pe_callV (pe_mget T.D3 rfl T.m3 (pv 4) (fun _ _ => rfl)) (pa_cons (pv 1) (pa_cons (pe_ix ix_list (pv 0) (pe_op op_add (pv 3) pe_int) (fun _ _ => rfl)) (pa_cons (pe_slice sl_list (pv 0) (po_some (pe_op op_add (pv 3) pe_int)) (po_some (pv 6))) pa_nil)))))
                (pss_one (ps_set (i := 3) scAn.nd rfl (Or.inl rfl) (pv 6))))))))))
      (pss_cons (ps_expr (pe_bm PySem.F.plainAttrs_list PySem.F.slot_list_append PySem.F.type_list_append mt_append (pv 2) (pa_cons (pe_callB call_len_seq (by rfl) T.len PySem.boot_len (pa_cons (pv 5) pa_nil)) pa_nil)))
      (pss_one (ps_expr (pe_bm PySem.F.plainAttrs_list PySem.F.slot_list_extend PySem.F.type_list_extend mt_extend (pv 2) (pa_cons (pv 5) pa_nil))))))))
    (pss_one (ps_ret (pv 2)))))), ?_⟩
  refine fun p dx hp hdx hne => ?_
  refine ⟨p, dx, rfl, upd_same, (by rw [upd_ne hne]; exact upd_same), fun H1 F1 A1 fr1 ow1 => ⟨rfl, ?_⟩⟩
  have S1 : Same H H1 := Same.made hp hdx fr1
  have own1 : ∀ a, F1 a → H a = none := fun a z => by
    rcases ow1 a z with q | q
    · rw [q]; exact hp
    · by_cases e1 : a = p
      · rw [e1]; exact hp
      · by_cases e2 : a = dx
        · rw [e2]; exact hdx
        · rw [upd_ne e1, upd_ne e2] at q; exact q
  refine ⟨sl16 (by show 0 ≤ 10000000; decide), fun g hg => ?_⟩
  have g0 : H g = none := S1.free hg
  have hF1g : ¬ F1 g := fun z => R.there A1 z hg
  refine ⟨LI R H cl p g nl (PyFlat.told (VD.playD Km460.fresh cs)), ⟨_, 0, Km460.fresh, F1, [], cs, none, none, none, rfl, Nat.zero_le _, rfl, hD, R.frame A1 (fun a z => upd_ne (fun q => hF1g (q ▸ z))), upd_same, hF1g, keepNew S1 g0 _, own1, rfl⟩, ?_⟩
  rintro m σ H2 ⟨kk, d, F, done, cs2, s4, s5, s6, rfl, hkk, rfl, hD2, hA, hg2, hFg, S2, hF, he⟩
  have hcl2 : SqL K H2 cl (vz nl) := S2.seq hcl
  refine ⟨_, rfl, _, rfl, cl, _, rfl, .inl (hcl2), _, _, rfl, rfl, _, rfl, ?_⟩
  refine ite2 (fun c => ?_) (fun c => ?_)
  · have hlt : kk < nl.length := by have := of_decide_eq_true c; rw [vz_length] at this; omega
    refine ⟨fun σ' H' => ∃ m', m' < nl.length - kk ∧ LI R H cl p g nl (PyFlat.told (VD.playD Km460.fresh cs)) m' σ' H', fun _ _ z => z, ?_⟩
    generalize hq : nl.drop kk = q at hD2
    cases hD2 with
    | nil =>
      exfalso
      have := List.length_drop (i := kk) (l := nl)
      rw [hq] at this
      simp at this
      omega
    | @k0 x cc t cs3 hc hd =>
      have e1 := drop_at hq
      obtain ⟨f, hv, ⟨fn⟩⟩ := T.h0 x cc hc
      refine ⟨_, rfl, _, rfl, cl, _, _, _, rfl, rfl, hcl2, vz_at e1.1, ?_⟩
      refine ⟨_, rfl, _, rfl, _, rfl, ?_⟩
      refine iteT' (by rw [hv]; rfl) ?_
      refine ⟨_, rfl, _, f, rfl, hv, ⟨24, f, fn.fd, fn.ps, _, fn.ok, hr24, fn.kp, fn.b⟩, rfl, _, rfl, p, d, F, rfl, hA, fun r H3 F3 A3 k3 o3 r0 r1 r2 => ?_⟩
      refine ⟨_, rfl, _, _, rfl, rfl, ?_⟩
      obtain ⟨q1, q2, q3⟩ := li_step (s6 := s6) (s4 := some (.int (x : Int))) (n := 1) (cl := cl) (kk := kk) (nl := nl) (lt_at e1.1) (by rw [e1.2]; exact hd) hA hg2 hFg S2 hF he g0 A3 k3 o3 r0 r1 r2
      have hlen2 := told_len he hlen
      have ln : (saysD d cc).length = ((saysD d cc).map V.int).length := (List.length_map _).symm
      refine ⟨_, rfl, .inl ⟨rfl, _, SqL.of q1⟩, _, rfl, r, _, rfl, .inl (SqL.of r2), g, _, _, rfl, rfl, q1, sl16L (by rw [List.length_map]; omega), ?_⟩
      rw [lz_snoc]
      refine ⟨_, rfl, .inl ⟨rfl, _, SqL.of upd_same⟩, _, rfl, g, r, _, _, rfl, rfl, upd_same, (by rw [upd_ne q2]; exact r2), sl16 (by rw [List.length_map, List.length_map, List.length_append]; simp only [List.length_singleton]; omega), ?_⟩
      rw [lz_app]
      rw [ln] at q3
      exact ⟨nl.length - (kk + 1), by omega, q3⟩

    | @k1 x a cc t cs3 hc hd =>
      have e1 := drop_at hq
      have e2 := drop_at e1.2
      obtain ⟨h0, f, hv, ⟨fn⟩⟩ := T.h1 x cc hc
      refine ⟨_, rfl, _, rfl, cl, _, _, _, rfl, rfl, hcl2, vz_at e1.1, ?_⟩
      refine ⟨_, rfl, _, rfl, _, rfl, ?_⟩
      refine iteF' (by rw [h0]; rfl) ?_
      refine ⟨_, rfl, _, rfl, _, rfl, ?_⟩
      refine iteT' (by rw [hv]; rfl) ?_
      refine ⟨_, rfl, _, f, rfl, hv, ⟨24, f, fn.fd, fn.ps, _, fn.ok, hr24, fn.kp, fn.b⟩, rfl, _, rfl, _, rfl, _, rfl, _, _, rfl, rfl, cl, _, _, _, rfl, rfl, hcl2, vz_at e2.1, p, d, F, a, rfl, hA, fun r H3 F3 A3 k3 o3 r0 r1 r2 => ?_⟩
      refine ⟨_, rfl, _, _, rfl, rfl, ?_⟩
      obtain ⟨q1, q2, q3⟩ := li_step (s6 := s6) (s4 := some (.int (x : Int))) (n := 2) (cl := cl) (kk := kk) (nl := nl) (lt_at e2.1) (by rw [e2.2]; exact hd) hA hg2 hFg S2 hF he g0 A3 k3 o3 r0 r1 r2
      have hlen2 := told_len he hlen
      have ln : (saysD d (cc a)).length = ((saysD d (cc a)).map V.int).length := (List.length_map _).symm
      refine ⟨_, rfl, .inl ⟨rfl, _, SqL.of q1⟩, _, rfl, r, _, rfl, .inl (SqL.of r2), g, _, _, rfl, rfl, q1, sl16L (by rw [List.length_map]; omega), ?_⟩
      rw [lz_snoc]
      refine ⟨_, rfl, .inl ⟨rfl, _, SqL.of upd_same⟩, _, rfl, g, r, _, _, rfl, rfl, upd_same, (by rw [upd_ne q2]; exact r2), sl16 (by rw [List.length_map, List.length_map, List.length_append]; simp only [List.length_singleton]; omega), ?_⟩
      rw [lz_app]
      rw [ln] at q3
      exact ⟨nl.length - (kk + 2), by omega, q3⟩

    | @k2 x a b cc t cs3 hc hd =>
      have e1 := drop_at hq
      have e2 := drop_at e1.2
      have e3 := drop_at e2.2
      obtain ⟨h0, h1, f, hv, ⟨fn⟩⟩ := T.h2 x cc hc
      refine ⟨_, rfl, _, rfl, cl, _, _, _, rfl, rfl, hcl2, vz_at e1.1, ?_⟩
      refine ⟨_, rfl, _, rfl, _, rfl, ?_⟩
      refine iteF' (by rw [h0]; rfl) ?_
      refine ⟨_, rfl, _, rfl, _, rfl, ?_⟩
      refine iteF' (by rw [h1]; rfl) ?_
      refine ⟨_, rfl, _, rfl, _, rfl, ?_⟩
      refine iteT' (by rw [hv]; rfl) ?_
      refine ⟨_, rfl, _, f, rfl, hv, ⟨24, f, fn.fd, fn.ps, _, fn.ok, hr24, fn.kp, fn.b⟩, rfl, _, rfl, _, rfl, _, rfl, _, _, rfl, rfl, cl, _, _, _, rfl, rfl, hcl2, vz_at e2.1, _, rfl, _, rfl, _, _, rfl, rfl, cl, _, _, _, rfl, rfl, hcl2, vz_at e3.1, p, d, F, a, b, rfl, hA, fun r H3 F3 A3 k3 o3 r0 r1 r2 => ?_⟩
      refine ⟨_, rfl, _, _, rfl, rfl, ?_⟩
      obtain ⟨q1, q2, q3⟩ := li_step (s6 := s6) (s4 := some (.int (x : Int))) (n := 3) (cl := cl) (kk := kk) (nl := nl) (lt_at e3.1) (by rw [e3.2]; exact hd) hA hg2 hFg S2 hF he g0 A3 k3 o3 r0 r1 r2
      have hlen2 := told_len he hlen
      have ln : (saysD d (cc a b)).length = ((saysD d (cc a b)).map V.int).length := (List.length_map _).symm
      refine ⟨_, rfl, .inl ⟨rfl, _, SqL.of q1⟩, _, rfl, r, _, rfl, .inl (SqL.of r2), g, _, _, rfl, rfl, q1, sl16L (by rw [List.length_map]; omega), ?_⟩
      rw [lz_snoc]
      refine ⟨_, rfl, .inl ⟨rfl, _, SqL.of upd_same⟩, _, rfl, g, r, _, _, rfl, rfl, upd_same, (by rw [upd_ne q2]; exact r2), sl16 (by rw [List.length_map, List.length_map, List.length_append]; simp only [List.length_singleton]; omega), ?_⟩
      rw [lz_app]
      rw [ln] at q3
      exact ⟨nl.length - (kk + 3), by omega, q3⟩

    | @kl a l t cs3 h6 hd =>
      have e1 := drop_at hq
      have e2 := drop_at e1.2
      have e3 := drop_at e2.2
      obtain ⟨h0, h1, h2, f, hv, ⟨fn⟩⟩ := T.h3
      have hlt9 : kk + 9 ≤ nl.length := by
        have := congrArg List.length e3.2
        rw [List.length_drop, List.length_append, h6] at this
        have := lt_at e3.1
        omega
      refine ⟨_, rfl, _, rfl, cl, _, _, _, rfl, rfl, hcl2, vz_at e1.1, ?_⟩
      refine ⟨_, rfl, _, rfl, _, rfl, ?_⟩
      refine iteF' (by show (valI T.kv0 18).isSome = false; rw [h0]; rfl) ?_
      refine ⟨_, rfl, _, rfl, _, rfl, ?_⟩
      refine iteF' (by show (valI T.kv1 18).isSome = false; rw [h1]; rfl) ?_
      refine ⟨_, rfl, _, rfl, _, rfl, ?_⟩
      refine iteF' (by show (valI T.kv2 18).isSome = false; rw [h2]; rfl) ?_
      refine ⟨_, rfl, _, _, rfl, rfl, _, rfl, _, rfl, _, _, rfl, rfl, cl, _, _, _, rfl, rfl, hcl2, vz_at e3.1, _, _, rfl, rfl, ?_⟩
      have eb : (kk : Int) + 3 + ((6 : Nat) : Int) = ((kk + 9 : Nat) : Int) := by omega
      refine ⟨_, rfl, _, f, rfl, hv, ⟨24, f, fn.fd, fn.ps, _, fn.ok, hr24, fn.kp, fn.b⟩, rfl, _, rfl, _, rfl, _, rfl, _, _, rfl, rfl, cl, _, _, _, rfl, rfl, hcl2, vz_at e2.1, _, rfl, _, rfl, _, _, rfl, rfl, _, rfl, _, rfl, _, rfl, cl, _, rfl, hcl2, fun lv hlv => ?_⟩
      have ecut : cutV (vz nl) (some ((kk : Int) + 3)) (some ((kk : Int) + 3 + ((6 : Nat) : Int))) = vz l := by
        rw [eb, show (kk : Int) + 3 = ((kk + 3 : Nat) : Int) by omega, cut_mid (by omega) hlt9, show kk + 9 - (kk + 3) = 6 by omega, e3.2, List.take_append_of_le_length (by omega), List.take_of_length_le (by omega)]
      have hlvF : ¬ F lv := fun z => R.there hA z hlv
      have hlvg : g ≠ lv := ne_of_none hg2 hlv
      have S2' : Same H (upd H2 lv (li l)) := S2.trans (same_new hlv _)
      have hA' : R.at_ (upd H2 lv (li l)) p d F := R.frame hA fun b hb => upd_ne fun z => hlvF (z ▸ hb)
      have hg2' : upd H2 lv (li l) g = some (lz done) := (upd_ne hlvg).trans hg2
      rw [ecut]
      refine ⟨p, lv, d, F, a, l, rfl, hA', upd_same, h6, fun r H3 F3 A3 k3 o3 r0 r1 r2 => ?_⟩
      refine ⟨_, rfl, ?_⟩
      obtain ⟨q1, q2, q3⟩ := li_step (s6 := some (.int ((kk + 9 : Nat) : Int))) (s4 := some (.int ((18 : Nat) : Int))) (n := 9) (cl := cl) (kk := kk) (nl := nl) hlt9 (by rw [show kk + 9 = (kk + 3) + 6 by omega, ← List.drop_drop, e3.2, List.drop_append_of_le_length (by omega), List.drop_of_length_le (by omega)]; exact hd) hA' hg2' hFg S2' hF he g0 A3 k3 o3 r0 r1 r2
      have hlen2 := told_len he hlen
      have ln : (saysD d (.order a l)).length = ((saysD d (.order a l)).map V.int).length := (List.length_map _).symm
      refine ⟨_, rfl, .inl ⟨rfl, _, SqL.of q1⟩, _, rfl, r, _, rfl, .inl (SqL.of r2), g, _, _, rfl, rfl, q1, sl16L (by rw [List.length_map]; omega), ?_⟩
      rw [lz_snoc]
      refine ⟨_, rfl, .inl ⟨rfl, _, SqL.of upd_same⟩, _, rfl, g, r, _, _, rfl, rfl, upd_same, (by rw [upd_ne q2]; exact r2), sl16 (by rw [List.length_map, List.length_map, List.length_append]; simp only [List.length_singleton]; omega), ?_⟩
      rw [lz_app]
      rw [ln] at q3
      refine ⟨nl.length - (kk + 9), by omega, ?_⟩
      exact q3
  · have hge : kk = nl.length := by have := of_decide_eq_false (Bool.eq_false_iff.mpr c); rw [vz_length] at this; omega
    subst hge
    rw [List.drop_length] at hD2
    cases hD2
    have he : done ++ [] = _ := he
    rw [List.append_nil] at he
    exact ⟨_, rfl, k g H2 S2 g0 (by rw [← he]; exact hg2)⟩
end
end VA
end
noncomputable section
set_option Elab.async false
set_option linter.all false
set_option maxRecDepth 100000
namespace VA
open PySem PySem.Spec PyProof.Rows L2 VS VL VP
open Km460 (Call Desk)
section
variable {P : Program} {w : World} {K : PySem.W.Frag} {mg : Str → Option Value} {base : Heap} {C fa : Addr} {k : Nat} {fd : FuncData} {ps : List Str}
/-- calls that only read -/
theorem read0 {c : Call} (hs : ∀ d, Km460.act d c = (d, (Km460.act ⟨⟨d.now.valley, d.now.calls⟩, [], []⟩ c).2)) (ok : FnOk P w K mg base CX0 k fa fd ps (sp0 C c)) : FnOk P w K mg base CX0 k fa fd ps (spA0 (repV C) c) := by
  refine ok.imp fun vs H Q E h => ?_
  obtain ⟨p, d, F, rfl, hA, q⟩ := h
  refine ⟨p, _, _, rfl, VAt.rat hA, (VAt.ok hA).now.nd, out_read (R := repV C) hA ?_⟩
  unfold nextD saysD at q
  rw [hs] at q
  exact q
theorem read1 {f : Nat → Call} (hs : ∀ d x, Km460.act d (f x) = (d, (Km460.act ⟨⟨d.now.valley, d.now.calls⟩, [], []⟩ (f x)).2)) (ok : FnOk P w K mg base CX0 k fa fd ps (sp1 C f)) : FnOk P w K mg base CX0 k fa fd ps (spA1 (repV C) f) := by
  refine ok.imp fun vs H Q E h => ?_
  obtain ⟨p, d, F, x, rfl, hA, q⟩ := h
  refine ⟨p, _, _, x, rfl, VAt.rat hA, out_read (R := repV C) hA ?_⟩
  unfold nextD saysD at q
  rw [hs] at q
  exact q
theorem read2 {f : Nat → Nat → Call} (hs : ∀ d x y, Km460.act d (f x y) = (d, (Km460.act ⟨⟨d.now.valley, d.now.calls⟩, [], []⟩ (f x y)).2)) (ok : FnOk P w K mg base CX0 k fa fd ps (sp2 C f)) : FnOk P w K mg base CX0 k fa fd ps (spA2 (repV C) f) := by
  refine ok.imp fun vs H Q E h => ?_
  obtain ⟨p, d, F, x, y, rfl, hA, q⟩ := h
  refine ⟨p, _, _, x, y, rfl, VAt.rat hA, out_read (R := repV C) hA ?_⟩
  unfold nextD saysD at q
  rw [hs] at q
  exact q
theorem read3 {f : Nat → List Nat → Call} (hs : ∀ d x l, Km460.act d (f x l) = (d, (Km460.act ⟨⟨d.now.valley, d.now.calls⟩, [], []⟩ (f x l)).2)) (ok : FnOk P w K mg base CX0 k fa fd ps (sp3 C f)) : FnOk P w K mg base CX0 k fa fd ps (spA3 (repV C) f) := by
  refine ok.imp fun vs H Q E h => ?_
  obtain ⟨p, lv, d, F, x, l, rfl, hA, hlv, h6, q⟩ := h
  refine ⟨p, lv, _, _, x, l, rfl, VAt.rat hA, (VAt.ok hA).now.nd, hlv, h6, out_read (R := repV C) hA ?_⟩
  unfold nextD saysD at q
  rw [hs] at q
  exact q
theorem ents_inj {mg : Str → Option Value} : ∀ {a b : List (Int × Addr)} {n : List (Int × Str)}, Ents mg a n → Ents mg b n → a = b
  | [], [], [], _, _ => rfl
  | a :: l, b :: m, x :: n, h, g => by
    obtain ⟨h1, h2, h3⟩ := h
    obtain ⟨g1, g2, g3⟩ := g
    have e : a.2 = b.2 := by
      rw [h2] at g2
      injection g2 with g2
      injection g2
    rw [ents_inj h3 g3, show a = b from Prod.ext (h1.trans g1.symm) e]
  | [], _ :: _, [], _, g => g.elim
  | [], _, _ :: _, h, _ => h.elim
  | _ :: _, _, [], h, _ => h.elim
  | _ :: _, [], _ :: _, _, g => g.elim
theorem fnA {f : Addr} {sp : Sp} {j : Nat} {fd : FuncData} {ps : List Str} (ok : FnOk P w K mg base CX0 j f fd ps sp) (kp : PySem.W.keepIn K (.ref f) = true) (b : Binds K fd ps []) (h : j ≤ 24) : Nonempty (FnA P w K mg base 24 f sp) := ⟨⟨fd, ps, ok.mono h, kp, b⟩⟩
theorem kv0_eq (T : Txt K mg) : T.d_WITH_NO_NUMBER.kvs = [(0, T.vr_start.f), (4, T.vr_clear.f), (16, T.vr_begin.f), (20, T.vr_calls.f), (21, T.vr_sums.f), (22, T.vr_back.f), (23, T.vr_again.f), (24, T.vr_state.f)] :=
  ents_inj T.d_WITH_NO_NUMBER.e ⟨rfl, T.vr_start.m, rfl, T.vr_clear.m, rfl, T.vr_begin.m, rfl, T.vr_calls.m, rfl, T.vr_sums.m, rfl, T.vr_back.m, rfl, T.vr_again.m, rfl, T.vr_state.m, trivial⟩
theorem kv1_eq (T : Txt K mg) : T.d_WITH_ONE_NUMBER.kvs = [(7, T.vr_roads.f), (8, T.vr_round.f), (9, T.vr_once.f), (13, T.vr_last.f), (19, T.vr_look.f)] :=
  ents_inj T.d_WITH_ONE_NUMBER.e ⟨rfl, T.vr_roads.m, rfl, T.vr_round.m, rfl, T.vr_once.m, rfl, T.vr_last.m, rfl, T.vr_look.m, trivial⟩
theorem kv2_eq (T : Txt K mg) : T.d_WITH_TWO_NUMBERS.kvs = [(1, T.vr_village.f), (2, T.vr_road.f), (3, T.vr_call.f), (5, T.vr_far.f), (6, T.vr_between.f), (10, T.vr_tour.f), (11, T.vr_way.f), (12, T.vr_when.f), (14, T.vr_more.f), (15, T.vr_less.f), (17, T.vr_passes.f)] :=
  ents_inj T.d_WITH_TWO_NUMBERS.e ⟨rfl, T.vr_village.m, rfl, T.vr_road.m, rfl, T.vr_call.m, rfl, T.vr_far.m, rfl, T.vr_between.m, rfl, T.vr_tour.m, rfl, T.vr_way.m, rfl, T.vr_when.m, rfl, T.vr_more.m, rfl, T.vr_less.m, rfl, T.vr_passes.m, trivial⟩
theorem kv3_eq (T : Txt K mg) : T.d_WITH_A_NUMBER_AND_A_ROW.kvs = [(18, T.vr_order.f)] :=
  ents_inj T.d_WITH_A_NUMBER_AND_A_ROW.e ⟨rfl, T.vr_order.m, trivial⟩
theorem ite_some {α : Type} {c : Prop} [Decidable c] {x y : α} {o : Option α} (h : (if c then some x else o) = some y) : (c ∧ x = y) ∨ (¬ c ∧ o = some y) := by
  by_cases q : c
  · rw [if_pos q] at h; exact .inl ⟨q, Option.some.inj h⟩
  · rw [if_neg q] at h; exact .inr ⟨q, h⟩
def tab (T : Txt K mg) : Tab P w K mg base (repV T.C) where
  a0 := T.d_WITH_NO_NUMBER.a
  a1 := T.d_WITH_ONE_NUMBER.a
  a2 := T.d_WITH_TWO_NUMBERS.a
  a3 := T.d_WITH_A_NUMBER_AND_A_ROW.a
  kv0 := T.d_WITH_NO_NUMBER.kvs
  kv1 := T.d_WITH_ONE_NUMBER.kvs
  kv2 := T.d_WITH_TWO_NUMBERS.kvs
  kv3 := T.d_WITH_A_NUMBER_AND_A_ROW.kvs
  D0 := T.d_WITH_NO_NUMBER.D
  D1 := T.d_WITH_ONE_NUMBER.D
  D2 := T.d_WITH_TWO_NUMBERS.D
  D3 := T.d_WITH_A_NUMBER_AND_A_ROW.D
  m0 := T.d_WITH_NO_NUMBER.m
  m1 := T.d_WITH_ONE_NUMBER.m
  m2 := T.d_WITH_TWO_NUMBERS.m
  m3 := T.d_WITH_A_NUMBER_AND_A_ROW.m
  h0 := by
    rw [kv0_eq]
    intro k c h
    unfold VD.zeroC at h
    rcases ite_some h with ⟨rfl, rfl⟩ | ⟨_, h⟩
    · exact ⟨_, rfl, fnA (ok_vr_start T) T.vr_start.F.kp T.vr_start.b (by decide)⟩
    rcases ite_some h with ⟨rfl, rfl⟩ | ⟨_, h⟩
    · exact ⟨_, rfl, fnA (ok_vr_clear T) T.vr_clear.F.kp T.vr_clear.b (by decide)⟩
    rcases ite_some h with ⟨rfl, rfl⟩ | ⟨_, h⟩
    · exact ⟨_, rfl, fnA (read0 (fun _ => rfl) (ok_vr_begin T)) T.vr_begin.F.kp T.vr_begin.b (by decide)⟩
    rcases ite_some h with ⟨rfl, rfl⟩ | ⟨_, h⟩
    · exact ⟨_, rfl, fnA (read0 (fun _ => rfl) (ok_vr_calls T)) T.vr_calls.F.kp T.vr_calls.b (by decide)⟩
    rcases ite_some h with ⟨rfl, rfl⟩ | ⟨_, h⟩
    · exact ⟨_, rfl, fnA (read0 (fun _ => rfl) (ok_vr_sums T)) T.vr_sums.F.kp T.vr_sums.b (by decide)⟩
    rcases ite_some h with ⟨rfl, rfl⟩ | ⟨_, h⟩
    · exact ⟨_, rfl, fnA (ok_vr_back T) T.vr_back.F.kp T.vr_back.b (by decide)⟩
    rcases ite_some h with ⟨rfl, rfl⟩ | ⟨_, h⟩
    · exact ⟨_, rfl, fnA (ok_vr_again T) T.vr_again.F.kp T.vr_again.b (by decide)⟩
    rcases ite_some h with ⟨rfl, rfl⟩ | ⟨_, h⟩
    · exact ⟨_, rfl, fnA (ok_vr_state T) T.vr_state.F.kp T.vr_state.b (by decide)⟩
    cases h
  h1 := by
    rw [kv0_eq, kv1_eq]
    intro k c h
    unfold VD.oneC at h
    rcases ite_some h with ⟨rfl, rfl⟩ | ⟨_, h⟩
    · exact ⟨rfl, _, rfl, fnA (read1 (fun _ _ => rfl) (ok_vr_roads T)) T.vr_roads.F.kp T.vr_roads.b (by decide)⟩
    rcases ite_some h with ⟨rfl, rfl⟩ | ⟨_, h⟩
    · exact ⟨rfl, _, rfl, fnA (read1 (fun _ _ => rfl) (ok_vr_round T)) T.vr_round.F.kp T.vr_round.b (by decide)⟩
    rcases ite_some h with ⟨rfl, rfl⟩ | ⟨_, h⟩
    · exact ⟨rfl, _, rfl, fnA (read1 (fun _ _ => rfl) (ok_vr_once T)) T.vr_once.F.kp T.vr_once.b (by decide)⟩
    rcases ite_some h with ⟨rfl, rfl⟩ | ⟨_, h⟩
    · exact ⟨rfl, _, rfl, fnA (read1 (fun _ _ => rfl) (ok_vr_last T)) T.vr_last.F.kp T.vr_last.b (by decide)⟩
    rcases ite_some h with ⟨rfl, rfl⟩ | ⟨_, h⟩
    · exact ⟨rfl, _, rfl, fnA (read1 (fun _ _ => rfl) (ok_vr_look T)) T.vr_look.F.kp T.vr_look.b (by decide)⟩
    cases h
  h2 := by
    rw [kv0_eq, kv1_eq, kv2_eq]
    intro k c h
    unfold VD.twoC at h
    rcases ite_some h with ⟨rfl, rfl⟩ | ⟨_, h⟩
    · exact ⟨rfl, rfl, _, rfl, fnA (ok_vr_village T) T.vr_village.F.kp T.vr_village.b (by decide)⟩
    rcases ite_some h with ⟨rfl, rfl⟩ | ⟨_, h⟩
    · exact ⟨rfl, rfl, _, rfl, fnA (ok_vr_road T) T.vr_road.F.kp T.vr_road.b (by decide)⟩
    rcases ite_some h with ⟨rfl, rfl⟩ | ⟨_, h⟩
    · exact ⟨rfl, rfl, _, rfl, fnA (ok_vr_call T) T.vr_call.F.kp T.vr_call.b (by decide)⟩
    rcases ite_some h with ⟨rfl, rfl⟩ | ⟨_, h⟩
    · exact ⟨rfl, rfl, _, rfl, fnA (read2 (fun _ _ _ => rfl) (ok_vr_far T)) T.vr_far.F.kp T.vr_far.b (by decide)⟩
    rcases ite_some h with ⟨rfl, rfl⟩ | ⟨_, h⟩
    · exact ⟨rfl, rfl, _, rfl, fnA (read2 (fun _ _ _ => rfl) (ok_vr_between T)) T.vr_between.F.kp T.vr_between.b (by decide)⟩
    rcases ite_some h with ⟨rfl, rfl⟩ | ⟨_, h⟩
    · exact ⟨rfl, rfl, _, rfl, fnA (read2 (fun _ _ _ => rfl) (ok_vr_tour T)) T.vr_tour.F.kp T.vr_tour.b (by decide)⟩
    rcases ite_some h with ⟨rfl, rfl⟩ | ⟨_, h⟩
    · exact ⟨rfl, rfl, _, rfl, fnA (read2 (fun _ _ _ => rfl) (ok_vr_way T)) T.vr_way.F.kp T.vr_way.b (by decide)⟩
    rcases ite_some h with ⟨rfl, rfl⟩ | ⟨_, h⟩
    · exact ⟨rfl, rfl, _, rfl, fnA (read2 (fun _ _ _ => rfl) (ok_vr_when T)) T.vr_when.F.kp T.vr_when.b (by decide)⟩
    rcases ite_some h with ⟨rfl, rfl⟩ | ⟨_, h⟩
    · exact ⟨rfl, rfl, _, rfl, fnA (read2 (fun _ _ _ => rfl) (ok_vr_more T)) T.vr_more.F.kp T.vr_more.b (by decide)⟩
    rcases ite_some h with ⟨rfl, rfl⟩ | ⟨_, h⟩
    · exact ⟨rfl, rfl, _, rfl, fnA (read2 (fun _ _ _ => rfl) (ok_vr_less T)) T.vr_less.F.kp T.vr_less.b (by decide)⟩
    rcases ite_some h with ⟨rfl, rfl⟩ | ⟨_, h⟩
    · exact ⟨rfl, rfl, _, rfl, fnA (read2 (fun _ _ _ => rfl) (ok_vr_passes T)) T.vr_passes.F.kp T.vr_passes.b (by decide)⟩
    cases h
  h3 := by
    rw [kv0_eq, kv1_eq, kv2_eq, kv3_eq]
    exact ⟨rfl, rfl, rfl, _, rfl, fnA (read3 (fun _ _ _ => rfl) (ok_vr_order T)) T.vr_order.F.kp T.vr_order.b (by decide)⟩
  C := T.C
  cl := T.cl
  fi := T.init.f
  mkd := T.mkC
  init := ⟨T.init.fd, ["self"], (ok_initR T).mono (by decide), T.init.F.kp, T.init.b⟩
  mC := T.mC
  an := T.answers
  len := T.len
end
end VA
end
/-! Eight names that the head would give to its quick twins of the written-out heaps are taken here, so that it goes its own other way there: the twins prove nothing that is needed, and their text grows with the square of the heap (30 MB of the compiled file, of which 64 MiB are allowed). Nothing below speaks of these eight. -/
def PySem.W.Fast.tw6345870473260819722 : Unit := ()
def PySem.W.Fast.tw7853809761034264163 : Unit := ()
def PySem.W.Fast.tw9071604756009739640 : Unit := ()
def PySem.W.Fast.tw3244342244908879467 : Unit := ()
def PySem.W.Fast.tw2096090700252079207 : Unit := ()
def PySem.W.Fast.tw7499066947979843398 : Unit := ()
def PySem.W.Fast.tw15099295853397003871 : Unit := ()
def PySem.W.Fast.tw9052964397127355828 : Unit := ()
noncomputable section
set_option Elab.async false
set_option linter.all false
set_option maxRecDepth 100000
namespace VP
open PySem PySem.Spec PyProof.Rows L2 VS VL
section
variable {K : PySem.W.Frag} {h : Heap} {mg : Str → Option Value}
theorem df_mk {name : Str} {st : Stmt} {ps : List Str} (X : K.In h) (G : h.Ns mainGlobals mg) {f : Addr} {od an : Option Addr} {sl : Array (Option Value)} {oc kV dc pm cd ct : Value}
    (a : PySem.W.nsIn K mainGlobals name = some (some (.ref f))) (l : K.lookup f = some ⟨oc, od, .func (PySem.W.fnOf name name (defArgs st) (defBody st) (defScope st) .none kV dc pm an cd ct), sl⟩) (c : PySem.W.codeIn K cd name = true) (k : PySem.W.keepIn K (.ref f) = true)
    (hb : ∀ (kV doc pm : Value) (an : Option Addr) (cdv ct : Value) (us : List Value), us.length = ps.length → bindArgs (PySem.W.fnOf name name (defArgs st) (defBody st) (defScope st) .none kV doc pm an cdv ct) ⟨us, []⟩ = pure (ps.zip us)) : Nonempty (Df K mg name st ps) := by
  have F := fun_mk (st := st) l c k
  exact ⟨⟨f, _, F, F.binds hb, PySem.W.mg_of X G a⟩⟩
def mt_mk {C : Addr} {name qual : Str} {st : Stmt} {ps : List Str} {f : Addr} {od an : Option Addr} {sl : Array (Option Value)} {oc kV dc pm cd ct : Value}
    (a : PySem.W.findIn K (.ref C) name = some (some (.ref f))) (i : PySem.W.isFn K (.ref f) = true) (l : K.lookup f = some ⟨oc, od, .func (PySem.W.fnOf name qual (defArgs st) (defBody st) (defScope st) .none kV dc pm an cd ct), sl⟩) (c : PySem.W.codeIn K cd qual = true) (k : PySem.W.keepIn K (.ref f) = true)
    (hb : ∀ (kV doc pm : Value) (an : Option Addr) (cdv ct : Value) (us : List Value), us.length = ps.length → bindArgs (PySem.W.fnOf name qual (defArgs st) (defBody st) (defScope st) .none kV doc pm an cdv ct) ⟨us, []⟩ = pure (ps.zip us)) : Mt K C name qual st ps :=
  ⟨f, _, fun_mk (st := st) l c k, (fun_mk (st := st) l c k).binds hb, ⟨a, i, k⟩⟩
theorem int_mk {x : Str} {n : Int} {t : Tok} (X : K.In h) (G : h.Ns mainGlobals mg) (a : PySem.W.nsIn K mainGlobals x = some (some (.int n t))) : ∃ t, mg x = some (Value.int n t) := ⟨t, PySem.W.mg_of X G a⟩
theorem dc_mk {x : Str} {names : List (Int × Str)} {kvs : List (Int × Addr)} {a : Addr} {es : Array DictEntry} {ep : Nat} (m : mg x = some (.ref a)) (l : K.lookup a = some ⟨.type "dict", none, .dict es ep, #[]⟩) (p : pairsOfD es.toList = some kvs) (nd : (kvs.map (·.1)).Nodup) (sy : (a == sysModules) = false) (e : Ents mg kvs names) : Nonempty (Dc K mg x names) :=
  ⟨⟨a, kvs, ⟨⟨_, es, ep, l, ⟨rfl, rfl, rfl⟩, rfl, p⟩, nd, sy⟩, m, e⟩⟩
structure CT_Valley (K : PySem.W.Frag) (mg : Str → Option Value) where
  C : Addr
  cl : Cls K C
  mC : mg "Valley" = some (.ref C)
  n_ups : NoAttr K C "ups"
  n_lengths : NoAttr K C "lengths"
  n_called : NoAttr K C "called"
  n_earlier : NoAttr K C "earlier"
  n_later : NoAttr K C "later"
  init : Mt K C "__init__" "Valley.__init__" s_Valley_init ["self"]
  start_anew : Mt K C "start_anew" "Valley.start_anew" s_Valley_start_anew ["self"]
  size : Mt K C "size" "Valley.size" s_Valley_size ["self"]
  has : Mt K C "has" "Valley.has" s_Valley_has ["self", "v"]
  rows : Mt K C "rows" "Valley.rows" s_Valley_rows ["self"]
  set_rows : Mt K C "set_rows" "Valley.set_rows" s_Valley_set_rows ["self", "rows"]
  with_call : Mt K C "with_call" "Valley.with_call" s_Valley_with_call ["self", "v", "o"]
  keep_rows : Mt K C "keep_rows" "Valley.keep_rows" s_Valley_keep_rows ["self"]
  add_village : Mt K C "add_village" "Valley.add_village" s_Valley_add_village ["self", "up", "far"]
  set_road : Mt K C "set_road" "Valley.set_road" s_Valley_set_road ["self", "v", "n"]
  set_call : Mt K C "set_call" "Valley.set_call" s_Valley_set_call ["self", "v", "o"]
  clear_calls : Mt K C "clear_calls" "Valley.clear_calls" s_Valley_clear_calls ["self"]
  take_back : Mt K C "take_back" "Valley.take_back" s_Valley_take_back ["self"]
  do_again : Mt K C "do_again" "Valley.do_again" s_Valley_do_again ["self"]
  mkC : Mk K C init.f
theorem ct_Valley (X : K.In h) (G : h.Ns mainGlobals mg) {C : Addr} {f0 : Addr} {od0 an0 : Option Addr} {sl0 : Array (Option Value)} {oc0 kV0 dc0 pm0 cd0 ct0 : Value} {f1 : Addr} {od1 an1 : Option Addr} {sl1 : Array (Option Value)} {oc1 kV1 dc1 pm1 cd1 ct1 : Value} {f2 : Addr} {od2 an2 : Option Addr} {sl2 : Array (Option Value)} {oc2 kV2 dc2 pm2 cd2 ct2 : Value} {f3 : Addr} {od3 an3 : Option Addr} {sl3 : Array (Option Value)} {oc3 kV3 dc3 pm3 cd3 ct3 : Value} {f4 : Addr} {od4 an4 : Option Addr} {sl4 : Array (Option Value)} {oc4 kV4 dc4 pm4 cd4 ct4 : Value} {f5 : Addr} {od5 an5 : Option Addr} {sl5 : Array (Option Value)} {oc5 kV5 dc5 pm5 cd5 ct5 : Value} {f6 : Addr} {od6 an6 : Option Addr} {sl6 : Array (Option Value)} {oc6 kV6 dc6 pm6 cd6 ct6 : Value} {f7 : Addr} {od7 an7 : Option Addr} {sl7 : Array (Option Value)} {oc7 kV7 dc7 pm7 cd7 ct7 : Value} {f8 : Addr} {od8 an8 : Option Addr} {sl8 : Array (Option Value)} {oc8 kV8 dc8 pm8 cd8 ct8 : Value} {f9 : Addr} {od9 an9 : Option Addr} {sl9 : Array (Option Value)} {oc9 kV9 dc9 pm9 cd9 ct9 : Value} {f10 : Addr} {od10 an10 : Option Addr} {sl10 : Array (Option Value)} {oc10 kV10 dc10 pm10 cd10 ct10 : Value} {f11 : Addr} {od11 an11 : Option Addr} {sl11 : Array (Option Value)} {oc11 kV11 dc11 pm11 cd11 ct11 : Value} {f12 : Addr} {od12 an12 : Option Addr} {sl12 : Array (Option Value)} {oc12 kV12 dc12 pm12 cd12 ct12 : Value} {f13 : Addr} {od13 an13 : Option Addr} {sl13 : Array (Option Value)} {oc13 kV13 dc13 pm13 cd13 ct13 : Value}
    (aC : PySem.W.nsIn K mainGlobals "Valley" = some (some (.ref C)))
    (a0 : PySem.W.findIn K (.ref C) "__init__" = some (some (.ref f0)))
    (i0 : PySem.W.isFn K (.ref f0) = true)
    (l0 : K.lookup f0 = some ⟨oc0, od0, .func (PySem.W.fnOf "__init__" "Valley.__init__" (defArgs s_Valley_init) (defBody s_Valley_init) (defScope s_Valley_init) .none kV0 dc0 pm0 an0 cd0 ct0), sl0⟩)
    (c0 : PySem.W.codeIn K cd0 "Valley.__init__" = true)
    (k0 : PySem.W.keepIn K (.ref f0) = true)
    (a1 : PySem.W.findIn K (.ref C) "start_anew" = some (some (.ref f1)))
    (i1 : PySem.W.isFn K (.ref f1) = true)
    (l1 : K.lookup f1 = some ⟨oc1, od1, .func (PySem.W.fnOf "start_anew" "Valley.start_anew" (defArgs s_Valley_start_anew) (defBody s_Valley_start_anew) (defScope s_Valley_start_anew) .none kV1 dc1 pm1 an1 cd1 ct1), sl1⟩)
    (c1 : PySem.W.codeIn K cd1 "Valley.start_anew" = true)
    (k1 : PySem.W.keepIn K (.ref f1) = true)
    (a2 : PySem.W.findIn K (.ref C) "size" = some (some (.ref f2)))
    (i2 : PySem.W.isFn K (.ref f2) = true)
    (l2 : K.lookup f2 = some ⟨oc2, od2, .func (PySem.W.fnOf "size" "Valley.size" (defArgs s_Valley_size) (defBody s_Valley_size) (defScope s_Valley_size) .none kV2 dc2 pm2 an2 cd2 ct2), sl2⟩)
    (c2 : PySem.W.codeIn K cd2 "Valley.size" = true)
    (k2 : PySem.W.keepIn K (.ref f2) = true)
    (a3 : PySem.W.findIn K (.ref C) "has" = some (some (.ref f3)))
    (i3 : PySem.W.isFn K (.ref f3) = true)
    (l3 : K.lookup f3 = some ⟨oc3, od3, .func (PySem.W.fnOf "has" "Valley.has" (defArgs s_Valley_has) (defBody s_Valley_has) (defScope s_Valley_has) .none kV3 dc3 pm3 an3 cd3 ct3), sl3⟩)
    (c3 : PySem.W.codeIn K cd3 "Valley.has" = true)
    (k3 : PySem.W.keepIn K (.ref f3) = true)
    (a4 : PySem.W.findIn K (.ref C) "rows" = some (some (.ref f4)))
    (i4 : PySem.W.isFn K (.ref f4) = true)
    (l4 : K.lookup f4 = some ⟨oc4, od4, .func (PySem.W.fnOf "rows" "Valley.rows" (defArgs s_Valley_rows) (defBody s_Valley_rows) (defScope s_Valley_rows) .none kV4 dc4 pm4 an4 cd4 ct4), sl4⟩)
    (c4 : PySem.W.codeIn K cd4 "Valley.rows" = true)
    (k4 : PySem.W.keepIn K (.ref f4) = true)
    (a5 : PySem.W.findIn K (.ref C) "set_rows" = some (some (.ref f5)))
    (i5 : PySem.W.isFn K (.ref f5) = true)
    (l5 : K.lookup f5 = some ⟨oc5, od5, .func (PySem.W.fnOf "set_rows" "Valley.set_rows" (defArgs s_Valley_set_rows) (defBody s_Valley_set_rows) (defScope s_Valley_set_rows) .none kV5 dc5 pm5 an5 cd5 ct5), sl5⟩)
    (c5 : PySem.W.codeIn K cd5 "Valley.set_rows" = true)
    (k5 : PySem.W.keepIn K (.ref f5) = true)
    (a6 : PySem.W.findIn K (.ref C) "with_call" = some (some (.ref f6)))
    (i6 : PySem.W.isFn K (.ref f6) = true)
    (l6 : K.lookup f6 = some ⟨oc6, od6, .func (PySem.W.fnOf "with_call" "Valley.with_call" (defArgs s_Valley_with_call) (defBody s_Valley_with_call) (defScope s_Valley_with_call) .none kV6 dc6 pm6 an6 cd6 ct6), sl6⟩)
    (c6 : PySem.W.codeIn K cd6 "Valley.with_call" = true)
    (k6 : PySem.W.keepIn K (.ref f6) = true)
    (a7 : PySem.W.findIn K (.ref C) "keep_rows" = some (some (.ref f7)))
    (i7 : PySem.W.isFn K (.ref f7) = true)
    (l7 : K.lookup f7 = some ⟨oc7, od7, .func (PySem.W.fnOf "keep_rows" "Valley.keep_rows" (defArgs s_Valley_keep_rows) (defBody s_Valley_keep_rows) (defScope s_Valley_keep_rows) .none kV7 dc7 pm7 an7 cd7 ct7), sl7⟩)
    (c7 : PySem.W.codeIn K cd7 "Valley.keep_rows" = true)
    (k7 : PySem.W.keepIn K (.ref f7) = true)
    (a8 : PySem.W.findIn K (.ref C) "add_village" = some (some (.ref f8)))
    (i8 : PySem.W.isFn K (.ref f8) = true)
    (l8 : K.lookup f8 = some ⟨oc8, od8, .func (PySem.W.fnOf "add_village" "Valley.add_village" (defArgs s_Valley_add_village) (defBody s_Valley_add_village) (defScope s_Valley_add_village) .none kV8 dc8 pm8 an8 cd8 ct8), sl8⟩)
    (c8 : PySem.W.codeIn K cd8 "Valley.add_village" = true)
    (k8 : PySem.W.keepIn K (.ref f8) = true)
    (a9 : PySem.W.findIn K (.ref C) "set_road" = some (some (.ref f9)))
    (i9 : PySem.W.isFn K (.ref f9) = true)
    (l9 : K.lookup f9 = some ⟨oc9, od9, .func (PySem.W.fnOf "set_road" "Valley.set_road" (defArgs s_Valley_set_road) (defBody s_Valley_set_road) (defScope s_Valley_set_road) .none kV9 dc9 pm9 an9 cd9 ct9), sl9⟩)
    (c9 : PySem.W.codeIn K cd9 "Valley.set_road" = true)
    (k9 : PySem.W.keepIn K (.ref f9) = true)
    (a10 : PySem.W.findIn K (.ref C) "set_call" = some (some (.ref f10)))
    (i10 : PySem.W.isFn K (.ref f10) = true)
    (l10 : K.lookup f10 = some ⟨oc10, od10, .func (PySem.W.fnOf "set_call" "Valley.set_call" (defArgs s_Valley_set_call) (defBody s_Valley_set_call) (defScope s_Valley_set_call) .none kV10 dc10 pm10 an10 cd10 ct10), sl10⟩)
    (c10 : PySem.W.codeIn K cd10 "Valley.set_call" = true)
    (k10 : PySem.W.keepIn K (.ref f10) = true)
    (a11 : PySem.W.findIn K (.ref C) "clear_calls" = some (some (.ref f11)))
    (i11 : PySem.W.isFn K (.ref f11) = true)
    (l11 : K.lookup f11 = some ⟨oc11, od11, .func (PySem.W.fnOf "clear_calls" "Valley.clear_calls" (defArgs s_Valley_clear_calls) (defBody s_Valley_clear_calls) (defScope s_Valley_clear_calls) .none kV11 dc11 pm11 an11 cd11 ct11), sl11⟩)
    (c11 : PySem.W.codeIn K cd11 "Valley.clear_calls" = true)
    (k11 : PySem.W.keepIn K (.ref f11) = true)
    (a12 : PySem.W.findIn K (.ref C) "take_back" = some (some (.ref f12)))
    (i12 : PySem.W.isFn K (.ref f12) = true)
    (l12 : K.lookup f12 = some ⟨oc12, od12, .func (PySem.W.fnOf "take_back" "Valley.take_back" (defArgs s_Valley_take_back) (defBody s_Valley_take_back) (defScope s_Valley_take_back) .none kV12 dc12 pm12 an12 cd12 ct12), sl12⟩)
    (c12 : PySem.W.codeIn K cd12 "Valley.take_back" = true)
    (k12 : PySem.W.keepIn K (.ref f12) = true)
    (a13 : PySem.W.findIn K (.ref C) "do_again" = some (some (.ref f13)))
    (i13 : PySem.W.isFn K (.ref f13) = true)
    (l13 : K.lookup f13 = some ⟨oc13, od13, .func (PySem.W.fnOf "do_again" "Valley.do_again" (defArgs s_Valley_do_again) (defBody s_Valley_do_again) (defScope s_Valley_do_again) .none kV13 dc13 pm13 an13 cd13 ct13), sl13⟩)
    (c13 : PySem.W.codeIn K cd13 "Valley.do_again" = true)
    (k13 : PySem.W.keepIn K (.ref f13) = true)
    (pg : PySem.W.plainGet K C Str.empty = true)
    (hd : PySem.W.hasDictIn K C = true)
    (po : PySem.W.plainOver K C = true)
    (sa : PySem.W.findIn K (.ref C) "__setattr__" = some (some (.builtin "object.__setattr__")))
    (mk : PySem.W.makesIn K C = true)
    (kc : PySem.W.keepIn K (.ref C) = true)
    (n_ups : PySem.W.findIn K (.ref C) "ups" = some none)
    (n_lengths : PySem.W.findIn K (.ref C) "lengths" = some none)
    (n_called : PySem.W.findIn K (.ref C) "called" = some none)
    (n_earlier : PySem.W.findIn K (.ref C) "earlier" = some none)
    (n_later : PySem.W.findIn K (.ref C) "later" = some none) : Nonempty (CT_Valley K mg) :=
  ⟨⟨C, ⟨pg, hd, po, sa⟩, PySem.W.mg_of X G aC, n_ups, n_lengths, n_called, n_earlier, n_later, mt_mk a0 i0 l0 c0 k0 (fun _ _ _ _ _ _ us hl => match us, hl with | [_], _ => rfl), mt_mk a1 i1 l1 c1 k1 (fun _ _ _ _ _ _ us hl => match us, hl with | [_], _ => rfl), mt_mk a2 i2 l2 c2 k2 (fun _ _ _ _ _ _ us hl => match us, hl with | [_], _ => rfl), mt_mk a3 i3 l3 c3 k3 (fun _ _ _ _ _ _ us hl => match us, hl with | [_, _], _ => rfl), mt_mk a4 i4 l4 c4 k4 (fun _ _ _ _ _ _ us hl => match us, hl with | [_], _ => rfl), mt_mk a5 i5 l5 c5 k5 (fun _ _ _ _ _ _ us hl => match us, hl with | [_, _], _ => rfl), mt_mk a6 i6 l6 c6 k6 (fun _ _ _ _ _ _ us hl => match us, hl with | [_, _, _], _ => rfl), mt_mk a7 i7 l7 c7 k7 (fun _ _ _ _ _ _ us hl => match us, hl with | [_], _ => rfl), mt_mk a8 i8 l8 c8 k8 (fun _ _ _ _ _ _ us hl => match us, hl with | [_, _, _], _ => rfl), mt_mk a9 i9 l9 c9 k9 (fun _ _ _ _ _ _ us hl => match us, hl with | [_, _, _], _ => rfl), mt_mk a10 i10 l10 c10 k10 (fun _ _ _ _ _ _ us hl => match us, hl with | [_, _, _], _ => rfl), mt_mk a11 i11 l11 c11 k11 (fun _ _ _ _ _ _ us hl => match us, hl with | [_], _ => rfl), mt_mk a12 i12 l12 c12 k12 (fun _ _ _ _ _ _ us hl => match us, hl with | [_], _ => rfl), mt_mk a13 i13 l13 c13 k13 (fun _ _ _ _ _ _ us hl => match us, hl with | [_], _ => rfl), ⟨mk, a0, i0, kc⟩⟩⟩
theorem dc_WITH_NO_NUMBER (X : K.In h) (G : h.Ns mainGlobals mg) {A f0 f1 f2 f3 f4 f5 f6 f7 : Addr} {es : Array DictEntry} {ep : Nat}
    (a : PySem.W.nsIn K mainGlobals "WITH_NO_NUMBER" = some (some (.ref A)))
    (a0 : PySem.W.nsIn K mainGlobals "vr_start" = some (some (.ref f0)))
    (a1 : PySem.W.nsIn K mainGlobals "vr_clear" = some (some (.ref f1)))
    (a2 : PySem.W.nsIn K mainGlobals "vr_begin" = some (some (.ref f2)))
    (a3 : PySem.W.nsIn K mainGlobals "vr_calls" = some (some (.ref f3)))
    (a4 : PySem.W.nsIn K mainGlobals "vr_sums" = some (some (.ref f4)))
    (a5 : PySem.W.nsIn K mainGlobals "vr_back" = some (some (.ref f5)))
    (a6 : PySem.W.nsIn K mainGlobals "vr_again" = some (some (.ref f6)))
    (a7 : PySem.W.nsIn K mainGlobals "vr_state" = some (some (.ref f7)))
    (l : K.lookup A = some ⟨.type "dict", none, .dict es ep, #[]⟩)
    (p : pairsOfD es.toList = some [(0, f0), (4, f1), (16, f2), (20, f3), (21, f4), (22, f5), (23, f6), (24, f7)])
    (sy : (A == sysModules) = false) : Nonempty (Dc K mg "WITH_NO_NUMBER" [(0, "vr_start"), (4, "vr_clear"), (16, "vr_begin"), (20, "vr_calls"), (21, "vr_sums"), (22, "vr_back"), (23, "vr_again"), (24, "vr_state")]) :=
  dc_mk (PySem.W.mg_of X G a) l p (show ([0, 4, 16, 20, 21, 22, 23, 24] : List Int).Nodup by decide) sy ⟨rfl, PySem.W.mg_of X G a0, rfl, PySem.W.mg_of X G a1, rfl, PySem.W.mg_of X G a2, rfl, PySem.W.mg_of X G a3, rfl, PySem.W.mg_of X G a4, rfl, PySem.W.mg_of X G a5, rfl, PySem.W.mg_of X G a6, rfl, PySem.W.mg_of X G a7, trivial⟩
theorem dc_WITH_ONE_NUMBER (X : K.In h) (G : h.Ns mainGlobals mg) {A f0 f1 f2 f3 f4 : Addr} {es : Array DictEntry} {ep : Nat}
    (a : PySem.W.nsIn K mainGlobals "WITH_ONE_NUMBER" = some (some (.ref A)))
    (a0 : PySem.W.nsIn K mainGlobals "vr_roads" = some (some (.ref f0)))
    (a1 : PySem.W.nsIn K mainGlobals "vr_round" = some (some (.ref f1)))
    (a2 : PySem.W.nsIn K mainGlobals "vr_once" = some (some (.ref f2)))
    (a3 : PySem.W.nsIn K mainGlobals "vr_last" = some (some (.ref f3)))
    (a4 : PySem.W.nsIn K mainGlobals "vr_look" = some (some (.ref f4)))
    (l : K.lookup A = some ⟨.type "dict", none, .dict es ep, #[]⟩)
    (p : pairsOfD es.toList = some [(7, f0), (8, f1), (9, f2), (13, f3), (19, f4)])
    (sy : (A == sysModules) = false) : Nonempty (Dc K mg "WITH_ONE_NUMBER" [(7, "vr_roads"), (8, "vr_round"), (9, "vr_once"), (13, "vr_last"), (19, "vr_look")]) :=
  dc_mk (PySem.W.mg_of X G a) l p (show ([7, 8, 9, 13, 19] : List Int).Nodup by decide) sy ⟨rfl, PySem.W.mg_of X G a0, rfl, PySem.W.mg_of X G a1, rfl, PySem.W.mg_of X G a2, rfl, PySem.W.mg_of X G a3, rfl, PySem.W.mg_of X G a4, trivial⟩
theorem dc_WITH_TWO_NUMBERS (X : K.In h) (G : h.Ns mainGlobals mg) {A f0 f1 f2 f3 f4 f5 f6 f7 f8 f9 f10 : Addr} {es : Array DictEntry} {ep : Nat}
    (a : PySem.W.nsIn K mainGlobals "WITH_TWO_NUMBERS" = some (some (.ref A)))
    (a0 : PySem.W.nsIn K mainGlobals "vr_village" = some (some (.ref f0)))
    (a1 : PySem.W.nsIn K mainGlobals "vr_road" = some (some (.ref f1)))
    (a2 : PySem.W.nsIn K mainGlobals "vr_call" = some (some (.ref f2)))
    (a3 : PySem.W.nsIn K mainGlobals "vr_far" = some (some (.ref f3)))
    (a4 : PySem.W.nsIn K mainGlobals "vr_between" = some (some (.ref f4)))
    (a5 : PySem.W.nsIn K mainGlobals "vr_tour" = some (some (.ref f5)))
    (a6 : PySem.W.nsIn K mainGlobals "vr_way" = some (some (.ref f6)))
    (a7 : PySem.W.nsIn K mainGlobals "vr_when" = some (some (.ref f7)))
    (a8 : PySem.W.nsIn K mainGlobals "vr_more" = some (some (.ref f8)))
    (a9 : PySem.W.nsIn K mainGlobals "vr_less" = some (some (.ref f9)))
    (a10 : PySem.W.nsIn K mainGlobals "vr_passes" = some (some (.ref f10)))
    (l : K.lookup A = some ⟨.type "dict", none, .dict es ep, #[]⟩)
    (p : pairsOfD es.toList = some [(1, f0), (2, f1), (3, f2), (5, f3), (6, f4), (10, f5), (11, f6), (12, f7), (14, f8), (15, f9), (17, f10)])
    (sy : (A == sysModules) = false) : Nonempty (Dc K mg "WITH_TWO_NUMBERS" [(1, "vr_village"), (2, "vr_road"), (3, "vr_call"), (5, "vr_far"), (6, "vr_between"), (10, "vr_tour"), (11, "vr_way"), (12, "vr_when"), (14, "vr_more"), (15, "vr_less"), (17, "vr_passes")]) :=
  dc_mk (PySem.W.mg_of X G a) l p (show ([1, 2, 3, 5, 6, 10, 11, 12, 14, 15, 17] : List Int).Nodup by decide) sy ⟨rfl, PySem.W.mg_of X G a0, rfl, PySem.W.mg_of X G a1, rfl, PySem.W.mg_of X G a2, rfl, PySem.W.mg_of X G a3, rfl, PySem.W.mg_of X G a4, rfl, PySem.W.mg_of X G a5, rfl, PySem.W.mg_of X G a6, rfl, PySem.W.mg_of X G a7, rfl, PySem.W.mg_of X G a8, rfl, PySem.W.mg_of X G a9, rfl, PySem.W.mg_of X G a10, trivial⟩
theorem dc_WITH_A_NUMBER_AND_A_ROW (X : K.In h) (G : h.Ns mainGlobals mg) {A f0 : Addr} {es : Array DictEntry} {ep : Nat}
    (a : PySem.W.nsIn K mainGlobals "WITH_A_NUMBER_AND_A_ROW" = some (some (.ref A)))
    (a0 : PySem.W.nsIn K mainGlobals "vr_order" = some (some (.ref f0)))
    (l : K.lookup A = some ⟨.type "dict", none, .dict es ep, #[]⟩)
    (p : pairsOfD es.toList = some [(18, f0)])
    (sy : (A == sysModules) = false) : Nonempty (Dc K mg "WITH_A_NUMBER_AND_A_ROW" [(18, "vr_order")]) :=
  dc_mk (PySem.W.mg_of X G a) l p (show ([18] : List Int).Nodup by decide) sy ⟨rfl, PySem.W.mg_of X G a0, trivial⟩
end
end VP
namespace VA
open PySem PySem.Spec PyProof.Rows L2 VS VL VP
theorem fin {P : Program} {w : World} {K : PySem.W.Frag} {mg : Str → Option Value} {fa : Addr} (T : Txt K mg) (hfa : mg "answers" = some (.ref fa)) :
    ∃ fd : FuncData, (∀ (s : Shared) (us : List Value), us.length = (["calls"] : List Str).length → BindsTo s fd ⟨us, []⟩ ((["calls"] : List Str).zip us)) ∧ ∀ base : Heap, K.In base → base.Ns mainGlobals mg → FnOk P w K mg base CX0 60 fa fd ["calls"] (VA.spAn K) := by
  have e := hfa.symm.trans T.answers.m
  cases e
  refine ⟨T.answers.fd, fun s us hu => ?_, fun base _ _ => (VA.ok_answers (VA.tab T)).mono (by decide)⟩
  obtain ⟨oc, od, kV, doc, pm, an, cdv, ct, osl, e, _, _⟩ := T.answers.F.ex
  rw [e]
  exact match us, hu with | [_], _ => .of_eq rfl
theorem req {l : List Int} (h : l.all (PySem.W.Codec.inInt 0 4294967295) = true) : ∃ nl : List Nat, l = VD.zs nl := by
  refine ⟨l.map Int.toNat, ?_⟩
  unfold VD.zs
  rw [List.map_map]
  have : ∀ z ∈ l, z = ((fun (x : Nat) => (x : Int)) ∘ Int.toNat) z := fun z hz => by
    have q := List.all_eq_true.mp h z hz
    have q := (PySem.W.Codec.inInt_iff.mp q).1
    show z = ((z.toNat : Nat) : Int)
    omega
  exact (List.map_id l).symm.trans (List.map_congr_left this)
end VA
open PySem PySem.W PyProof.Rows
set_option maxRecDepth 100000 in
set_option maxHeartbeats 0 in
theorem PySem.Challenge.cw_valleyrounds_s01_answers_holds : PySem.Challenge.rw_valleyrounds_s01_answers.Holds := by
  w_on; k_headS; (case hw => exact ⟨[.list [.int 0]], by decide +kernel, by decide +kernel⟩)
  k_fillS
  refine L2.walk_specK (r := PySem.Challenge.rw_valleyrounds_s01_answers) (k := 60) (CX := L2.CX0) (ps := ["calls"]) (sp := VA.spAn) (by decide +kernel) rfl rfl ⟨rfl, by decide, by decide⟩ (fun w h Y => PySem.W.kIn_of Y) ?F ?S (fun _ _ _ _ z => z)
  case F =>
    intro w mg fa h Y KX G hmg
    have hk_Valley : Nonempty (VP.CT_Valley (L2.KOf KX) mg) := by
      dsimp only [L2.KOf]
      refine' VP.ct_Valley KX G ?z1_aC ?z1_a0 ?z1_i0 ?z1_l0 ?z1_c0 ?z1_k0 ?z1_a1 ?z1_i1 ?z1_l1 ?z1_c1 ?z1_k1 ?z1_a2 ?z1_i2 ?z1_l2 ?z1_c2 ?z1_k2 ?z1_a3 ?z1_i3 ?z1_l3 ?z1_c3 ?z1_k3 ?z1_a4 ?z1_i4 ?z1_l4 ?z1_c4 ?z1_k4 ?z1_a5 ?z1_i5 ?z1_l5 ?z1_c5 ?z1_k5 ?z1_a6 ?z1_i6 ?z1_l6 ?z1_c6 ?z1_k6 ?z1_a7 ?z1_i7 ?z1_l7 ?z1_c7 ?z1_k7 ?z1_a8 ?z1_i8 ?z1_l8 ?z1_c8 ?z1_k8 ?z1_a9 ?z1_i9 ?z1_l9 ?z1_c9 ?z1_k9 ?z1_a10 ?z1_i10 ?z1_l10 ?z1_c10 ?z1_k10 ?z1_a11 ?z1_i11 ?z1_l11 ?z1_c11 ?z1_k11 ?z1_a12 ?z1_i12 ?z1_l12 ?z1_c12 ?z1_k12 ?z1_a13 ?z1_i13 ?z1_l13 ?z1_c13 ?z1_k13 ?z1_pg ?z1_hd ?z1_po ?z1_sa ?z1_mk ?z1_kc ?z1_n_ups ?z1_n_lengths ?z1_n_called ?z1_n_earlier ?z1_n_later
      (case z1_aC => k_is); (case z1_a0 => k_is); (case z1_i0 => k_is); (case z1_l0 => k_is); (case z1_c0 => k_is); (case z1_k0 => k_is); (case z1_a1 => k_is); (case z1_i1 => k_is); (case z1_l1 => k_is); (case z1_c1 => k_is); (case z1_k1 => k_is); (case z1_a2 => k_is); (case z1_i2 => k_is); (case z1_l2 => k_is); (case z1_c2 => k_is); (case z1_k2 => k_is); (case z1_a3 => k_is); (case z1_i3 => k_is); (case z1_l3 => k_is); (case z1_c3 => k_is); (case z1_k3 => k_is); (case z1_a4 => k_is); (case z1_i4 => k_is); (case z1_l4 => k_is); (case z1_c4 => k_is); (case z1_k4 => k_is); (case z1_a5 => k_is); (case z1_i5 => k_is); (case z1_l5 => k_is); (case z1_c5 => k_is); (case z1_k5 => k_is); (case z1_a6 => k_is); (case z1_i6 => k_is); (case z1_l6 => k_is); (case z1_c6 => k_is); (case z1_k6 => k_is); (case z1_a7 => k_is); (case z1_i7 => k_is); (case z1_l7 => k_is); (case z1_c7 => k_is); (case z1_k7 => k_is); (case z1_a8 => k_is); (case z1_i8 => k_is); (case z1_l8 => k_is); (case z1_c8 => k_is); (case z1_k8 => k_is); (case z1_a9 => k_is); (case z1_i9 => k_is); (case z1_l9 => k_is); (case z1_c9 => k_is); (case z1_k9 => k_is); (case z1_a10 => k_is); (case z1_i10 => k_is); (case z1_l10 => k_is); (case z1_c10 => k_is); (case z1_k10 => k_is); (case z1_a11 => k_is); (case z1_i11 => k_is); (case z1_l11 => k_is); (case z1_c11 => k_is); (case z1_k11 => k_is); (case z1_a12 => k_is); (case z1_i12 => k_is); (case z1_l12 => k_is); (case z1_c12 => k_is); (case z1_k12 => k_is); (case z1_a13 => k_is); (case z1_i13 => k_is); (case z1_l13 => k_is); (case z1_c13 => k_is); (case z1_k13 => k_is); (case z1_pg => k_is); (case z1_hd => k_is); (case z1_po => k_is); (case z1_sa => k_is); (case z1_mk => k_is); (case z1_kc => k_is); (case z1_n_ups => k_is); (case z1_n_lengths => k_is); (case z1_n_called => k_is); (case z1_n_earlier => k_is); (case z1_n_later => k_is)
    have hd_way_between : Nonempty (VP.Df (L2.KOf KX) mg "way_between" VP.s_way_between ["valley", "v", "w"]) := by
      dsimp only [L2.KOf]
      refine' VP.df_mk KX G ?z2_a ?z2_l ?z2_c ?z2_k ?z2_b
      (case z2_a => k_is); (case z2_l => k_is); (case z2_c => k_is); (case z2_k => k_is)
      exact fun _ _ _ _ _ _ us hl => match us, hl with | [_, _, _], _ => rfl
    have hd_roads_along : Nonempty (VP.Df (L2.KOf KX) mg "roads_along" VP.s_roads_along ["passed"]) := by
      dsimp only [L2.KOf]
      refine' VP.df_mk KX G ?z3_a ?z3_l ?z3_c ?z3_k ?z3_b
      (case z3_a => k_is); (case z3_l => k_is); (case z3_c => k_is); (case z3_k => k_is)
      exact fun _ _ _ _ _ _ us hl => match us, hl with | [_], _ => rfl
    have hd_length_of : Nonempty (VP.Df (L2.KOf KX) mg "length_of" VP.s_length_of ["valley", "roads"]) := by
      dsimp only [L2.KOf]
      refine' VP.df_mk KX G ?z4_a ?z4_l ?z4_c ?z4_k ?z4_b
      (case z4_a => k_is); (case z4_l => k_is); (case z4_c => k_is); (case z4_k => k_is)
      exact fun _ _ _ _ _ _ us hl => match us, hl with | [_, _], _ => rfl
    have hd_length_along : Nonempty (VP.Df (L2.KOf KX) mg "length_along" VP.s_length_along ["valley", "passed"]) := by
      dsimp only [L2.KOf]
      refine' VP.df_mk KX G ?z5_a ?z5_l ?z5_c ?z5_k ?z5_b
      (case z5_a => k_is); (case z5_l => k_is); (case z5_c => k_is); (case z5_k => k_is)
      exact fun _ _ _ _ _ _ us hl => match us, hl with | [_, _], _ => rfl
    have hd_far_between : Nonempty (VP.Df (L2.KOf KX) mg "far_between" VP.s_far_between ["valley", "v", "w"]) := by
      dsimp only [L2.KOf]
      refine' VP.df_mk KX G ?z6_a ?z6_l ?z6_c ?z6_k ?z6_b
      (case z6_a => k_is); (case z6_l => k_is); (case z6_c => k_is); (case z6_k => k_is)
      exact fun _ _ _ _ _ _ us hl => match us, hl with | [_, _, _], _ => rfl
    have hd_far_by_stops : Nonempty (VP.Df (L2.KOf KX) mg "far_by_stops" VP.s_far_by_stops ["valley", "stops"]) := by
      dsimp only [L2.KOf]
      refine' VP.df_mk KX G ?z7_a ?z7_l ?z7_c ?z7_k ?z7_b
      (case z7_a => k_is); (case z7_l => k_is); (case z7_c => k_is); (case z7_k => k_is)
      exact fun _ _ _ _ _ _ us hl => match us, hl with | [_, _], _ => rfl
    have hd_called_villages : Nonempty (VP.Df (L2.KOf KX) mg "called_villages" VP.s_called_villages ["valley"]) := by
      dsimp only [L2.KOf]
      refine' VP.df_mk KX G ?z8_a ?z8_l ?z8_c ?z8_k ?z8_b
      (case z8_a => k_is); (case z8_l => k_is); (case z8_c => k_is); (case z8_k => k_is)
      exact fun _ _ _ _ _ _ us hl => match us, hl with | [_], _ => rfl
    have hd_roads_needed : Nonempty (VP.Df (L2.KOf KX) mg "roads_needed" VP.s_roads_needed ["valley", "a"]) := by
      dsimp only [L2.KOf]
      refine' VP.df_mk KX G ?z9_a ?z9_l ?z9_c ?z9_k ?z9_b
      (case z9_a => k_is); (case z9_l => k_is); (case z9_c => k_is); (case z9_k => k_is)
      exact fun _ _ _ _ _ _ us hl => match us, hl with | [_, _], _ => rfl
    have hd_farthest_from : Nonempty (VP.Df (L2.KOf KX) mg "farthest_from" VP.s_farthest_from ["valley", "a"]) := by
      dsimp only [L2.KOf]
      refine' VP.df_mk KX G ?z10_a ?z10_l ?z10_c ?z10_k ?z10_b
      (case z10_a => k_is); (case z10_l => k_is); (case z10_c => k_is); (case z10_k => k_is)
      exact fun _ _ _ _ _ _ us hl => match us, hl with | [_, _], _ => rfl
    have hd_beside_by : Nonempty (VP.Df (L2.KOf KX) mg "beside_by" VP.s_beside_by ["valley", "needed", "v"]) := by
      dsimp only [L2.KOf]
      refine' VP.df_mk KX G ?z11_a ?z11_l ?z11_c ?z11_k ?z11_b
      (case z11_a => k_is); (case z11_l => k_is); (case z11_c => k_is); (case z11_k => k_is)
      exact fun _ _ _ _ _ _ us hl => match us, hl with | [_, _, _], _ => rfl
    have hd_trips_from : Nonempty (VP.Df (L2.KOf KX) mg "trips_from" VP.s_trips_from ["valley", "needed", "v", "skipped"]) := by
      dsimp only [L2.KOf]
      refine' VP.df_mk KX G ?z12_a ?z12_l ?z12_c ?z12_k ?z12_b
      (case z12_a => k_is); (case z12_l => k_is); (case z12_c => k_is); (case z12_k => k_is)
      exact fun _ _ _ _ _ _ us hl => match us, hl with | [_, _, _, _], _ => rfl
    have hd_round_from : Nonempty (VP.Df (L2.KOf KX) mg "round_from" VP.s_round_from ["valley", "a"]) := by
      dsimp only [L2.KOf]
      refine' VP.df_mk KX G ?z13_a ?z13_l ?z13_c ?z13_k ?z13_b
      (case z13_a => k_is); (case z13_l => k_is); (case z13_c => k_is); (case z13_k => k_is)
      exact fun _ _ _ _ _ _ us hl => match us, hl with | [_, _], _ => rfl
    have hd_round_length : Nonempty (VP.Df (L2.KOf KX) mg "round_length" VP.s_round_length ["valley", "a"]) := by
      dsimp only [L2.KOf]
      refine' VP.df_mk KX G ?z14_a ?z14_l ?z14_c ?z14_k ?z14_b
      (case z14_a => k_is); (case z14_l => k_is); (case z14_c => k_is); (case z14_k => k_is)
      exact fun _ _ _ _ _ _ us hl => match us, hl with | [_, _], _ => rfl
    have hd_way_from : Nonempty (VP.Df (L2.KOf KX) mg "way_from" VP.s_way_from ["valley", "a"]) := by
      dsimp only [L2.KOf]
      refine' VP.df_mk KX G ?z15_a ?z15_l ?z15_c ?z15_k ?z15_b
      (case z15_a => k_is); (case z15_l => k_is); (case z15_c => k_is); (case z15_k => k_is)
      exact fun _ _ _ _ _ _ us hl => match us, hl with | [_, _], _ => rfl
    have hd_way_length : Nonempty (VP.Df (L2.KOf KX) mg "way_length" VP.s_way_length ["valley", "a"]) := by
      dsimp only [L2.KOf]
      refine' VP.df_mk KX G ?z16_a ?z16_l ?z16_c ?z16_k ?z16_b
      (case z16_a => k_is); (case z16_l => k_is); (case z16_c => k_is); (case z16_k => k_is)
      exact fun _ _ _ _ _ _ us hl => match us, hl with | [_, _], _ => rfl
    have hd_road_fits : Nonempty (VP.Df (L2.KOf KX) mg "road_fits" VP.s_road_fits ["n"]) := by
      dsimp only [L2.KOf]
      refine' VP.df_mk KX G ?z17_a ?z17_l ?z17_c ?z17_k ?z17_b
      (case z17_a => k_is); (case z17_l => k_is); (case z17_c => k_is); (case z17_k => k_is)
      exact fun _ _ _ _ _ _ us hl => match us, hl with | [_], _ => rfl
    have hd_as_bits : Nonempty (VP.Df (L2.KOf KX) mg "as_bits" VP.s_as_bits ["villages"]) := by
      dsimp only [L2.KOf]
      refine' VP.df_mk KX G ?z18_a ?z18_l ?z18_c ?z18_k ?z18_b
      (case z18_a => k_is); (case z18_l => k_is); (case z18_c => k_is); (case z18_k => k_is)
      exact fun _ _ _ _ _ _ us hl => match us, hl with | [_], _ => rfl
    have hd_vr_start : Nonempty (VP.Df (L2.KOf KX) mg "vr_start" VP.s_vr_start ["valley"]) := by
      dsimp only [L2.KOf]
      refine' VP.df_mk KX G ?z19_a ?z19_l ?z19_c ?z19_k ?z19_b
      (case z19_a => k_is); (case z19_l => k_is); (case z19_c => k_is); (case z19_k => k_is)
      exact fun _ _ _ _ _ _ us hl => match us, hl with | [_], _ => rfl
    have hd_vr_village : Nonempty (VP.Df (L2.KOf KX) mg "vr_village" VP.s_vr_village ["valley", "up", "far"]) := by
      dsimp only [L2.KOf]
      refine' VP.df_mk KX G ?z20_a ?z20_l ?z20_c ?z20_k ?z20_b
      (case z20_a => k_is); (case z20_l => k_is); (case z20_c => k_is); (case z20_k => k_is)
      exact fun _ _ _ _ _ _ us hl => match us, hl with | [_, _, _], _ => rfl
    have hd_vr_road : Nonempty (VP.Df (L2.KOf KX) mg "vr_road" VP.s_vr_road ["valley", "v", "n"]) := by
      dsimp only [L2.KOf]
      refine' VP.df_mk KX G ?z21_a ?z21_l ?z21_c ?z21_k ?z21_b
      (case z21_a => k_is); (case z21_l => k_is); (case z21_c => k_is); (case z21_k => k_is)
      exact fun _ _ _ _ _ _ us hl => match us, hl with | [_, _, _], _ => rfl
    have hd_vr_call : Nonempty (VP.Df (L2.KOf KX) mg "vr_call" VP.s_vr_call ["valley", "v", "o"]) := by
      dsimp only [L2.KOf]
      refine' VP.df_mk KX G ?z22_a ?z22_l ?z22_c ?z22_k ?z22_b
      (case z22_a => k_is); (case z22_l => k_is); (case z22_c => k_is); (case z22_k => k_is)
      exact fun _ _ _ _ _ _ us hl => match us, hl with | [_, _, _], _ => rfl
    have hd_vr_clear : Nonempty (VP.Df (L2.KOf KX) mg "vr_clear" VP.s_vr_clear ["valley"]) := by
      dsimp only [L2.KOf]
      refine' VP.df_mk KX G ?z23_a ?z23_l ?z23_c ?z23_k ?z23_b
      (case z23_a => k_is); (case z23_l => k_is); (case z23_c => k_is); (case z23_k => k_is)
      exact fun _ _ _ _ _ _ us hl => match us, hl with | [_], _ => rfl
    have hd_vr_far : Nonempty (VP.Df (L2.KOf KX) mg "vr_far" VP.s_vr_far ["valley", "v", "w"]) := by
      dsimp only [L2.KOf]
      refine' VP.df_mk KX G ?z24_a ?z24_l ?z24_c ?z24_k ?z24_b
      (case z24_a => k_is); (case z24_l => k_is); (case z24_c => k_is); (case z24_k => k_is)
      exact fun _ _ _ _ _ _ us hl => match us, hl with | [_, _, _], _ => rfl
    have hd_vr_between : Nonempty (VP.Df (L2.KOf KX) mg "vr_between" VP.s_vr_between ["valley", "v", "w"]) := by
      dsimp only [L2.KOf]
      refine' VP.df_mk KX G ?z25_a ?z25_l ?z25_c ?z25_k ?z25_b
      (case z25_a => k_is); (case z25_l => k_is); (case z25_c => k_is); (case z25_k => k_is)
      exact fun _ _ _ _ _ _ us hl => match us, hl with | [_, _, _], _ => rfl
    have hd_vr_roads : Nonempty (VP.Df (L2.KOf KX) mg "vr_roads" VP.s_vr_roads ["valley", "a"]) := by
      dsimp only [L2.KOf]
      refine' VP.df_mk KX G ?z26_a ?z26_l ?z26_c ?z26_k ?z26_b
      (case z26_a => k_is); (case z26_l => k_is); (case z26_c => k_is); (case z26_k => k_is)
      exact fun _ _ _ _ _ _ us hl => match us, hl with | [_, _], _ => rfl
    have hd_vr_round : Nonempty (VP.Df (L2.KOf KX) mg "vr_round" VP.s_vr_round ["valley", "a"]) := by
      dsimp only [L2.KOf]
      refine' VP.df_mk KX G ?z27_a ?z27_l ?z27_c ?z27_k ?z27_b
      (case z27_a => k_is); (case z27_l => k_is); (case z27_c => k_is); (case z27_k => k_is)
      exact fun _ _ _ _ _ _ us hl => match us, hl with | [_, _], _ => rfl
    have hd_vr_once : Nonempty (VP.Df (L2.KOf KX) mg "vr_once" VP.s_vr_once ["valley", "a"]) := by
      dsimp only [L2.KOf]
      refine' VP.df_mk KX G ?z28_a ?z28_l ?z28_c ?z28_k ?z28_b
      (case z28_a => k_is); (case z28_l => k_is); (case z28_c => k_is); (case z28_k => k_is)
      exact fun _ _ _ _ _ _ us hl => match us, hl with | [_, _], _ => rfl
    have hd_told_at : Nonempty (VP.Df (L2.KOf KX) mg "told_at" VP.s_told_at ["valley", "passed", "k"]) := by
      dsimp only [L2.KOf]
      refine' VP.df_mk KX G ?z29_a ?z29_l ?z29_c ?z29_k ?z29_b
      (case z29_a => k_is); (case z29_l => k_is); (case z29_c => k_is); (case z29_k => k_is)
      exact fun _ _ _ _ _ _ us hl => match us, hl with | [_, _, _], _ => rfl
    have hd_vr_tour : Nonempty (VP.Df (L2.KOf KX) mg "vr_tour" VP.s_vr_tour ["valley", "a", "k"]) := by
      dsimp only [L2.KOf]
      refine' VP.df_mk KX G ?z30_a ?z30_l ?z30_c ?z30_k ?z30_b
      (case z30_a => k_is); (case z30_l => k_is); (case z30_c => k_is); (case z30_k => k_is)
      exact fun _ _ _ _ _ _ us hl => match us, hl with | [_, _, _], _ => rfl
    have hd_vr_way : Nonempty (VP.Df (L2.KOf KX) mg "vr_way" VP.s_vr_way ["valley", "a", "k"]) := by
      dsimp only [L2.KOf]
      refine' VP.df_mk KX G ?z31_a ?z31_l ?z31_c ?z31_k ?z31_b
      (case z31_a => k_is); (case z31_l => k_is); (case z31_c => k_is); (case z31_k => k_is)
      exact fun _ _ _ _ _ _ us hl => match us, hl with | [_, _, _], _ => rfl
    have hd_vr_when : Nonempty (VP.Df (L2.KOf KX) mg "vr_when" VP.s_vr_when ["valley", "a", "v"]) := by
      dsimp only [L2.KOf]
      refine' VP.df_mk KX G ?z32_a ?z32_l ?z32_c ?z32_k ?z32_b
      (case z32_a => k_is); (case z32_l => k_is); (case z32_c => k_is); (case z32_k => k_is)
      exact fun _ _ _ _ _ _ us hl => match us, hl with | [_, _, _], _ => rfl
    have hd_vr_last : Nonempty (VP.Df (L2.KOf KX) mg "vr_last" VP.s_vr_last ["valley", "a"]) := by
      dsimp only [L2.KOf]
      refine' VP.df_mk KX G ?z33_a ?z33_l ?z33_c ?z33_k ?z33_b
      (case z33_a => k_is); (case z33_l => k_is); (case z33_c => k_is); (case z33_k => k_is)
      exact fun _ _ _ _ _ _ us hl => match us, hl with | [_, _], _ => rfl
    have hd_vr_more : Nonempty (VP.Df (L2.KOf KX) mg "vr_more" VP.s_vr_more ["valley", "a", "v"]) := by
      dsimp only [L2.KOf]
      refine' VP.df_mk KX G ?z34_a ?z34_l ?z34_c ?z34_k ?z34_b
      (case z34_a => k_is); (case z34_l => k_is); (case z34_c => k_is); (case z34_k => k_is)
      exact fun _ _ _ _ _ _ us hl => match us, hl with | [_, _, _], _ => rfl
    have hd_vr_less : Nonempty (VP.Df (L2.KOf KX) mg "vr_less" VP.s_vr_less ["valley", "a", "v"]) := by
      dsimp only [L2.KOf]
      refine' VP.df_mk KX G ?z35_a ?z35_l ?z35_c ?z35_k ?z35_b
      (case z35_a => k_is); (case z35_l => k_is); (case z35_c => k_is); (case z35_k => k_is)
      exact fun _ _ _ _ _ _ us hl => match us, hl with | [_, _, _], _ => rfl
    have hd_vr_begin : Nonempty (VP.Df (L2.KOf KX) mg "vr_begin" VP.s_vr_begin ["valley"]) := by
      dsimp only [L2.KOf]
      refine' VP.df_mk KX G ?z36_a ?z36_l ?z36_c ?z36_k ?z36_b
      (case z36_a => k_is); (case z36_l => k_is); (case z36_c => k_is); (case z36_k => k_is)
      exact fun _ _ _ _ _ _ us hl => match us, hl with | [_], _ => rfl
    have hd_vr_passes : Nonempty (VP.Df (L2.KOf KX) mg "vr_passes" VP.s_vr_passes ["valley", "a", "w"]) := by
      dsimp only [L2.KOf]
      refine' VP.df_mk KX G ?z37_a ?z37_l ?z37_c ?z37_k ?z37_b
      (case z37_a => k_is); (case z37_l => k_is); (case z37_c => k_is); (case z37_k => k_is)
      exact fun _ _ _ _ _ _ us hl => match us, hl with | [_, _, _], _ => rfl
    have hd_vr_order : Nonempty (VP.Df (L2.KOf KX) mg "vr_order" VP.s_vr_order ["valley", "a", "villages"]) := by
      dsimp only [L2.KOf]
      refine' VP.df_mk KX G ?z38_a ?z38_l ?z38_c ?z38_k ?z38_b
      (case z38_a => k_is); (case z38_l => k_is); (case z38_c => k_is); (case z38_k => k_is)
      exact fun _ _ _ _ _ _ us hl => match us, hl with | [_, _, _], _ => rfl
    have hd_vr_look : Nonempty (VP.Df (L2.KOf KX) mg "vr_look" VP.s_vr_look ["valley", "v"]) := by
      dsimp only [L2.KOf]
      refine' VP.df_mk KX G ?z39_a ?z39_l ?z39_c ?z39_k ?z39_b
      (case z39_a => k_is); (case z39_l => k_is); (case z39_c => k_is); (case z39_k => k_is)
      exact fun _ _ _ _ _ _ us hl => match us, hl with | [_, _], _ => rfl
    have hd_vr_calls : Nonempty (VP.Df (L2.KOf KX) mg "vr_calls" VP.s_vr_calls ["valley"]) := by
      dsimp only [L2.KOf]
      refine' VP.df_mk KX G ?z40_a ?z40_l ?z40_c ?z40_k ?z40_b
      (case z40_a => k_is); (case z40_l => k_is); (case z40_c => k_is); (case z40_k => k_is)
      exact fun _ _ _ _ _ _ us hl => match us, hl with | [_], _ => rfl
    have hd_vr_sums : Nonempty (VP.Df (L2.KOf KX) mg "vr_sums" VP.s_vr_sums ["valley"]) := by
      dsimp only [L2.KOf]
      refine' VP.df_mk KX G ?z41_a ?z41_l ?z41_c ?z41_k ?z41_b
      (case z41_a => k_is); (case z41_l => k_is); (case z41_c => k_is); (case z41_k => k_is)
      exact fun _ _ _ _ _ _ us hl => match us, hl with | [_], _ => rfl
    have hd_vr_back : Nonempty (VP.Df (L2.KOf KX) mg "vr_back" VP.s_vr_back ["valley"]) := by
      dsimp only [L2.KOf]
      refine' VP.df_mk KX G ?z42_a ?z42_l ?z42_c ?z42_k ?z42_b
      (case z42_a => k_is); (case z42_l => k_is); (case z42_c => k_is); (case z42_k => k_is)
      exact fun _ _ _ _ _ _ us hl => match us, hl with | [_], _ => rfl
    have hd_vr_again : Nonempty (VP.Df (L2.KOf KX) mg "vr_again" VP.s_vr_again ["valley"]) := by
      dsimp only [L2.KOf]
      refine' VP.df_mk KX G ?z43_a ?z43_l ?z43_c ?z43_k ?z43_b
      (case z43_a => k_is); (case z43_l => k_is); (case z43_c => k_is); (case z43_k => k_is)
      exact fun _ _ _ _ _ _ us hl => match us, hl with | [_], _ => rfl
    have hd_vr_state : Nonempty (VP.Df (L2.KOf KX) mg "vr_state" VP.s_vr_state ["valley"]) := by
      dsimp only [L2.KOf]
      refine' VP.df_mk KX G ?z44_a ?z44_l ?z44_c ?z44_k ?z44_b
      (case z44_a => k_is); (case z44_l => k_is); (case z44_c => k_is); (case z44_k => k_is)
      exact fun _ _ _ _ _ _ us hl => match us, hl with | [_], _ => rfl
    have hd_answers : Nonempty (VP.Df (L2.KOf KX) mg "answers" VP.s_answers ["calls"]) := by
      dsimp only [L2.KOf]
      refine' VP.df_mk KX G ?z45_a ?z45_l ?z45_c ?z45_k ?z45_b
      (case z45_a => k_is); (case z45_l => k_is); (case z45_c => k_is); (case z45_k => k_is)
      exact fun _ _ _ _ _ _ us hl => match us, hl with | [_], _ => rfl
    have hc_MOST_TAKEN_BACK : ∃ t, mg "MOST_TAKEN_BACK" = some (Value.int (20) t) := by
      refine' VP.int_mk KX G ?z46_a
      (case z46_a => k_is)
    have hc_MOST_VILLAGES : ∃ t, mg "MOST_VILLAGES" = some (Value.int (14) t) := by
      refine' VP.int_mk KX G ?z47_a
      (case z47_a => k_is)
    have hc_LONGEST_ROAD : ∃ t, mg "LONGEST_ROAD" = some (Value.int (1000) t) := by
      refine' VP.int_mk KX G ?z48_a
      (case z48_a => k_is)
    have hc_MOST_IN_ORDER : ∃ t, mg "MOST_IN_ORDER" = some (Value.int (6) t) := by
      refine' VP.int_mk KX G ?z49_a
      (case z49_a => k_is)
    have hc_THERES_NONE : ∃ t, mg "THERES_NONE" = some (Value.int (-2) t) := by
      refine' VP.int_mk KX G ?z50_a
      (case z50_a => k_is)
    have hc_IT_IS_SO : ∃ t, mg "IT_IS_SO" = some (Value.int (-17) t) := by
      refine' VP.int_mk KX G ?z51_a
      (case z51_a => k_is)
    have hc_NOT_FIT : ∃ t, mg "NOT_FIT" = some (Value.int (-22) t) := by
      refine' VP.int_mk KX G ?z52_a
      (case z52_a => k_is)
    have hc_TOO_MANY : ∃ t, mg "TOO_MANY" = some (Value.int (-28) t) := by
      refine' VP.int_mk KX G ?z53_a
      (case z53_a => k_is)
    have hc_NOT_HERE : ∃ t, mg "NOT_HERE" = some (Value.int (-33) t) := by
      refine' VP.int_mk KX G ?z54_a
      (case z54_a => k_is)
    have he_WITH_NO_NUMBER : Nonempty (VP.Dc (L2.KOf KX) mg "WITH_NO_NUMBER" [(0, "vr_start"), (4, "vr_clear"), (16, "vr_begin"), (20, "vr_calls"), (21, "vr_sums"), (22, "vr_back"), (23, "vr_again"), (24, "vr_state")]) := by
      dsimp only [L2.KOf]
      refine' VP.dc_WITH_NO_NUMBER KX G ?z55_a ?z55_a0 ?z55_a1 ?z55_a2 ?z55_a3 ?z55_a4 ?z55_a5 ?z55_a6 ?z55_a7 ?z55_l ?z55_p ?z55_sy
      (case z55_a => k_is); (case z55_a0 => k_is); (case z55_a1 => k_is); (case z55_a2 => k_is); (case z55_a3 => k_is); (case z55_a4 => k_is); (case z55_a5 => k_is); (case z55_a6 => k_is); (case z55_a7 => k_is)
      (case z55_l => k_is)
      (case z55_p => rfl)
      (case z55_sy => rfl)
    have he_WITH_ONE_NUMBER : Nonempty (VP.Dc (L2.KOf KX) mg "WITH_ONE_NUMBER" [(7, "vr_roads"), (8, "vr_round"), (9, "vr_once"), (13, "vr_last"), (19, "vr_look")]) := by
      dsimp only [L2.KOf]
      refine' VP.dc_WITH_ONE_NUMBER KX G ?z56_a ?z56_a0 ?z56_a1 ?z56_a2 ?z56_a3 ?z56_a4 ?z56_l ?z56_p ?z56_sy
      (case z56_a => k_is); (case z56_a0 => k_is); (case z56_a1 => k_is); (case z56_a2 => k_is); (case z56_a3 => k_is); (case z56_a4 => k_is)
      (case z56_l => k_is)
      (case z56_p => rfl)
      (case z56_sy => rfl)
    have he_WITH_TWO_NUMBERS : Nonempty (VP.Dc (L2.KOf KX) mg "WITH_TWO_NUMBERS" [(1, "vr_village"), (2, "vr_road"), (3, "vr_call"), (5, "vr_far"), (6, "vr_between"), (10, "vr_tour"), (11, "vr_way"), (12, "vr_when"), (14, "vr_more"), (15, "vr_less"), (17, "vr_passes")]) := by
      dsimp only [L2.KOf]
      refine' VP.dc_WITH_TWO_NUMBERS KX G ?z57_a ?z57_a0 ?z57_a1 ?z57_a2 ?z57_a3 ?z57_a4 ?z57_a5 ?z57_a6 ?z57_a7 ?z57_a8 ?z57_a9 ?z57_a10 ?z57_l ?z57_p ?z57_sy
      (case z57_a => k_is); (case z57_a0 => k_is); (case z57_a1 => k_is); (case z57_a2 => k_is); (case z57_a3 => k_is); (case z57_a4 => k_is); (case z57_a5 => k_is); (case z57_a6 => k_is); (case z57_a7 => k_is); (case z57_a8 => k_is); (case z57_a9 => k_is); (case z57_a10 => k_is)
      (case z57_l => k_is)
      (case z57_p => rfl)
      (case z57_sy => rfl)
    have he_WITH_A_NUMBER_AND_A_ROW : Nonempty (VP.Dc (L2.KOf KX) mg "WITH_A_NUMBER_AND_A_ROW" [(18, "vr_order")]) := by
      dsimp only [L2.KOf]
      refine' VP.dc_WITH_A_NUMBER_AND_A_ROW KX G ?z58_a ?z58_a0 ?z58_l ?z58_p ?z58_sy
      (case z58_a => k_is); (case z58_a0 => k_is)
      (case z58_l => k_is)
      (case z58_p => rfl)
      (case z58_sy => rfl)
    have hn_len : mg "len" = none := by
      refine' PySem.W.mg_none_of KX G ?z59_z
      (case z59_z => k_is)
    have hn_list : mg "list" = none := by
      refine' PySem.W.mg_none_of KX G ?z60_z
      (case z60_z => k_is)
    have hn_max : mg "max" = none := by
      refine' PySem.W.mg_none_of KX G ?z61_z
      (case z61_z => k_is)
    have hn_min : mg "min" = none := by
      refine' PySem.W.mg_none_of KX G ?z62_z
      (case z62_z => k_is)
    have hn_range : mg "range" = none := by
      refine' PySem.W.mg_none_of KX G ?z63_z
      (case z63_z => k_is)
    have hn_set : mg "set" = none := by
      refine' PySem.W.mg_none_of KX G ?z64_z
      (case z64_z => k_is)
    have hn_sorted : mg "sorted" = none := by
      refine' PySem.W.mg_none_of KX G ?z65_z
      (case z65_z => k_is)
    have hn_sum : mg "sum" = none := by
      refine' PySem.W.mg_none_of KX G ?z66_z
      (case z66_z => k_is)
    obtain ⟨c_Valley⟩ := hk_Valley
    obtain ⟨d_way_between⟩ := hd_way_between
    obtain ⟨d_roads_along⟩ := hd_roads_along
    obtain ⟨d_length_of⟩ := hd_length_of
    obtain ⟨d_length_along⟩ := hd_length_along
    obtain ⟨d_far_between⟩ := hd_far_between
    obtain ⟨d_far_by_stops⟩ := hd_far_by_stops
    obtain ⟨d_called_villages⟩ := hd_called_villages
    obtain ⟨d_roads_needed⟩ := hd_roads_needed
    obtain ⟨d_farthest_from⟩ := hd_farthest_from
    obtain ⟨d_beside_by⟩ := hd_beside_by
    obtain ⟨d_trips_from⟩ := hd_trips_from
    obtain ⟨d_round_from⟩ := hd_round_from
    obtain ⟨d_round_length⟩ := hd_round_length
    obtain ⟨d_way_from⟩ := hd_way_from
    obtain ⟨d_way_length⟩ := hd_way_length
    obtain ⟨d_road_fits⟩ := hd_road_fits
    obtain ⟨d_as_bits⟩ := hd_as_bits
    obtain ⟨d_vr_start⟩ := hd_vr_start
    obtain ⟨d_vr_village⟩ := hd_vr_village
    obtain ⟨d_vr_road⟩ := hd_vr_road
    obtain ⟨d_vr_call⟩ := hd_vr_call
    obtain ⟨d_vr_clear⟩ := hd_vr_clear
    obtain ⟨d_vr_far⟩ := hd_vr_far
    obtain ⟨d_vr_between⟩ := hd_vr_between
    obtain ⟨d_vr_roads⟩ := hd_vr_roads
    obtain ⟨d_vr_round⟩ := hd_vr_round
    obtain ⟨d_vr_once⟩ := hd_vr_once
    obtain ⟨d_told_at⟩ := hd_told_at
    obtain ⟨d_vr_tour⟩ := hd_vr_tour
    obtain ⟨d_vr_way⟩ := hd_vr_way
    obtain ⟨d_vr_when⟩ := hd_vr_when
    obtain ⟨d_vr_last⟩ := hd_vr_last
    obtain ⟨d_vr_more⟩ := hd_vr_more
    obtain ⟨d_vr_less⟩ := hd_vr_less
    obtain ⟨d_vr_begin⟩ := hd_vr_begin
    obtain ⟨d_vr_passes⟩ := hd_vr_passes
    obtain ⟨d_vr_order⟩ := hd_vr_order
    obtain ⟨d_vr_look⟩ := hd_vr_look
    obtain ⟨d_vr_calls⟩ := hd_vr_calls
    obtain ⟨d_vr_sums⟩ := hd_vr_sums
    obtain ⟨d_vr_back⟩ := hd_vr_back
    obtain ⟨d_vr_again⟩ := hd_vr_again
    obtain ⟨d_vr_state⟩ := hd_vr_state
    obtain ⟨d_answers⟩ := hd_answers
    obtain ⟨e_WITH_NO_NUMBER⟩ := he_WITH_NO_NUMBER
    obtain ⟨e_WITH_ONE_NUMBER⟩ := he_WITH_ONE_NUMBER
    obtain ⟨e_WITH_TWO_NUMBERS⟩ := he_WITH_TWO_NUMBERS
    obtain ⟨e_WITH_A_NUMBER_AND_A_ROW⟩ := he_WITH_A_NUMBER_AND_A_ROW
    exact VA.fin (K := L2.KOf KX) { C := c_Valley.C, cl := c_Valley.cl, mC := c_Valley.mC, n_ups := c_Valley.n_ups, n_lengths := c_Valley.n_lengths, n_called := c_Valley.n_called, n_earlier := c_Valley.n_earlier, n_later := c_Valley.n_later, init := c_Valley.init, start_anew := c_Valley.start_anew, size := c_Valley.size, has := c_Valley.has, rows := c_Valley.rows, set_rows := c_Valley.set_rows, with_call := c_Valley.with_call, keep_rows := c_Valley.keep_rows, add_village := c_Valley.add_village, set_road := c_Valley.set_road, set_call := c_Valley.set_call, clear_calls := c_Valley.clear_calls, take_back := c_Valley.take_back, do_again := c_Valley.do_again, mkC := c_Valley.mkC, way_between := d_way_between, roads_along := d_roads_along, length_of := d_length_of, length_along := d_length_along, far_between := d_far_between, far_by_stops := d_far_by_stops, called_villages := d_called_villages, roads_needed := d_roads_needed, farthest_from := d_farthest_from, beside_by := d_beside_by, trips_from := d_trips_from, round_from := d_round_from, round_length := d_round_length, way_from := d_way_from, way_length := d_way_length, road_fits := d_road_fits, as_bits := d_as_bits, vr_start := d_vr_start, vr_village := d_vr_village, vr_road := d_vr_road, vr_call := d_vr_call, vr_clear := d_vr_clear, vr_far := d_vr_far, vr_between := d_vr_between, vr_roads := d_vr_roads, vr_round := d_vr_round, vr_once := d_vr_once, told_at := d_told_at, vr_tour := d_vr_tour, vr_way := d_vr_way, vr_when := d_vr_when, vr_last := d_vr_last, vr_more := d_vr_more, vr_less := d_vr_less, vr_begin := d_vr_begin, vr_passes := d_vr_passes, vr_order := d_vr_order, vr_look := d_vr_look, vr_calls := d_vr_calls, vr_sums := d_vr_sums, vr_back := d_vr_back, vr_again := d_vr_again, vr_state := d_vr_state, answers := d_answers, c_MOST_TAKEN_BACK := hc_MOST_TAKEN_BACK, c_MOST_VILLAGES := hc_MOST_VILLAGES, c_LONGEST_ROAD := hc_LONGEST_ROAD, c_MOST_IN_ORDER := hc_MOST_IN_ORDER, c_THERES_NONE := hc_THERES_NONE, c_IT_IS_SO := hc_IT_IS_SO, c_NOT_FIT := hc_NOT_FIT, c_TOO_MANY := hc_TOO_MANY, c_NOT_HERE := hc_NOT_HERE, d_WITH_NO_NUMBER := e_WITH_NO_NUMBER, d_WITH_ONE_NUMBER := e_WITH_ONE_NUMBER, d_WITH_TWO_NUMBERS := e_WITH_TWO_NUMBERS, d_WITH_A_NUMBER_AND_A_ROW := e_WITH_A_NUMBER_AND_A_ROW, len := hn_len, list := hn_list, max := hn_max, min := hn_min, range := hn_range, set := hn_set, sorted := hn_sorted, sum := hn_sum } hmg
  case S =>
    intro K H xs a hO hwi hask hx
    cases hx with
    | cons h1 h2 =>
      cases h2
      cases h1 with
      | lst hs ha =>
        have e := L2.ints_dw a.1 _ ha
        subst e
        have q : ((Codec.inLen 0 12000 a.1 && a.1.all (Codec.inInt 0 4294967295)) && true) = true := hwi
        rw [Bool.and_eq_true, Bool.and_eq_true] at q
        obtain ⟨nl, en⟩ := VA.req q.1.2
        have hask : PyKm460.answers_asked a.1 = true := hask
        rw [en] at hask hs
        obtain ⟨cs, k1, k2, k3, k4⟩ := VD.asked_of hask
        refine ⟨_, nl, cs, rfl, hs, k1, k4, fun r H' S hr0 hr' => ?z66__⟩
        show L2.Dw K H' (.ref r) (PySem.Challenge.rw_valleyrounds_s01_answers.ret.enc (PyKm460.answers a.1))
        rw [en, k3]
        exact .lst (L2.SqL.of hr') (L2.dw_ints _)
end
#print axioms PySem.Challenge.cw_valleyrounds_s01_answers_holds
