import PyProof.Rows.All
import Wide.All
import OpenK.AllK
import Wide.FinOn
import PyProof.EqAt
import PyProof.EqKinds
import PyProof.TupleCall
import KE.BitLaws
import Open.SpecLaws
import KE.OsHead
import KE.OsGo
import PySem.Challenge.RW_lacedpages_s01_answers
section
set_option Elab.async false
set_option linter.all false
set_option maxRecDepth 100000
namespace L2
open PySem PySem.Spec PyProof.Rows
abbrev Key := Sum Int Str
def keyIs : Key → Value → Bool
  | .inl k, v => Value.isInt k v
  | .inr x, v => Value.isStrOf x v
def keyH (w : World) : Key → Int
  | .inl k => hashInt k
  | .inr x => hashStr w x
theorem keyIs_shape : ∀ {k : Key} {v : Value}, keyIs k v = true → (∃ i t, k = Sum.inl i ∧ v = Value.int i t) ∨ (∃ x t, k = Sum.inr x ∧ v = Value.str x t)
  | .inl i, v, h => by
    obtain ⟨t, e⟩ := Value.isInt_shape (k := i) (v := v) h
    exact .inl ⟨i, t, rfl, e⟩
  | .inr x, v, h => by
    obtain ⟨t, e⟩ := Value.isStrOf_shape (x := x) (v := v) h
    exact .inr ⟨x, t, rfl, e⟩
theorem key_ll (a b : Int) : decide ((Sum.inl a : Key) = Sum.inl b) = (a == b) := by
  by_cases e : a = b
  · subst e; simp
  · have h : ¬ (Sum.inl a : Key) = Sum.inl b := fun q => e (Sum.inl.inj q)
    rw [decide_eq_false h]
    exact (beq_eq_false_iff_ne.mpr e).symm
theorem key_rr (a b : Str) : decide ((Sum.inr a : Key) = Sum.inr b) = decide (a = b) := by
  by_cases e : a = b
  · subst e; simp
  · have h : ¬ (Sum.inr a : Key) = Sum.inr b := fun q => e (Sum.inr.inj q)
    rw [decide_eq_false h, decide_eq_false e]
theorem key_lr (a : Int) (b : Str) : decide ((Sum.inl a : Key) = Sum.inr b) = false := decide_eq_false (fun q => nomatch q)
theorem key_rl (a : Str) (b : Int) : decide ((Sum.inr a : Key) = Sum.inl b) = false := decide_eq_false (fun q => nomatch q)
def mixKind (prog : Program) (w : World) : PySem.KeyKind prog w Key where
  is := keyIs
  hash := keyH w
  inj := fun v a b ha hb => by
    rcases keyIs_shape ha with ⟨i, t, rfl, rfl⟩ | ⟨x, t, rfl, rfl⟩
    · rcases keyIs_shape hb with ⟨j, u, rfl, e⟩ | ⟨y, u, rfl, e⟩
      · injection e with e1 _; rw [e1]
      · exact nomatch e
    · rcases keyIs_shape hb with ⟨j, u, rfl, e⟩ | ⟨y, u, rfl, e⟩
      · exact nomatch e
      · injection e with e1 _; rw [e1]
  byValue := fun k v h => by
    rcases keyIs_shape h with ⟨i, t, rfl, rfl⟩ | ⟨x, t, rfl, rfl⟩ <;> rfl
  pyHash := fun hv h => by
    rcases keyIs_shape hv with ⟨i, t, rfl, rfl⟩ | ⟨x, t, rfl, rfl⟩
    · exact wpAny_pyHash_int h
    · exact wpAny_pyHash_str h
  eqBool := fun hu hv h => by
    rcases keyIs_shape hu with ⟨i, t, rfl, rfl⟩ | ⟨x, t, rfl, rfl⟩
    · rcases keyIs_shape hv with ⟨j, u, rfl, rfl⟩ | ⟨y, u, rfl, rfl⟩
      · rw [key_ll] at h; exact wpAny_eqBool_int h
      · rw [key_lr] at h; exact SeqAt.EqAt.int_str i t y u _ _ _ _ h
    · rcases keyIs_shape hv with ⟨j, u, rfl, rfl⟩ | ⟨y, u, rfl, rfl⟩
      · rw [key_rl] at h; exact SeqAt.EqAt.str_int x t j u _ _ _ _ h
      · rw [key_rr] at h; exact wpAny_eqBool_str h
  «strs» := fun k x t v h => by
    rcases keyIs_shape h with ⟨i, u, rfl, e⟩ | ⟨y, u, rfl, e⟩
    · exact nomatch e
    · injection e with e1 _
      subst e1
      cases v <;> rfl
end L2
namespace L2
open PySem PySem.Spec PyProof.Rows
inductive V where
  | non | bl (b : Bool) | int (i : Int) | str (x : Str) | byt (b : Array UInt8) | flt (b : UInt64) | ref (a : Addr) | ty (n : String)
  deriving DecidableEq
def RelV : V → Value → Prop
  | .non, u => u = Value.none
  | .bl b, u => u = Value.bool b
  | .int i, u => ∃ t, u = Value.int i t
  | .str x, u => ∃ t, u = Value.str x t
  | .byt b, u => ∃ t, u = Value.bytes b t
  | .flt b, u => ∃ t, u = Value.float b t
  | .ref a, u => u = Value.ref a
  | .ty n, u => u = Value.type n
abbrev Vals : List V → List Value → Prop := Paired RelV
theorem Vals.length {xs : List V} {us : List Value} (r : Vals xs us) : xs.length = us.length := Paired.length r
theorem Vals.get : ∀ {xs : List V} {us : List Value} {i : Nat} {x : V}, Vals xs us → xs[i]? = some x → ∃ u, us[i]? = some u ∧ RelV x u
  | _, _, _, _, .nil, e => by simp at e
  | _, _, 0, _, .cons r _, e => by simp at e; subst e; exact ⟨_, rfl, r⟩
  | _, _, i + 1, x, .cons _ t, e => by
    obtain ⟨u, h1, h2⟩ := Vals.get (i := i) (x := x) t (by simpa using e)
    exact ⟨u, by simpa using h1, h2⟩
theorem Vals.set {x : V} {u : Value} (r : RelV x u) : ∀ {xs : List V} {us : List Value} (i : Nat), Vals xs us → Vals (xs.set i x) (us.set i u)
  | _, _, _, .nil => .nil
  | _, _, 0, .cons _ t => .cons r t
  | _, _, i + 1, .cons q t => .cons q (Vals.set r i t)
theorem Vals.append : ∀ {xs ys : List V} {us ws : List Value}, Vals xs us → Vals ys ws → Vals (xs ++ ys) (us ++ ws)
  | _, _, _, _, .nil, s => s
  | _, _, _, _, .cons r t, s => .cons r (Vals.append t s)
theorem Vals.take : ∀ {xs : List V} {us : List Value} (n : Nat), Vals xs us → Vals (xs.take n) (us.take n)
  | _, _, 0, _ => .nil
  | _, _, _ + 1, .nil => .nil
  | _, _, n + 1, .cons r t => .cons r (Vals.take n t)
theorem Vals.drop : ∀ {xs : List V} {us : List Value} (n : Nat), Vals xs us → Vals (xs.drop n) (us.drop n)
  | _, _, 0, r => r
  | _, _, _ + 1, .nil => .nil
  | _, _, n + 1, .cons _ t => Vals.drop n t
def RelO : Option V → Option Value → Prop
  | some v, some u => RelV v u
  | none, none => True
  | _, _ => False
def KV {κ : Type} : List (κ × V) → List (κ × Value) → Prop := Paired fun (p : κ × V) (q : κ × Value) => p.1 = q.1 ∧ RelV p.2 q.2
def kV : Key → V
  | .inl i => .int i
  | .inr x => .str x
inductive HO where
  /-- a list -/
  | lst (xs : List V)
  /-- a tuple (never changes) -/
  | tup (xs : List V)
  /-- a dict whose keys are ints and texts; one whose keys are tuples of ints and texts (the empty one is both) -/
  | dK (kvs : List (Key × V)) | dT (kvs : List (List Key × V))
  /-- a set of ints: its members, its size -/
  | set (S : Int → Bool) (n : Nat)
  /-- an instance of the class at C, its dict at dx, its attributes -/
  | ins (C dx : Addr) (fs : List (Str × V))
  /-- the dict of the instance at x -/
  | own (x : Addr)
  /-- the dict of an exception -/
  | xd (fs : List (Str × V))
  /-- a bound method, f of x -/
  | met (f x : Addr)
  /-- a range object lo, lo + 1, .. below hi -/
  | rng (lo hi : Int)
  /-- a thing that is known to the object (the script; a dict while a loop walks it): read, never written while it is so -/
  | frz (o : Obj) (u : HO)
  /-- a code object's table -/
  | tbl (ps : Array Value)
  /-- any other thing, by what is true of its one object (a def of one's own: SetO a S n := HO.ext fun h => ..) -/
  | ext (φ : Heap → Prop)
abbrev Hp := Addr → Option HO
def upd (H : Hp) (a : Addr) (o : HO) : Hp := fun b => if b = a then some o else H b
theorem upd_same {H : Hp} {a : Addr} {o : HO} : upd H a o a = some o := by unfold upd; rw [if_pos rfl]
theorem upd_ne {H : Hp} {a b : Addr} {o : HO} (h : b ≠ a) : upd H a o b = H b := by unfold upd; rw [if_neg h]
theorem upd_upd {H : Hp} {a : Addr} {o u : HO} : upd (upd H a o) a u = upd H a u := by
  funext b; unfold upd; split <;> rfl
theorem ne_of {H : Hp} {a b : Addr} {o u : HO} (h : H a = some o) (h' : H b = some u) (d : o ≠ u) : a ≠ b := by
  intro e; subst e; rw [h] at h'; exact d (Option.some.inj h')
theorem ne_of_none {H : Hp} {a b : Addr} {o : HO} (h : H a = some o) (h' : H b = none) : a ≠ b := by
  intro e; subst e; rw [h] at h'; cases h'
section
variable (P : Program) (w : World)
def ObjOk (H : Hp) (h : Heap) (a : Addr) : HO → Prop
  | .lst xs => xs.length ≤ sizeLine ∧ ∃ (its : List Value) (n : Nat), Vals xs its ∧ h.get? a = some { cls := .type "list", data := .seq its.toArray n }
  | .tup xs => xs.length ≤ sizeLine ∧ ∃ its : List Value, Vals xs its ∧ IsTup h a its.toArray
  | .dK kvs => kvs.length ≤ sizeLine ∧ (a == sysModules) = false ∧ ∃ vs, KV kvs vs ∧ h.DictOf (mixKind P w) a vs
  | .dT kvs => kvs.length ≤ sizeLine ∧ (a == sysModules) = false ∧ ∃ xs : List (List Key × Addr × Value),
      Paired (fun (p : List Key × V) (q : List Key × Addr × Value) => p.1 = q.1 ∧ H q.2.1 = some (.tup (p.1.map kV)) ∧ RelV p.2 q.2.2) kvs xs ∧
      ∃ o es ep, h.get? a = some o ∧ o.ExactDict ∧ o.data = .dict es ep ∧ es.toList = xs.map (entryOfKey (tupleKind (mixKind P w))) ∧ (xs.map (·.1)).Nodup
  | .set S n => h.SetOf (intKind P w) a S n
  | .ins C dx fs => H dx = some (.own a) ∧ fs.length ≤ 1000 ∧ dx ≠ a ∧ h.get? a = some (PySem.W.instObj C dx) ∧
      ∃ mA, h.Ns1 dx mA ∧ (∀ f, RelO (fs.lookup f) (mA f)) ∧ PySem.Within mA (fs.map (·.1))
  | .own _ => ∃ o, h.get? a = some o
  | .xd fs => ∃ mA, h.Ns1 a mA ∧ ∀ f, RelO (fs.lookup f) (mA f)
  | .rng lo hi => ∃ t u v, h.get? a = some { cls := .type "range", data := .fields #[.int lo t, .int hi u, .int 1 v] }
  | .frz o u => h.get? a = some o ∧ ObjOk H h a u
  | .tbl ps => h.get? a = some { cls := .none, data := .fields ps }
  | .met f x => h.get? a = some (PySem.W.methodObj (.ref f) (.ref x))
  | .ext φ => φ h ∧ (∃ o, h.get? a = some o) ∧ ∀ h1 h2 : Heap, φ h1 → (∀ o, h1.get? a = some o → h2.get? a = some o) → φ h2
def HOk (H : Hp) (h : Heap) : Prop := ∀ a o, H a = some o → ObjOk P w H h a o
end
section
variable {P : Program} {w : World} {H H' : Hp} {h h' : Heap} {a : Addr} {o : HO}
theorem ObjOk.lt (x : ObjOk P w H h a o) : a < h.objs.size := by
  cases o with
  | lst xs => obtain ⟨_, _, _, _, e⟩ := x; exact Heap.lt_size e
  | tup xs => obtain ⟨_, _, _, p⟩ := x; exact p.lt
  | dK kvs => obtain ⟨_, _, _, _, o, _, _, e, _⟩ := x; exact Heap.lt_size e
  | dT kvs => obtain ⟨_, _, _, _, o, _, _, e, _⟩ := x; exact Heap.lt_size e
  | set S n => obtain ⟨o, _, _, _, e, _⟩ := x; exact Heap.lt_size e
  | ins C dx fs => obtain ⟨_, _, _, e, _⟩ := x; exact Heap.lt_size e
  | own y => obtain ⟨_, e⟩ := x; exact Heap.lt_size e
  | xd fs => obtain ⟨_, ⟨_, _, _, e, _⟩, _⟩ := x; exact Heap.lt_size e
  | rng lo hi => obtain ⟨_, _, _, e⟩ := x; exact Heap.lt_size e
  | frz ob u => obtain ⟨e, _⟩ := x; exact Heap.lt_size e
  | tbl ps => exact Heap.lt_size (show h.get? a = some _ from x)
  | met f y => exact Heap.lt_size (show h.get? a = some _ from x)
  | ext φ => obtain ⟨_, ⟨_, e⟩, _⟩ := x; exact Heap.lt_size e
theorem Paired.mapP {α β : Type} {F G : α → β → Prop} : ∀ {l₁ : List α} {l₂ : List β}, Paired F l₁ l₂ → (∀ a b, F a b → G a b) → Paired G l₁ l₂
  | _, _, .nil, _ => .nil
  | _, _, .cons r t, f => .cons (f _ _ r) (Paired.mapP t f)
theorem ObjOk.stay (x : ObjOk P w H h a o) (k : ∀ b u, (b = a ∨ H b = some (.own a)) → h.get? b = some u → h'.get? b = some u)
    (ho : ∀ b, H b = some (.own a) → H' b = some (.own a)) (ht : ∀ b xs, H b = some (.tup xs) → H' b = some (.tup xs)) : ObjOk P w H' h' a o := by
  induction o with
  | lst xs => obtain ⟨z, its, n, r, e⟩ := x; exact ⟨z, its, n, r, k _ _ (.inl rfl) e⟩
  | tup xs => obtain ⟨z, its, r, ob, e, c⟩ := x; exact ⟨z, its, r, ob, k _ _ (.inl rfl) e, c⟩
  | dK kvs => obtain ⟨z, y, vs, r, ob, es, ep, e, c⟩ := x; exact ⟨z, y, vs, r, ob, es, ep, k _ _ (.inl rfl) e, c⟩
  | dT kvs =>
    obtain ⟨z, y, xs, r, ob, es, ep, e, c⟩ := x
    exact ⟨z, y, xs, Paired.mapP r fun p q z => ⟨z.1, ht _ _ z.2.1, z.2.2⟩, ob, es, ep, k _ _ (.inl rfl) e, c⟩
  | set S n => obtain ⟨ob, es, ep, t, e, c⟩ := x; exact ⟨ob, es, ep, t, k _ _ (.inl rfl) e, c⟩
  | ins C dx fs =>
    obtain ⟨d, z, ne, e, mA, ⟨od, es, ep, e2, c⟩, r⟩ := x
    exact ⟨ho _ d, z, ne, k _ _ (.inl rfl) e, mA, ⟨od, es, ep, k _ _ (.inr d) e2, c⟩, r⟩
  | own y => obtain ⟨ob, e⟩ := x; exact ⟨ob, k _ _ (.inl rfl) e⟩
  | xd fs => obtain ⟨mA, ⟨od, es, ep, e, c⟩, r⟩ := x; exact ⟨mA, ⟨od, es, ep, k _ _ (.inl rfl) e, c⟩, r⟩
  | rng lo hi => obtain ⟨t, u, v, e⟩ := x; exact ⟨t, u, v, k _ _ (.inl rfl) e⟩
  | frz ob u ih => obtain ⟨e, q⟩ := x; exact ⟨k _ _ (.inl rfl) e, ih q⟩
  | tbl ps =>
    have e : h.get? a = some { cls := .none, data := .fields ps } := x
    show h'.get? a = some { cls := .none, data := .fields ps }
    exact k a _ (.inl rfl) e
  | met f y =>
    have e : h.get? a = some (PySem.W.methodObj (.ref f) (.ref y)) := x
    show h'.get? a = some (PySem.W.methodObj (.ref f) (.ref y))
    exact k a _ (.inl rfl) e
  | ext φ => obtain ⟨p, ⟨o, e⟩, st⟩ := x; exact ⟨st _ _ p fun o q => k _ _ (.inl rfl) q, ⟨o, k _ _ (.inl rfl) e⟩, st⟩
theorem HOk.lt (x : HOk P w H h) (e : H a = some o) : a < h.objs.size := (x a o e).lt
theorem HOk.fresh (x : HOk P w H h) (e : h.objs.size ≤ a) : H a = none := by
  cases q : H a with
  | none => rfl
  | some u => exact absurd (Nat.lt_of_lt_of_le (x.lt q) e) (Nat.lt_irrefl _)
theorem HOk.kept (x : HOk P w H h) (k : ∀ b u, h.get? b = some u → h'.get? b = some u) : HOk P w H h' := fun a o e =>
  (x a o e).stay (fun b u _ q => k b u q) (fun _ q => q) fun _ _ q => q
theorem HOk.laid (x : HOk P w H h) (k : ∀ b u, h.get? b = some u → h'.get? b = some u) (hp : h.objs.size ≤ a) (new : ObjOk P w (upd H a o) h' a o) : HOk P w (upd H a o) h' := fun b u e => by
  have hn := x.fresh hp
  by_cases hb : b = a
  · subst hb; rw [upd_same] at e; cases e; exact new
  · rw [upd_ne hb] at e
    exact (x b u e).stay (fun c v _ q => k c v q) (fun c q => by rw [upd_ne (ne_of_none q hn)]; exact q) fun c xs q => by rw [upd_ne (ne_of_none q hn)]; exact q
end
def Rd (H : Hp) (a : Addr) (u : HO) : Prop := H a = some u ∨ ∃ o, H a = some (.frz o u)
theorem Rd.ok {P : Program} {w : World} {H : Hp} {h : Heap} {a : Addr} {u : HO} (r : Rd H a u) (x : HOk P w H h) : ObjOk P w H h a u := by
  rcases r with r | ⟨o, r⟩
  · exact x a u r
  · obtain ⟨_, q⟩ := x a _ r
    exact q
def Mut : Option HO → Prop
  | some (.lst _) => True
  | some (.dK _) => True
  | some (.dT _) => True
  | some (.set _ _) => True
  | some (.ins _ _ _) => True
  | some (.ext _) => True
  | _ => False
section
variable {P : Program} {w : World} {H : Hp} {h h' : Heap} {x e : Addr} {o' : HO}
theorem HOk.write (ok : HOk P w H h) (mu : Mut (H x)) (he : e = x ∨ H e = some (.own x)) (k : ∀ b u, b ≠ e → h.get? b = some u → h'.get? b = some u) (heo : ∃ u, h'.get? e = some u)
    (new : ObjOk P w (upd H x o') h' x o') : HOk P w (upd H x o') h' := fun b u q => by
  have nown : ∀ c y, H c = some (.own y) → c ≠ x := fun c y r z => by subst z; rw [r] at mu; exact mu
  have ntup : ∀ c xs, H c = some (.tup xs) → c ≠ x := fun c xs r z => by subst z; rw [r] at mu; exact mu
  by_cases hb : b = x
  · subst hb; rw [upd_same] at q; cases q; exact new
  · rw [upd_ne hb] at q
    by_cases hbe : b = e
    · have q' : H b = some (.own x) := by
        rcases he with z | z
        · exact absurd (hbe.trans z) hb
        · rw [hbe]; exact z
      rw [q] at q'; cases q'
      obtain ⟨v, hv⟩ := heo
      exact ⟨v, by rw [hbe]; exact hv⟩
    · refine (ok b u q).stay (fun c v hc r => k c v ?_ r) (fun c r => by rw [upd_ne (nown c b r)]; exact r) fun c xs r => by rw [upd_ne (ntup c xs r)]; exact r
      rcases hc with rfl | hc
      · exact hbe
      · rintro rfl
        rcases he with z | z
        · exact nown c b hc z
        · rw [hc] at z; cases z; exact hb rfl
end
structure Un (fs ex : List Addr) (H H' : Hp) (h h' : Heap) : Prop where
  keep : ∀ b o, h.get? b = some o → H b = none → b ∉ fs → b ∉ ex → h'.get? b = some o
  slot : ∀ b o, h.get? b = some o → H b = none → b ∈ fs → b ∉ ex → ∃ sl, h'.get? b = some { o with slots := sl }
  free : ∀ b o, h.get? b = some o → H b = none → b ∉ ex → H' b = none
  there : ∀ b o, h.get? b = some o → b ∉ ex → ∃ o', h'.get? b = some o'
  tups : ∀ b xs, H b = some (.tup xs) → H' b = some (.tup xs)
  frzs : ∀ b o u, H b = some (.frz o u) → H' b = some (.frz o u)
  tbls : ∀ b ps, H b = some (.tbl ps) → ∃ more, H' b = some (.tbl (ps ++ more))
section
variable {fs fs' ex ex' : List Addr} {H H1 H2 : Hp} {h h1 h2 h' : Heap} {a x e : Addr} {o : HO}
theorem Un.any (u : Un fs ex H H1 h h1) {b : Addr} {ob : Obj} (q : h.get? b = some ob) (n : H b = none) (hx : b ∉ ex) : ∃ sl, h1.get? b = some { ob with slots := sl } := by
  by_cases hb : b ∈ fs
  · exact u.slot b ob q n hb hx
  · exact ⟨ob.slots, u.keep b ob q n hb hx⟩
theorem Un.kept (k : ∀ b u, h.get? b = some u → h'.get? b = some u) : Un fs ex H H h h' :=
  ⟨fun b ob q _ _ _ => k b ob q, fun b ob q _ _ _ => ⟨ob.slots, k b ob q⟩, fun _ _ _ n _ => n, fun b ob q _ => ⟨ob, k b ob q⟩, fun _ _ q => q, fun _ _ _ q => q, fun _ ps q => ⟨#[], by rw [q]; simp⟩⟩
theorem Un.refl : Un fs ex H H h h := Un.kept fun _ _ q => q
theorem Un.laid (k : ∀ b u, h.get? b = some u → h'.get? b = some u) (hp : h.objs.size ≤ a) (hn : H a = none) : Un fs ex H (upd H a o) h h' where
  keep := fun b u q _ _ _ => k b u q
  slot := fun b u q _ _ _ => ⟨u.slots, k b u q⟩
  free := fun b u q n _ => by rw [upd_ne (Nat.ne_of_lt (Nat.lt_of_lt_of_le (Heap.lt_size q) hp))]; exact n
  there := fun b u q _ => ⟨u, k b u q⟩
  tups := fun b xs q => by rw [upd_ne (ne_of_none q hn)]; exact q
  frzs := fun b u xs q => by rw [upd_ne (ne_of_none q hn)]; exact q
  tbls := fun b ps q => ⟨#[], by rw [upd_ne (ne_of_none q hn), q]; simp⟩
theorem Un.write (mu : Mut (H x)) (he : e = x ∨ H e = some (.own x)) (k : ∀ b u, b ≠ e → h.get? b = some u → h'.get? b = some u) (heo : ∃ u, h'.get? e = some u) : Un fs ex H (upd H x o) h h' := by
  have hx : ∀ b, H b = none → b ≠ x := fun b n z => by subst z; rw [n] at mu; exact mu
  have hb : ∀ b, H b = none → b ≠ e := fun b n z => by
    subst z
    rcases he with r | r
    · exact hx b n r
    · rw [n] at r; cases r
  have hm : ∀ b u, H b = some u → ¬ Mut (some u) → b ≠ x := fun b u q nm z => by subst z; rw [q] at mu; exact nm mu
  refine ⟨fun b u q n _ _ => k b u (hb b n) q, fun b u q n _ _ => ⟨u.slots, k b u (hb b n) q⟩, fun b u q n _ => by rw [upd_ne (hx b n)]; exact n, fun b u q _ => ?_,
    fun b xs q => by rw [upd_ne (hm b _ q fun z => z)]; exact q, fun b u xs q => by rw [upd_ne (hm b _ q fun z => z)]; exact q, fun b ps q => ⟨#[], by rw [upd_ne (hm b _ q fun z => z), q]; simp⟩⟩
  by_cases hbe : b = e
  · subst hbe; exact heo
  · exact ⟨u, k b u hbe q⟩
end
def trk (h : Heap) (H : Hp) : List Addr := (List.range h.objs.size).filter fun a => (H a).isSome
def hidT (h : Heap) (H : Hp) : Heap := PySem.W.hideAll h (trk h H)
theorem hidT_size (h : Heap) (H : Hp) : (hidT h H).objs.size = h.objs.size := PySem.W.hideAll_size _ _
theorem hidT_get {h : Heap} {H : Hp} {b : Addr} {o : Obj} (e : h.get? b = some o) (n : H b = none) : (hidT h H).get? b = some o :=
  PySem.W.hideAll_get _ e fun hm => by
    have q : (H b).isSome = true := (List.mem_filter.mp hm).2
    rw [n] at q; simp at q
theorem of_hidT {h : Heap} {H : Hp} {b : Addr} {o : Obj} (e : (hidT h H).get? b = some o) : h.get? b = some o ∧ H b = none := by
  have e' : h.get? b = some o := PySem.W.of_hideAll (trk h H) e
  refine ⟨e', ?_⟩
  cases q : H b with
  | none => rfl
  | some x =>
    have hm : b ∈ trk h H := List.mem_filter.mpr ⟨List.mem_range.mpr (Heap.lt_size e'), by simp [q]⟩
    have z : (hidT h H).get? b = none := PySem.W.hideAll_none (trk h H) hm
    rw [z] at e; cases e
end L2
namespace L2
open PySem PySem.Spec PyProof.Rows
structure Mod (K : PySem.W.Frag) (mg : Str → Option Value) (base : Heap) : Prop where
  kin : K.In base
  glob : base.Ns mainGlobals mg
  blt : ∃ mb, base.Ns builtinsNs mb ∧ ∀ x : Str, x ≠ "__name__" → mb x = bootBuiltins x
  nolimit : base.NoLimit
structure Cx where
  prog : Program
  w : World
  K : PySem.W.Frag
  mg : Str → Option Value
  base : Heap
  A : Around
  N : List Str
  s_0 : Shared
  H_0 : Hp
  env : Env
  outer : List Env
  stack : List Env
  ex : List Addr
  fn : Str → Bool
  calm : Bool
  pn : List (Addr × Obj)
  xe : Value → Shared → Prop
def frs (l : List Env) : List Addr := l.filterMap (·.frame)
abbrev Cx.fs (X : Cx) : List Addr := frs X.outer
def Vis (sc : Scope) (x : Str) : Prop := sc.names.lookup x = some .local ∨ sc.names.lookup x = some .cell ∨ sc.names.lookup x = some .free
def Loc (sc : Scope) (x : Str) : Prop := sc.names.lookup x = some .local ∨ sc.names.lookup x = some .cell
def Look (env : Env) (h : Heap) (m : Str → Option Value) (x : Str) (u : Value) : Prop :=
  (env.kindOf x = some .local ∧ m x = some u) ∨ ((env.kindOf x = some .cell ∨ env.kindOf x = some .free) ∧ ∃ c, env.cells.lookup x = some c ∧ h.IsCell c (some u))
structure Cx.Ok (X : Cx) : Prop where
  mod : Mod X.K X.mg X.base
  kind : X.env.scope.kind = .function
  glob : X.env.globals = mainGlobals
  blt : X.env.builtins = builtinsNs
  above : X.s_0.heap.objs.size ≤ X.env.locals
  inj : ∀ x y c, X.env.cells.lookup x = some c → X.env.cells.lookup y = some c → x = y
  has : ∀ x, (X.env.kindOf x = some .cell ∨ X.env.kindOf x = some .free) → ∃ c, X.env.cells.lookup x = some c
  cab : ∀ x c, X.fn x = true → X.env.cells.lookup x = some c → X.s_0.heap.objs.size ≤ c
  hd : X.calm = true → X.A.handled = none
  frames : X.A.frames = some X.stack
  stk : X.stack = X.outer ∨ (X.stack = X.env :: X.outer ∧ X.env.frame = some X.env.locals)
  exf : ∀ b ∈ X.ex, b ≠ X.env.locals ∧ ∀ x c, X.env.cells.lookup x = some c → c ≠ b
  bs : ∀ b o, X.base.get? b = some o → X.s_0.heap.get? b = some o ∧ X.H_0 b = none
  bsz : X.base.objs.size ≤ X.s_0.heap.objs.size
  noex : ∀ b o, X.base.get? b = some o → b ∉ X.ex
  exfs : ∀ b ∈ X.ex, b ∉ X.fs
  funs : X.s_0.heap.FunFrames X.base X.outer
  frf : ∀ b ∈ X.fs, X.H_0 b = none
structure Inv (X : Cx) (pins : List (Addr × Obj)) (σ : List (Option V)) (H : Hp) (s : Shared) : Prop where
  ok : X.Ok
  os : s.os = X.s_0.os
  bare : AllBare s.gens
  base : Un X.fs X.ex X.H_0 H X.s_0.heap s.heap
  loc : ∃ m, s.heap.Ns X.env.locals m ∧ ∀ (i : Nat) (x : Str) (v : V), X.N[i]? = some x → σ[i]? = some (some v) → Vis X.env.scope x → ∃ u, RelV v u ∧ Look X.env s.heap m x u
  cell : ∀ x c, X.env.cells.lookup x = some c → ∃ v, s.heap.IsCell c v
  free : H X.env.locals = none
  freeC : ∀ x c, X.env.cells.lookup x = some c → H c = none
  pin : ∀ p ∈ X.pn ++ pins, s.heap.get? p.1 = some p.2 ∧ H p.1 = none ∧ p.1 ≠ X.env.locals ∧ p.1 ∉ X.fs ∧ ∀ v, p.2.data ≠ .cell v
  hok : HOk X.prog X.w H s.heap
  len : σ.length = X.N.length
section
variable {X : Cx} {pins : List (Addr × Obj)} {σ : List (Option V)} {H H' : Hp} {s : Shared} {h' : Heap}
theorem Cx.Ok.nofr (ok : X.Ok) {b : Addr} {o : Obj} (e : X.base.get? b = some o) : b ∉ X.fs := fun hb => by
  have := (ok.funs.mem hb).1
  rw [e] at this; cases this
theorem Inv.bs (I : Inv X pins σ H s) : ∀ b o, X.base.get? b = some o → s.heap.get? b = some o ∧ H b = none := fun b o e =>
  ⟨I.base.keep b o (I.ok.bs b o e).1 (I.ok.bs b o e).2 (I.ok.nofr e) (I.ok.noex b o e), I.base.free b o (I.ok.bs b o e).1 (I.ok.bs b o e).2 (I.ok.noex b o e)⟩
theorem Inv.bk (I : Inv X pins σ H s) : ∀ b o, X.base.get? b = some o → s.heap.get? b = some o := fun b o e => (I.bs b o e).1
theorem Inv.mod (I : Inv X pins σ H s) : Mod X.K X.mg X.base := I.ok.mod
theorem Inv.kIn (I : Inv X pins σ H s) : X.K.In s.heap := I.ok.mod.kin.keeps I.bk
theorem Inv.fr (I : Inv X pins σ H s) : ∃ m, Fr X.base X.env.locals s.heap m :=
  let ⟨m, hn, _⟩ := I.loc
  ⟨m, hn, I.bk, Nat.le_trans I.ok.bsz I.ok.above⟩
theorem Inv.lt (I : Inv X pins σ H s) : X.env.locals < s.heap.objs.size := let ⟨_, hn, _⟩ := I.loc; hn.lt
theorem Inv.sz (I : Inv X pins σ H s) : X.s_0.heap.objs.size ≤ s.heap.objs.size := Nat.le_trans I.ok.above (Nat.le_of_lt I.lt)
theorem Inv.nofs (I : Inv X pins σ H s) {a : Addr} (h : s.heap.objs.size ≤ a) : a ∉ X.fs := fun hb => by
  obtain ⟨_, o, ho, _⟩ := I.ok.funs.mem hb
  exact absurd (Nat.lt_of_lt_of_le (Heap.lt_size ho) (Nat.le_trans I.sz h)) (Nat.lt_irrefl _)
theorem Inv.cne (I : Inv X pins σ H s) : ∀ x c, X.env.cells.lookup x = some c → c ≠ X.env.locals := fun x c e z => by
  obtain ⟨v, o, ho, hd⟩ := I.cell x c e
  obtain ⟨m, ⟨o', es, ep, ho', hd', _⟩, _⟩ := I.loc
  rw [z, ho'] at ho; cases ho; rw [hd'] at hd; cases hd
theorem Inv.funs (I : Inv X pins σ H s) : s.heap.FunFrames X.base X.outer := by
  have all : ∀ (l : List Env), (∀ b ∈ frs l, b ∈ X.fs) → X.s_0.heap.FunFrames X.base l → s.heap.FunFrames X.base l := by
    intro l
    induction l with
    | nil => intro _ _; trivial
    | cons env r ih =>
      intro hs hl
      obtain ⟨hk, ⟨L, o, hf, hn, ho, hd⟩, hr⟩ := hl
      have hL : L ∈ X.fs := hs L (by unfold frs; rw [List.filterMap_cons, hf]; exact List.mem_cons_self)
      obtain ⟨sl, e⟩ := I.base.slot L o ho (I.ok.frf L hL) hL fun z => I.ok.exfs L z hL
      exact ⟨hk, ⟨L, _, hf, hn, e, hd⟩, ih (fun b hb => hs b (by unfold frs; rw [List.filterMap_cons, hf]; exact List.mem_cons_of_mem _ hb)) hr⟩
  exact all X.outer (fun _ hb => hb) I.ok.funs
theorem Inv.stack (I : Inv X pins σ H s) : s.heap.FunFrames X.base X.stack := by
  rcases I.ok.stk with e | ⟨e, hf⟩
  · rw [e]; exact I.funs
  · rw [e]
    obtain ⟨m, hn, _⟩ := I.loc
    refine .cons (by rw [I.ok.kind]; decide) hf hn ?_ I.funs
    exact Heap.get?_none_of_le (Nat.le_trans I.ok.bsz I.ok.above)
theorem Inv.stkSub (I : Inv X pins σ H s) : ∀ b ∈ frs X.stack, b ∈ X.env.locals :: X.fs := fun b hb => by
  rcases I.ok.stk with e | ⟨e, hf⟩
  · rw [e] at hb; exact List.mem_cons_of_mem _ hb
  · rw [e] at hb
    unfold frs at hb
    rw [List.filterMap_cons, hf] at hb
    exact hb
theorem Inv.stkFree (I : Inv X pins σ H s) : ∀ b ∈ frs X.stack, H b = none := fun b hb => by
  rcases List.mem_cons.mp (I.stkSub b hb) with e | hb
  · rw [e]; exact I.free
  · obtain ⟨_, o, ho, _⟩ := I.ok.funs.mem hb
    exact I.base.free b o ho (I.ok.frf b hb) fun z => I.ok.exfs b z hb
theorem Inv.step {g' : Array GenState} {t' : Nat} {d' : Drawn} {ch : List Addr} (I : Inv X pins σ H s)
    (hch : ∀ b ∈ ch, (b ∈ X.ex ∨ X.s_0.heap.objs.size ≤ b) ∧ b ≠ X.env.locals ∧ (∀ x c, X.env.cells.lookup x = some c → c ≠ b) ∧ ∀ p ∈ X.pn ++ pins, p.1 ≠ b)
    (keep : ∀ b o, b ≠ X.env.locals → b ∉ X.fs → b ∉ ch → s.heap.get? b = some o → H b = none → h'.get? b = some o)
    (slot : ∀ b o, b ≠ X.env.locals → b ∈ X.fs → b ∉ ch → s.heap.get? b = some o → H b = none → ∃ sl, h'.get? b = some { o with slots := sl }) (free : ∀ b o, b ∉ ch → s.heap.get? b = some o → H b = none → H' b = none)
    (there : ∀ b o, b ∉ ch → s.heap.get? b = some o → ∃ o', h'.get? b = some o')
    (tups : ∀ b xs, H b = some (.tup xs) → H' b = some (.tup xs)) (frzs : ∀ b o u, H b = some (.frz o u) → H' b = some (.frz o u)) (tbls : ∀ b ps, H b = some (.tbl ps) → ∃ more, H' b = some (.tbl (ps ++ more)))
    (ns : ∀ m, s.heap.Ns X.env.locals m → h'.Ns X.env.locals m) (hok : HOk X.prog X.w H' h') (hg : AllBare g') :
    Inv X pins σ H' { s with heap := h', gens := g', drawn := d', toks := t' } := by
  have neL : ∀ b o, X.s_0.heap.get? b = some o → b ≠ X.env.locals := fun b o e => Nat.ne_of_lt (Nat.lt_of_lt_of_le (Heap.lt_size e) I.ok.above)
  have neC : ∀ b o, X.s_0.heap.get? b = some o → b ∉ X.ex → b ∉ ch := fun b o e hx hb => by
    rcases (hch b hb).1 with z | z
    · exact hx z
    · exact absurd (Nat.lt_of_lt_of_le (Heap.lt_size e) z) (Nat.lt_irrefl _)
  have cellK : ∀ x c, X.env.cells.lookup x = some c → ∀ v, s.heap.IsCell c v → h'.IsCell c v := fun x c e v ⟨o, ho, hd⟩ => by
    have nch : c ∉ ch := fun z => (hch c z).2.2.1 x c e rfl
    by_cases hc : c ∈ X.fs
    · obtain ⟨sl, q⟩ := slot c o (I.cne x c e) hc nch ho (I.freeC x c e)
      exact ⟨_, q, hd⟩
    · exact ⟨o, keep c o (I.cne x c e) hc nch ho (I.freeC x c e), hd⟩
  refine ⟨I.ok, I.os, hg, ⟨fun b o e n hb hx => ?_, fun b o e n hb hx => ?_, fun b o e n hx => ?_, fun b o e hx => ?_, fun b xs e => tups b xs (I.base.tups b xs e), fun b o xs e => frzs b o xs (I.base.frzs b o xs e), fun b ps e => ?_⟩, ?_, fun x c e => ?_, ?_, fun x c e => ?_, fun p hp => ?_, hok, I.len⟩
  · exact keep b o (neL b o e) hb (neC b o e hx) (I.base.keep b o e n hb hx) (I.base.free b o e n hx)
  · obtain ⟨sl, e1⟩ := I.base.slot b o e n hb hx
    obtain ⟨sl', e2⟩ := slot b _ (neL b o e) hb (neC b o e hx) e1 (I.base.free b o e n hx)
    exact ⟨sl', e2⟩
  · obtain ⟨o', e1⟩ := I.base.there b o e hx
    exact free b o' (neC b o e hx) e1 (I.base.free b o e n hx)
  · obtain ⟨o', e1⟩ := I.base.there b o e hx
    exact there b o' (neC b o e hx) e1
  · obtain ⟨m1, e1⟩ := I.base.tbls b ps e
    obtain ⟨m2, e2⟩ := tbls b _ e1
    exact ⟨m1 ++ m2, by rw [e2, Array.append_assoc]⟩
  · obtain ⟨m, hn, hl⟩ := I.loc
    refine ⟨m, ns m hn, fun i x v e1 e2 e3 => ?_⟩
    obtain ⟨u, r, l⟩ := hl i x v e1 e2 e3
    refine ⟨u, r, ?_⟩
    rcases l with l | ⟨k, c, e, z⟩
    · exact .inl l
    · exact .inr ⟨k, c, e, cellK x c e _ z⟩
  · obtain ⟨v, z⟩ := I.cell x c e
    exact ⟨v, cellK x c e v z⟩
  · obtain ⟨m, ⟨o, _, _, ho, _⟩, _⟩ := I.loc
    exact free _ o (fun z => (hch _ z).2.1 rfl) ho I.free
  · obtain ⟨v, o, ho, hd⟩ := I.cell x c e
    exact free c o (fun z => (hch c z).2.2.1 x c e rfl) ho (I.freeC x c e)
  · obtain ⟨e, n, ne, nf, d⟩ := I.pin p hp
    have nch : p.1 ∉ ch := fun z => (hch p.1 z).2.2.2 p hp rfl
    exact ⟨keep p.1 p.2 ne nf nch e n, free p.1 p.2 nch e n, ne, nf, d⟩
theorem Inv.un {t' : Nat} (I : Inv X pins σ H s) (u : Un X.fs [] H H' s.heap h') (hok : HOk X.prog X.w H' h') : Inv X pins σ H' { s with heap := h', toks := t' } := by
  obtain ⟨m, ⟨o, es, ep, ho, r⟩, _⟩ := id I.loc
  obtain ⟨sl, hL⟩ := u.any ho I.free (by simp)
  exact I.step (g' := s.gens) (d' := s.drawn) (ch := []) (fun _ z => nomatch z) (fun b o _ hb _ e n => u.keep b o e n hb (by simp)) (fun b o _ hb _ e n => u.slot b o e n hb (by simp)) (fun b o _ e n => u.free b o e n (by simp)) (fun b o _ e => u.there b o e (by simp)) u.tups u.frzs u.tbls (fun m' hm => by
    obtain ⟨o', es', ep', ho', r'⟩ := hm
    rw [ho] at ho'; cases ho'
    exact ⟨_, es', ep', hL, r'⟩) hok I.bare
theorem Inv.call {g' : Array GenState} {t' : Nat} {d' : Drawn} {ch : List Addr} (I : Inv X pins σ H s) (u : Un (frs X.stack) ch H H' s.heap h') (hok : HOk X.prog X.w H' h') (hg : AllBare g')
    (hch : ∀ b ∈ ch, (b ∈ X.ex ∨ X.s_0.heap.objs.size ≤ b) ∧ b ≠ X.env.locals ∧ (∀ x c, X.env.cells.lookup x = some c → c ≠ b) ∧ ∀ p ∈ X.pn ++ pins, p.1 ≠ b) :
    Inv X pins σ H' { s with heap := h', gens := g', drawn := d', toks := t' } := by
  obtain ⟨m, ⟨o, es, ep, ho, r⟩, _⟩ := id I.loc
  obtain ⟨sl, hL⟩ := u.any ho I.free fun z => (hch _ z).2.1 rfl
  exact I.step (ch := ch) hch (fun b o hL hb hc e n => u.keep b o e n (fun z => (List.mem_cons.mp (I.stkSub b z)).elim hL hb) hc) (fun b o _ _ hc e n => u.any e n hc) (fun b o hc e n => u.free b o e n hc) (fun b o hc e => u.there b o e hc) u.tups u.frzs u.tbls (fun m' hm => by
    obtain ⟨o', es', ep', ho', r'⟩ := hm
    rw [ho] at ho'; cases ho'
    exact ⟨_, es', ep', hL, r'⟩) hok hg
theorem Inv.turned {t' : Nat} {it : Addr} (I : Inv X pins σ H s) (k : ∀ b o, b ≠ it → s.heap.get? b = some o → h'.get? b = some o) (hn : H it = none) (hL : it ≠ X.env.locals)
    (h1 : it ∈ X.ex ∨ X.s_0.heap.objs.size ≤ it) (h2 : ∀ x c, X.env.cells.lookup x = some c → c ≠ it) (h3 : ∀ p ∈ X.pn ++ pins, p.1 ≠ it) : Inv X pins σ H { s with heap := h', toks := t' } := by
  have nit : ∀ b u, H b = some u → b ≠ it := fun b u e z => by rw [z, hn] at e; cases e
  refine I.step (g' := s.gens) (d' := s.drawn) (ch := [it]) (fun b hb => ?_) (fun b o _ _ hc e _ => k b o (fun z => hc (by simp [z])) e) (fun b o _ _ hc e _ => ⟨o.slots, k b o (fun z => hc (by simp [z])) e⟩) (fun _ _ _ _ n => n)
    (fun b o hc e => ⟨o, k b o (fun z => hc (by simp [z])) e⟩) (fun _ _ e => e) (fun _ _ _ e => e) (fun b ps e => ⟨#[], by rw [e]; simp⟩) (fun m hm => ?_) (fun b u e => ?_) I.bare
  · have e : b = it := by simpa using hb
    subst e
    exact ⟨h1, hL, h2, h3⟩
  · obtain ⟨o, es, ep, ho, r⟩ := hm
    exact ⟨o, es, ep, k _ o (Ne.symm hL) ho, r⟩
  · refine (I.hok b u e).stay (fun c v hc q => k c v ?_ q) (fun _ q => q) fun _ _ q => q
    rcases hc with z | z
    · rw [z]; exact nit b u e
    · exact nit c _ z
theorem Inv.tok (I : Inv X pins σ H s) (t : Nat) : Inv X pins σ H { s with toks := t } := I.un (h' := s.heap) (t' := t) Un.refl I.hok
theorem Inv.kept {t' : Nat} (I : Inv X pins σ H s) (k : ∀ b u, s.heap.get? b = some u → h'.get? b = some u) : Inv X pins σ H { s with heap := h', toks := t' } := I.un (Un.kept k) (I.hok.kept k)
theorem Inv.laid {a : Addr} {o : HO} {t' : Nat} (I : Inv X pins σ H s) (k : ∀ b u, s.heap.get? b = some u → h'.get? b = some u) (hp : s.heap.objs.size ≤ a) (new : ObjOk X.prog X.w (upd H a o) h' a o) :
    Inv X pins σ (upd H a o) { s with heap := h', toks := t' } := I.un (Un.laid k hp (I.hok.fresh hp)) (I.hok.laid k hp new)
theorem Inv.write {x e : Addr} {o : HO} {t' : Nat} (I : Inv X pins σ H s) (mu : Mut (H x)) (he : e = x ∨ H e = some (.own x)) (k : ∀ b u, b ≠ e → s.heap.get? b = some u → h'.get? b = some u) (heo : ∃ u, h'.get? e = some u)
    (new : ObjOk X.prog X.w (upd H x o) h' x o) : Inv X pins σ (upd H x o) { s with heap := h', toks := t' } := I.un (Un.write mu he k heo) (I.hok.write mu he k heo new)
theorem Inv.weak {σ' : List (Option V)} (I : Inv X pins σ H s) (hl : σ'.length = σ.length) (w : ∀ (i : Nat) v, σ'[i]? = some (some v) → σ[i]? = some (some v)) : Inv X pins σ' H s :=
  ⟨I.ok, I.os, I.bare, I.base, let ⟨m, hn, hl'⟩ := I.loc; ⟨m, hn, fun i x v e1 e2 e3 => hl' i x v e1 (w i v e2) e3⟩, I.cell, I.free, I.freeC, I.pin, I.hok, hl.trans I.len⟩
theorem Inv.pins_of {pins' : List (Addr × Obj)} (I : Inv X pins σ H s) (h : ∀ p ∈ pins', s.heap.get? p.1 = some p.2 ∧ H p.1 = none ∧ p.1 ≠ X.env.locals ∧ p.1 ∉ X.fs ∧ ∀ v, p.2.data ≠ .cell v) : Inv X pins' σ H s :=
  ⟨I.ok, I.os, I.bare, I.base, I.loc, I.cell, I.free, I.freeC, fun p hp => (List.mem_append.mp hp).elim (fun z => I.pin p (List.mem_append_left _ z)) (h p), I.hok, I.len⟩
theorem nodup_ix {N : List Str} (hN : N.Nodup) {i j : Nat} {x : Str} (a : N[i]? = some x) (b : N[j]? = some x) : i = j := by
  obtain ⟨h1, e1⟩ := List.getElem?_eq_some_iff.mp a
  obtain ⟨h2, e2⟩ := List.getElem?_eq_some_iff.mp b
  exact (List.getElem_inj hN).mp (e1.trans e2.symm)
theorem store_ok2 {M : Model} {A : Around} {E : Value → Shared → Prop} {i : Nat} {x : Str} {v : V} {u : Value} {Q : Unit → Shared → Prop} (I : Inv X pins σ H s) (hN : X.N.Nodup) (hi : X.N[i]? = some x) (hx : Loc X.env.scope x) (r : RelV v u)
    (h : ∀ s', Inv X pins (σ.set i (some v)) H s' → (∃ a, Heap.SameBut a s.heap s'.heap ∧ (a = X.env.locals ∨ X.env.cells.lookup x = some a)) → Q () s') (hf : X.fn x = true ∨ X.env.scope.names.lookup x = some .local := by first | exact .inl rfl | exact .inr rfl | assumption) : wpAny M A (storeName X.env x u) Q E s := by
  obtain ⟨m, hn, hl⟩ := id I.loc
  have hcls : (X.env.scope.kind == .class || (X.env.scope.kind == .module && X.env.locals != X.env.globals)) = false := by rw [I.ok.kind]; rfl
  have hiσ : i < σ.length := by rw [I.len]; exact (List.getElem?_eq_some_iff.mp hi).1
  have cne := I.cne
  have tracked : ∀ {a : Addr} {h' : Heap}, (∃ o, s.heap.get? a = some o ∧ H a = none) → Heap.SameBut a s.heap h' → HOk X.prog X.w H h' := fun {a h'} ha hs b ob e => by
    obtain ⟨_, _, hfree⟩ := ha
    refine (I.hok b ob e).stay (fun c w' hc q => (hs.2 c ?_).trans q) (fun _ q => q) fun _ _ q => q
    rintro rfl
    rcases hc with rfl | hc
    · rw [hfree] at e; cases e
    · rw [hfree] at hc; cases hc
  rcases hx with hk | hk
  · refine wpAny_storeName_local hk hn (fun h' hn' hs => ?_) hcls
    obtain ⟨oL, _, _, hoL, _⟩ := id hn
    refine h _ ⟨I.ok, I.os, I.bare, ⟨fun b o e n hb hx => ?_, fun b o e n hb hx => ?_, I.base.free, fun b o e hx => ?_, I.base.tups, I.base.frzs, I.base.tbls⟩, ⟨_, hn', fun j y v' e1 e2 e3 => ?_⟩, fun y c e => ?_, I.free, I.freeC, fun p hp => ?_, tracked ⟨oL, hoL, I.free⟩ hs, by simpa using I.len⟩ ⟨_, hs, .inl rfl⟩
    · exact (hs.2 b (Nat.ne_of_lt (Nat.lt_of_lt_of_le (Heap.lt_size e) I.ok.above))).trans (I.base.keep b o e n hb hx)
    · obtain ⟨sl, e1⟩ := I.base.slot b o e n hb hx
      exact ⟨sl, (hs.2 b (Nat.ne_of_lt (Nat.lt_of_lt_of_le (Heap.lt_size e) I.ok.above))).trans e1⟩
    · obtain ⟨o', e1⟩ := I.base.there b o e hx
      exact ⟨o', (hs.2 b (Nat.ne_of_lt (Nat.lt_of_lt_of_le (Heap.lt_size e) I.ok.above))).trans e1⟩
    · by_cases hj : j = i
      · subst hj
        rw [hi] at e1; cases e1
        rw [List.getElem?_set_self hiσ] at e2
        cases e2
        exact ⟨u, r, .inl ⟨hk, by simp⟩⟩
      · rw [List.getElem?_set_ne (Ne.symm hj)] at e2
        obtain ⟨u', r', q⟩ := hl j y v' e1 e2 e3
        refine ⟨u', r', ?_⟩
        rcases q with ⟨k, e⟩ | ⟨k, c, e, z⟩
        · refine .inl ⟨k, ?_⟩
          have : y ≠ x := fun e => hj (nodup_ix hN e1 (e ▸ hi))
          simp [this, e]
        · exact .inr ⟨k, c, e, z.sameBut hs (cne y c e)⟩
    · obtain ⟨w', z⟩ := I.cell y c e
      exact ⟨w', z.sameBut hs (cne y c e)⟩
    · obtain ⟨e, n, ne, nf, d⟩ := I.pin p hp
      exact ⟨(hs.2 p.1 ne).trans e, n, ne, nf, d⟩
  · have hfn : X.fn x = true := by
      rcases hf with z | z
      · exact z
      · rw [z] at hk; cases hk
    obtain ⟨c, hc⟩ := I.ok.has x (.inl hk)
    obtain ⟨w', z⟩ := I.cell x c hc
    refine wpAny_storeName_cell I.ok.kind hk hc z (fun h' hc' hs => ?_)
    obtain ⟨oc, hoc, hocd⟩ := id z
    refine h { s with heap := h' } ⟨I.ok, I.os, I.bare, ⟨fun b o e n hb hx => ?_, fun b o e n hb hx => ?_, I.base.free, fun b o e hx => ?_, I.base.tups, I.base.frzs, I.base.tbls⟩, ⟨m, hn.sameBut hs (Ne.symm (cne x c hc)), fun j y v' e1 e2 e3 => ?_⟩, fun y c' e => ?_, I.free, I.freeC, fun p hp => ?_, tracked ⟨oc, hoc, I.freeC x c hc⟩ hs, by simpa using I.len⟩ ⟨c, hs, .inr hc⟩
    · exact (hs.2 b (Nat.ne_of_lt (Nat.lt_of_lt_of_le (Heap.lt_size e) (I.ok.cab x c hfn hc)))).trans (I.base.keep b o e n hb hx)
    · obtain ⟨sl, e1⟩ := I.base.slot b o e n hb hx
      exact ⟨sl, (hs.2 b (Nat.ne_of_lt (Nat.lt_of_lt_of_le (Heap.lt_size e) (I.ok.cab x c hfn hc)))).trans e1⟩
    · obtain ⟨o', e1⟩ := I.base.there b o e hx
      exact ⟨o', (hs.2 b (Nat.ne_of_lt (Nat.lt_of_lt_of_le (Heap.lt_size e) (I.ok.cab x c hfn hc)))).trans e1⟩
    · by_cases hj : j = i
      · subst hj
        rw [hi] at e1; cases e1
        rw [List.getElem?_set_self hiσ] at e2
        cases e2
        exact ⟨u, r, .inr ⟨.inl hk, c, hc, hc'⟩⟩
      · rw [List.getElem?_set_ne (Ne.symm hj)] at e2
        obtain ⟨u', r', q⟩ := hl j y v' e1 e2 e3
        refine ⟨u', r', ?_⟩
        rcases q with q | ⟨k, c', e, z'⟩
        · exact .inl q
        · refine .inr ⟨k, c', e, z'.sameBut hs ?_⟩
          rintro rfl
          exact hj (nodup_ix hN e1 (I.ok.inj _ _ _ e hc ▸ hi))
    · by_cases hcc : c' = c
      · subst hcc; exact ⟨_, hc'⟩
      · obtain ⟨w2, z2⟩ := I.cell y c' e
        exact ⟨w2, z2.sameBut hs hcc⟩
    · obtain ⟨e, n, ne, nf, d⟩ := I.pin p hp
      refine ⟨(hs.2 p.1 ?_).trans e, n, ne, nf, d⟩
      intro q
      rw [q, hoc] at e
      have q' : oc = p.2 := Option.some.inj e
      exact d w' (by rw [← q']; exact hocd)
theorem store_ok {M : Model} {A : Around} {E : Value → Shared → Prop} {i : Nat} {x : Str} {v : V} {u : Value} {Q : Unit → Shared → Prop} (I : Inv X pins σ H s) (hN : X.N.Nodup) (hi : X.N[i]? = some x) (hx : Loc X.env.scope x) (r : RelV v u)
    (h : ∀ s', Inv X pins (σ.set i (some v)) H s' → Q () s') (hf : X.fn x = true ∨ X.env.scope.names.lookup x = some .local := by first | exact .inl rfl | exact .inr rfl | assumption) : wpAny M A (storeName X.env x u) Q E s :=
  store_ok2 I hN hi hx r (fun s' I' _ => h s' I') hf
theorem Inv.call' {s' : Shared} {ch : List Addr} (I : Inv X pins σ H s) (ho : s'.os = s.os) (u : Un (frs X.stack) ch H H' s.heap s'.heap) (hok : HOk X.prog X.w H' s'.heap) (hg : AllBare s'.gens)
    (hch : ∀ b ∈ ch, (b ∈ X.ex ∨ X.s_0.heap.objs.size ≤ b) ∧ b ≠ X.env.locals ∧ (∀ x c, X.env.cells.lookup x = some c → c ≠ b) ∧ ∀ p ∈ X.pn ++ pins, p.1 ≠ b) : Inv X pins σ H' s' := by
  obtain ⟨h', g', d', t', o'⟩ := s'
  have e : o' = s.os := ho
  subst e
  exact I.call (g' := g') (t' := t') (d' := d') u hok hg hch
end
abbrev XK := Value → Option Addr → Hp → Prop
abbrev St := List (Option V)
abbrev VK := V → Hp → Prop
abbrev TE := St → Hp → VK → Prop
abbrev TT := St → Hp → (Bool → Hp → Prop) → Prop
abbrev TA := St → Hp → (List V → Hp → Prop) → Prop
structure Ends where
  nx : St → Hp → Prop
  rt : VK
  bk : St → Hp → Prop := fun _ _ => False
  ct : St → Hp → Prop := fun _ _ => False
abbrev TS := Ends → St → Hp → Prop
def EP (X : Cx) (pins : List (Addr × Obj)) (σ : St) (Q : VK) (u : Value) (s' : Shared) : Prop := ∃ v H', Inv X pins σ H' s' ∧ RelV v u ∧ Q v H'
def TP (X : Cx) (pins : List (Addr × Obj)) (σ : St) (Q : Bool → Hp → Prop) (b : Bool) (s' : Shared) : Prop := ∃ H', Inv X pins σ H' s' ∧ Q b H'
def AP (X : Cx) (pins : List (Addr × Obj)) (σ : St) (Q : List V → Hp → Prop) (us : List Value) (s' : Shared) : Prop := ∃ vs H', Inv X pins σ H' s' ∧ Vals vs us ∧ Q vs H'
def SP (X : Cx) (pins : List (Addr × Obj)) (D : Ends) (f : Flow) (s' : Shared) : Prop :=
  match f with
  | .next => ∃ σ' H', Inv X pins σ' H' s' ∧ D.nx σ' H'
  | .brk => ∃ σ' H', Inv X pins σ' H' s' ∧ D.bk σ' H'
  | .cont => ∃ σ' H', Inv X pins σ' H' s' ∧ D.ct σ' H'
  | .ret u => ∃ v σ' H', Inv X pins σ' H' s' ∧ RelV v u ∧ D.rt v H'
def PE (X : Cx) (e : Expr) (t : TE) : Prop :=
  ∀ (pins : List (Addr × Obj)) (s : Shared) (σ : St) (H : Hp) (Q : VK), Inv X pins σ H s → t σ H Q → wpAny (model X.prog X.w) X.A (eval e X.env) (EP X pins σ Q) X.xe s
def PT (X : Cx) (e : Expr) (t : TT) : Prop :=
  ∀ (pins : List (Addr × Obj)) (s : Shared) (σ : St) (H : Hp) (Q : Bool → Hp → Prop), Inv X pins σ H s → t σ H Q → wpAny (model X.prog X.w) X.A (isTrue e X.env (eval e X.env)) (TP X pins σ Q) X.xe s
def PW (X : Cx) (e : Expr) (t : TT) : Prop :=
  ∀ (whole : Sem Value) (pins : List (Addr × Obj)) (s : Shared) (σ : St) (H : Hp) (Q : Bool → Hp → Prop), Inv X pins σ H s → t σ H Q → wpAny (model X.prog X.w) X.A (isTrue e X.env whole) (TP X pins σ Q) X.xe s
theorem PW.pt {X : Cx} {e : Expr} {t : TT} (h : PW X e t) : PT X e t := h _
def PA (X : Cx) (es : List Expr) (t : TA) : Prop :=
  ∀ (pos : Pos) (pins : List (Addr × Obj)) (s : Shared) (σ : St) (H : Hp) (Q : List V → Hp → Prop), Inv X pins σ H s → t σ H Q → wpAny (model X.prog X.w) X.A (spliced (backTo pos (starEach es X.env))) (AP X pins σ Q) X.xe s
def PS (X : Cx) (st : Stmt) (t : TS) : Prop :=
  ∀ (pins : List (Addr × Obj)) (s : Shared) (σ : St) (H : Hp) (D : Ends), Inv X pins σ H s → t D σ H → wpAny (model X.prog X.w) X.A (exec st X.env) (SP X pins D) X.xe s
def PSs (X : Cx) (st : List Stmt) (t : TS) : Prop :=
  ∀ (pins : List (Addr × Obj)) (s : Shared) (σ : St) (H : Hp) (D : Ends), Inv X pins σ H s → t D σ H → wpAny (model X.prog X.w) X.A (execs st X.env) (SP X pins D) X.xe s
theorem thn {α : Type} {t : Sem α} {Q Q' : α → Shared → Prop} {M : Model} {A : Around} {E : Value → Shared → Prop} {s : Shared} (h : wpAny M A t Q E s) (hQ : ∀ a s, Q a s → Q' a s) : wpAny M A t Q' E s := wpAny_mono h hQ fun _ _ x => x
end L2
namespace L2
open PySem PySem.Spec PyProof.Rows
section
variable {X : Cx}
theorem bin {a b : Expr} {ta tb : TE} (ha : PE X a ta) (hb : PE X b tb) {pins : List (Addr × Obj)} {s : Shared} {σ : St} {H : Hp} {R : V → V → Hp → Prop} (I : Inv X pins σ H s) (h : ta σ H fun x H1 => tb σ H1 fun y H2 => R x y H2)
    {α : Type} {Q : α → Shared → Prop} {f : Value → Value → Sem α}
    (hf : ∀ v u s2 x y H2, Inv X pins σ H2 s2 → RelV x v → RelV y u → R x y H2 → wpAny (model X.prog X.w) X.A (f v u) Q X.xe s2) :
    wpAny (model X.prog X.w) X.A (eval a X.env) (fun v s₁ => wpAny (model X.prog X.w) X.A (eval b X.env) (fun u s₂ => wpAny (model X.prog X.w) X.A (f v u) Q X.xe s₂) X.xe s₁) X.xe s := by
  refine thn (ha pins s σ H _ I h) fun v s1 ⟨x, H1, I1, r1, q1⟩ => ?_
  refine thn (hb pins s1 σ H1 _ I1 q1) fun u s2 ⟨y, H2, I2, r2, q2⟩ => ?_
  exact hf v u s2 x y H2 I2 r1 r2 q2
def tVar (i : Nat) : TE := fun σ H Q => ∃ v, σ[i]? = some (some v) ∧ Q v H
def tC (v : V) : TE := fun _ H Q => Q v H
theorem pe_var {i : Nat} {x : Str} {pos : Pos} (hN : X.N[i]? = some x) (hv : Vis X.env.scope x) (hd : (x == ("__debug__" : Str)) = false := by decide) (hcd : (x == ("__classdict__" : Str)) = false := by decide) : PE X (.Name x pos) (tVar i) := by
  intro pins s σ H Q I h
  obtain ⟨v, e, h⟩ := h
  obtain ⟨m, hn, hl⟩ := I.loc
  obtain ⟨u, r, l⟩ := hl i x v hN e hv
  have fin : EP X pins σ Q u s := ⟨v, H, I, r, h⟩
  rcases l with ⟨hk, hm⟩ | ⟨hk, c, hc, hcell⟩
  · exact wpAny_Name (wpAny_loadName_local I.ok.kind hk hn hm fin) hd
  · rcases hk with hk | hk
    · exact wpAny_Name (wpAny_loadName_cell I.ok.kind hk hc hcell fin) hd
    · exact wpAny_Name (wpAny_loadName_free I.ok.kind hk hc hcell fin hcd) hd
theorem pe_int {i j pos} : PE X (.Constant (.int i) j pos) (tC (.int i)) := fun _ _ _ H _ I h => wpAny_Constant_int ⟨.int i, H, I.tok _, ⟨_, rfl⟩, h⟩
theorem pe_bl {b j pos} : PE X (.Constant (.bool b) j pos) (tC (.bl b)) := fun _ _ _ H _ I h => Constant_bool ⟨.bl b, H, I, rfl, h⟩
theorem pe_non {j pos} : PE X (.Constant .none j pos) (tC .non) := fun _ _ _ H _ I h => Constant_none ⟨.non, H, I, rfl, h⟩
def Gl (X : Cx) (x : Str) : Prop := X.env.kindOf x = some .globalImplicit
theorem ld_glob {E : Value → Shared → Prop} {pins : List (Addr × Obj)} {s : Shared} {σ : St} {H : Hp} {x : Str} {u : Value} {pos : Pos} {Q : Value → Shared → Prop} (I : Inv X pins σ H s) (hg : Gl X x) (hm : X.mg x = some u) (h : Q u s)
    (hd : (x == ("__debug__" : Str)) = false := by decide) : wpAny (model X.prog X.w) X.A (eval (.Name x pos) X.env) Q E s :=
  Calls.Name_function_global I.ok.kind hg (Calls.loadGlobal_global (by rw [I.ok.glob]; exact I.mod.glob.keeps I.bk) hm h) hd
theorem ld_blt {E : Value → Shared → Prop} {pins : List (Addr × Obj)} {s : Shared} {σ : St} {H : Hp} {x : Str} {u : Value} {pos : Pos} {Q : Value → Shared → Prop} (I : Inv X pins σ H s) (hg : Gl X x) (hm : X.mg x = none) (hv : bootBuiltins x = some u) (h : Q u s)
    (hn : x ≠ "__name__" := by decide) (hd : (x == ("__debug__" : Str)) = false := by decide) : wpAny (model X.prog X.w) X.A (eval (.Name x pos) X.env) Q E s := by
  obtain ⟨mb, h1, h2⟩ := I.mod.blt
  exact Calls.Name_function_global I.ok.kind hg (Calls.loadGlobal_builtin (by rw [I.ok.glob]; exact I.mod.glob.keeps I.bk) hm (by rw [I.ok.blt]; exact h1.keeps I.bk) ((h2 x hn).trans hv) h) hd
theorem pe_glob {x : Str} {v : V} {u : Value} {pos : Pos} (hg : Gl X x) (hm : X.mg x = some u) (r : RelV v u) (hd : (x == ("__debug__" : Str)) = false := by decide) : PE X (.Name x pos) (tC v) :=
  fun _ _ _ H _ I h => ld_glob I hg hm ⟨v, H, I, r, h⟩ hd
variable {a b : Expr} {ta tb : TE} {pos : Pos}
variable {tA tB' : TT} {rest : List Expr}
def tAnd (t u : TT) : TT := fun σ H Q => t σ H fun c H1 => if c = true then u σ H1 Q else Q false H1
def tOr (t u : TT) : TT := fun σ H Q => t σ H fun c H1 => if c = true then Q true H1 else u σ H1 Q
def tNot (t : TT) : TT := fun σ H Q => t σ H fun c H1 => Q (!c) H1
theorem pw_and1 (ha : PT X a tA) : PW X (.BoolOp .And [a] pos) tA := by
  intro wh pins s σ H Q I h
  refine isTrue_and (thn (ha pins s σ H Q I h) fun c s1 e => ?_)
  cases c with
  | true => exact isTrue_and_nil e
  | false => exact e
theorem pw_or1 (ha : PT X a tA) : PW X (.BoolOp .Or [a] pos) tA := by
  intro wh pins s σ H Q I h
  refine isTrue_or (thn (ha pins s σ H Q I h) fun c s1 e => ?_)
  cases c with
  | false => exact isTrue_or_nil e
  | true => exact e
theorem pw_and (ha : PT X a tA) (hb : PW X (.BoolOp .And (b :: rest) pos) tB') : PW X (.BoolOp .And (a :: b :: rest) pos) (tAnd tA tB') := by
  intro wh pins s σ H Q I h
  refine isTrue_and (thn (ha pins s σ H _ I h) fun c s1 ⟨H1, I1, q1⟩ => ?_)
  cases c with
  | true => exact hb wh pins s1 σ H1 Q I1 q1
  | false => exact ⟨H1, I1, q1⟩
theorem pw_or (ha : PT X a tA) (hb : PW X (.BoolOp .Or (b :: rest) pos) tB') : PW X (.BoolOp .Or (a :: b :: rest) pos) (tOr tA tB') := by
  intro wh pins s σ H Q I h
  refine isTrue_or (thn (ha pins s σ H _ I h) fun c s1 ⟨H1, I1, q1⟩ => ?_)
  cases c with
  | true => exact ⟨H1, I1, q1⟩
  | false => exact hb wh pins s1 σ H1 Q I1 q1
theorem pt_not (ha : PT X a tA) : PT X (.UnaryOp .Not a pos) (tNot tA) := by
  intro pins s σ H Q I h
  exact isTrue_not (ha pins s σ H (fun c H1 => Q (!c) H1) I h)
def tAndV (ta tb : TE) : TE := fun σ H Q => ta σ H fun x H1 => ∃ c, x = .bl c ∧ if c = true then tb σ H1 Q else Q (.bl false) H1
def tOrV (ta tb : TE) : TE := fun σ H Q => ta σ H fun x H1 => ∃ c, x = .bl c ∧ if c = true then Q (.bl true) H1 else tb σ H1 Q
theorem pe_one {op} {t : TE} (h : PE X a t) : PE X (.BoolOp op [a] pos) t := fun pins s σ H Q I hw => BoolOp_one (h pins s σ H Q I hw)
theorem pe_and (ha : PE X a ta) (hb : PE X (.BoolOp .And (b :: rest) pos) tb) : PE X (.BoolOp .And (a :: b :: rest) pos) (tAndV ta tb) := by
  intro pins s σ H Q I h
  refine BoolOp_and (thn (ha pins s σ H _ I h) fun v s1 ⟨x, H1, I1, r1, q1⟩ => ?_)
  obtain ⟨c, rfl, q1⟩ := q1
  cases r1
  refine wpAny_truthy_bool ?_
  cases c with
  | true => exact hb pins s1 σ H1 Q I1 q1
  | false => exact ⟨.bl false, H1, I1, rfl, q1⟩
theorem pe_or (ha : PE X a ta) (hb : PE X (.BoolOp .Or (b :: rest) pos) tb) : PE X (.BoolOp .Or (a :: b :: rest) pos) (tOrV ta tb) := by
  intro pins s σ H Q I h
  refine BoolOp_or (thn (ha pins s σ H _ I h) fun v s1 ⟨x, H1, I1, r1, q1⟩ => ?_)
  obtain ⟨c, rfl, q1⟩ := q1
  cases r1
  refine wpAny_truthy_bool ?_
  cases c with
  | false => exact hb pins s1 σ H1 Q I1 q1
  | true => exact ⟨.bl true, H1, I1, rfl, q1⟩
def tIf (t : TT) (ta tb : TE) : TE := fun σ H Q => t σ H fun c H1 => if c = true then ta σ H1 Q else tb σ H1 Q
theorem pe_ifExp {c : Expr} (hc : PT X c tA) (ha : PE X a ta) (hb : PE X b tb) : PE X (.IfExp c a b pos) (tIf tA ta tb) := by
  intro pins s σ H Q I h
  refine wpAny_IfExp (thn (hc pins s σ H _ I h) fun d s1 ⟨H1, I1, q1⟩ => ?_)
  cases d with
  | true => exact ha pins s1 σ H1 Q I1 q1
  | false => exact hb pins s1 σ H1 Q I1 q1
end
end L2
namespace L2
open PySem PySem.Spec PyProof.Rows
def SqL (K : PySem.W.Frag) (H : Hp) (a : Addr) (xs : List V) : Prop :=
  Rd H a (.lst xs) ∨
    ∃ (o : Obj) (its : Array Value) (n : Nat), K.lookup a = some o ∧ o.cls = .type "list" ∧ o.dict = none ∧ o.data = .seq its n ∧ its.size ≤ sizeLine ∧ Vals xs its.toList
def SqT (K : PySem.W.Frag) (H : Hp) (a : Addr) (xs : List V) : Prop :=
  Rd H a (.tup xs) ∨
    ∃ (o : Obj) (its : Array Value) (n : Nat), K.lookup a = some o ∧ o.cls = .type "tuple" ∧ o.data = .seq its n ∧ its.size ≤ sizeLine ∧ Vals xs its.toList
def absV : Value → Option V
  | .none => some .non
  | .bool b => some (.bl b)
  | .int i _ => some (.int i)
  | .str x _ => some (.str x)
  | .bytes b _ => some (.byt b)
  | .float b _ => some (.flt b)
  | .ref a => some (.ref a)
  | .type n => some (.ty n)
  | _ => none
theorem RelV.abs {x : V} {u : Value} (r : RelV x u) : absV u = some x := by
  cases x with
  | non => cases r; rfl
  | bl _ => cases r; rfl
  | int _ => obtain ⟨t, rfl⟩ := r; rfl
  | str _ => obtain ⟨t, rfl⟩ := r; rfl
  | byt _ => obtain ⟨t, rfl⟩ := r; rfl
  | flt _ => obtain ⟨t, rfl⟩ := r; rfl
  | ref _ => cases r; rfl
  | ty _ => cases r; rfl
theorem RelV.inj {x y : V} {u : Value} (r : RelV x u) (q : RelV y u) : x = y := Option.some.inj (r.abs.symm.trans q.abs)
theorem Vals.inj : ∀ {xs ys : List V} {us : List Value}, Vals xs us → Vals ys us → xs = ys
  | _, _, _, .nil, .nil => rfl
  | _, _, _, .cons r t, .cons r' t' => by rw [r.inj r', Vals.inj t t']
section
variable {X : Cx} {pins : List (Addr × Obj)} {σ : St} {H : Hp} {s : Shared} {a : Addr} {xs ys : List V}
theorem SqL.of {K : PySem.W.Frag} (h : H a = some (.lst xs)) : SqL K H a xs := .inl (.inl h)
theorem SqT.of {K : PySem.W.Frag} (h : H a = some (.tup xs)) : SqT K H a xs := .inl (.inl h)
theorem Inv.list (I : Inv X pins σ H s) (h : SqL X.K H a xs) : ∃ its : List Value, Vals xs its ∧ PlainL s.heap a its.toArray ∧ xs.length ≤ sizeLine := by
  rcases h with h | ⟨o, its, n, hk, hc, hd, hs, hz, r⟩
  · obtain ⟨z, its, n, r, e⟩ := h.ok I.hok
    exact ⟨its, r, ⟨_, n, e, rfl, rfl, rfl⟩, z⟩
  · refine ⟨its.toList, r, ⟨o, n, I.kIn a o hk, hc, hd, by simpa using hs⟩, ?_⟩
    have e := r.length
    simp only [Array.length_toList] at e
    omega
theorem Inv.tuple (I : Inv X pins σ H s) (h : SqT X.K H a xs) : ∃ its : List Value, Vals xs its ∧ IsTup s.heap a its.toArray ∧ xs.length ≤ sizeLine := by
  rcases h with h | ⟨o, its, n, hk, hc, hs, hz, r⟩
  · obtain ⟨z, its, r, p⟩ := h.ok I.hok
    exact ⟨its, r, p, z⟩
  · refine ⟨its.toList, r, ⟨o, I.kIn a o hk, hc, n, by simpa using hs⟩, ?_⟩
    have e := r.length
    simp only [Array.length_toList] at e
    omega
theorem Inv.list_inj (I : Inv X pins σ H s) (h : SqL X.K H a xs) (h' : SqL X.K H a ys) : xs = ys := by
  obtain ⟨its, r, ⟨o, n, e, _, _, d⟩, _⟩ := I.list h
  obtain ⟨its', r', ⟨o', n', e', _, _, d'⟩, _⟩ := I.list h'
  rw [e] at e'; cases e'
  rw [d] at d'
  injection d' with d1 _
  have : its = its' := by simpa using congrArg Array.toList d1
  subst this
  exact r.inj r'
end
abbrev Cx.wish (X : Cx) (E : Value → Shared → Prop) : Cx := { X with xe := E }
abbrev Cx.nox (X : Cx) : Cx := X.wish fun _ _ => False
theorem Cx.Ok.wish {X : Cx} (ok : X.Ok) (E : Value → Shared → Prop) : (X.wish E).Ok :=
  ⟨ok.mod, ok.kind, ok.glob, ok.blt, ok.above, ok.inj, ok.has, ok.cab, ok.hd, ok.frames, ok.stk, ok.exf, ok.bs, ok.bsz, ok.noex, ok.exfs, ok.funs, ok.frf⟩
theorem Cx.Ok.unwish {X : Cx} {E : Value → Shared → Prop} (ok : (X.wish E).Ok) : X.Ok :=
  ⟨ok.mod, ok.kind, ok.glob, ok.blt, ok.above, ok.inj, ok.has, ok.cab, ok.hd, ok.frames, ok.stk, ok.exf, ok.bs, ok.bsz, ok.noex, ok.exfs, ok.funs, ok.frf⟩
section
variable {X : Cx} {pins : List (Addr × Obj)} {σ : St} {H : Hp} {s : Shared} {E : Value → Shared → Prop}
theorem Inv.wish (I : Inv X pins σ H s) (E : Value → Shared → Prop) : Inv (X.wish E) pins σ H s := ⟨I.ok.wish E, I.os, I.bare, I.base, I.loc, I.cell, I.free, I.freeC, I.pin, I.hok, I.len⟩
theorem Inv.unwish (I : Inv (X.wish E) pins σ H s) : Inv X pins σ H s := ⟨I.ok.unwish, I.os, I.bare, I.base, I.loc, I.cell, I.free, I.freeC, I.pin, I.hok, I.len⟩
theorem SP.unwish {D : Ends} {f : Flow} {s' : Shared} (h : SP (X.wish E) pins D f s') : SP X pins D f s' := by
  cases f with
  | next => obtain ⟨σ', H', I, q⟩ := h; exact ⟨σ', H', I.unwish, q⟩
  | brk => obtain ⟨σ', H', I, q⟩ := h; exact ⟨σ', H', I.unwish, q⟩
  | cont => obtain ⟨σ', H', I, q⟩ := h; exact ⟨σ', H', I.unwish, q⟩
  | ret u => obtain ⟨v, σ', H', I, r, q⟩ := h; exact ⟨v, σ', H', I.unwish, r, q⟩
theorem PSs.nox {st : List Stmt} {t : TS} (h : PSs X.nox st t) : PSs X st t := fun pins s σ H D I hw =>
  wpAny_mono (h pins s σ H D (I.wish _) hw) (fun _ _ q => q.unwish) fun _ _ z => False.elim z
end
section
variable {X : Cx} {st : Stmt} {rest : List Stmt} {t u : TS} {e : Expr} {te : TE} {pos : Pos}
def tNext : TS := fun D σ H => D.nx σ H
def tSeq (t u : TS) : TS := fun D σ H => t { D with nx := u D } σ H
theorem pss_nil : PSs X [] tNext := fun _ _ σ H _ I h => wpAny_execs_nil ⟨σ, H, I, h⟩
theorem pss_cons (h1 : PS X st t) (h2 : PSs X rest u) : PSs X (st :: rest) (tSeq t u) := by
  intro pins s σ H D I h
  refine wpAny_execs_cons (thn (h1 pins s σ H { D with nx := u D } I h) fun f s1 q => ?_)
  cases f with
  | next =>
    obtain ⟨σ', H', I', q⟩ := q
    exact h2 pins s1 σ' H' D I' q
  | ret v => exact q
  | brk => exact q
  | cont => exact q
theorem pss_one (h1 : PS X st t) : PSs X [st] t := by
  intro pins s σ H D I h
  refine wpAny_execs_cons (thn (h1 pins s σ H D I h) fun f s1 q => ?_)
  cases f with
  | next => exact wpAny_execs_nil q
  | ret v => exact q
  | brk => exact q
  | cont => exact q
theorem Inv.quiet {pins : List (Addr × Obj)} {σ : St} {H : Hp} {s : Shared} (I : Inv X pins σ H s) : interactive X.env = false := by simp [interactive, I.ok.kind]
def tDrop (te : TE) : TS := fun D σ H => te σ H fun _ H1 => D.nx σ H1
theorem ps_expr (he : PE X e te) (hs : swapsWith e none pos.line X.env = pure false := by rfl) : PS X (.Expr e pos) (tDrop te) := by
  intro pins s σ H D I h
  exact wpAny_Expr_any (thn (he pins s σ H _ I h) fun v s1 ⟨x, H1, I1, r1, q1⟩ => ⟨σ, H1, I1, q1⟩) I.quiet hs
def tRet (te : TE) : TS := fun D σ H => te σ H D.rt
theorem ps_ret (he : PE X e te) : PS X (.Return (some e) pos) (tRet te) := by
  intro pins s σ H D I h
  exact wpAny_Return_some (thn (he pins s σ H _ I h) fun v s1 ⟨x, H1, I1, r1, q1⟩ => ⟨x, σ, H1, I1, r1, q1⟩)
def tRetN : TS := fun D _ H => D.rt .non H
theorem ps_retN : PS X (.Return none pos) tRetN := fun _ _ σ H _ I h => wpAny_Return_none ⟨.non, σ, H, I, rfl, h⟩
def tIfS (c : TT) (t u : TS) : TS := fun D σ H => c σ H fun b H1 => if b = true then t D σ H1 else u D σ H1
theorem ps_if {c : Expr} {a b : List Stmt} {tc : TT} (hc : PT X c tc) (ha : PSs X a t) (hb : PSs X b u) : PS X (.If c a b pos) (tIfS tc t u) := by
  intro pins s σ H D I h
  refine wpAny_If (thn (hc pins s σ H _ I h) fun d s1 ⟨H1, I1, q1⟩ => ?_)
  cases d with
  | true => exact ha pins s1 σ H1 D I1 q1
  | false => exact hb pins s1 σ H1 D I1 q1
end
abbrev TG := V → St → Hp → (St → Hp → Prop) → Prop
abbrev TGs := List V → St → Hp → (St → Hp → Prop) → Prop
def PG (X : Cx) (target : Expr) (t : TG) : Prop :=
  ∀ (pins : List (Addr × Obj)) (s : Shared) (σ : St) (H : Hp) (v : V) (u : Value) (Q : St → Hp → Prop), Inv X pins σ H s → RelV v u → t v σ H Q →
    wpAny (model X.prog X.w) X.A (assign target X.env u) (fun _ s' => ∃ σ' H', Inv X pins σ' H' s' ∧ Q σ' H') X.xe s
def PGs (X : Cx) (ts : List Expr) (t : TGs) : Prop :=
  ∀ (pins : List (Addr × Obj)) (s : Shared) (σ : St) (H : Hp) (vs : List V) (us : List Value) (Q : St → Hp → Prop), Inv X pins σ H s → Vals vs us → t vs σ H Q →
    wpAny (model X.prog X.w) X.A (assignInOrder ((assignEach ts X.env).map (·.2)) us) (fun _ s' => ∃ σ' H', Inv X pins σ' H' s' ∧ Q σ' H') X.xe s
abbrev TIp := V → V → Hp → VK → Prop
def PIp (X : Cx) (op : Operator) (t : TIp) : Prop :=
  ∀ (pins : List (Addr × Obj)) (s : Shared) (σ : St) (H : Hp) (x y : V) (v u : Value) (Q : VK), Inv X pins σ H s → RelV x v → RelV y u → t x y H Q →
    wpAny (model X.prog X.w) X.A (inplaceOp op v u) (EP X pins σ Q) X.xe s
section
variable {X : Cx} {pos : Pos}
def gName (i : Nat) : TG := fun v σ H Q => Q (σ.set i (some v)) H
theorem pg_name {i : Nat} {x : Str} (hN : X.N.Nodup) (hi : X.N[i]? = some x) (hx : Loc X.env.scope x) (hf : X.fn x = true ∨ X.env.scope.names.lookup x = some .local := by first | exact .inl rfl | exact .inr rfl | assumption) : PG X (.Name x pos) (gName i) := by
  intro pins s σ H v u Q I r h
  exact wpAny_assign_Name (store_ok I hN hi hx r (fun s' I' => ⟨_, H, I', h⟩) hf)
def gNil : TGs := fun vs σ H Q => vs = [] ∧ Q σ H
def gCons (t : TG) (u : TGs) : TGs := fun vs σ H Q => ∃ v r, vs = v :: r ∧ t v σ H fun σ' H' => u r σ' H' Q
theorem pgs_nil : PGs X [] gNil := by
  intro pins s σ H vs us Q I r h
  obtain ⟨e, h⟩ := h
  subst e
  cases r
  exact assignInOrder_nil ⟨σ, H, I, h⟩
theorem pgs_cons {e : Expr} {es : List Expr} {t : TG} {u : TGs} (h1 : PG X e t) (h2 : PGs X es u)
    (hs : (assignEach (e :: es) X.env).map (·.2) = assign e X.env :: (assignEach es X.env).map (·.2) := by rfl) : PGs X (e :: es) (gCons t u) := by
  intro pins s σ H vs us Q I r h
  obtain ⟨v, vr, e1, h⟩ := h
  subst e1
  cases r with
  | cons r rr =>
    rw [hs]
    refine assignInOrder_cons (thn (h1 pins s σ H _ _ _ I r h) fun _ s1 ⟨σ1, H1, I1, q1⟩ => ?_)
    exact h2 pins s1 σ1 H1 _ _ Q I1 rr q1
def gTup (K : PySem.W.Frag) (n : Nat) (t : TGs) : TG := fun v σ H Q => ∃ a xs, v = .ref a ∧ SqT K H a xs ∧ xs.length = n ∧ t xs σ H Q
theorem pg_tup {es : List Expr} {k : Nat} {t : TGs} {n : Nat} (hc : X.calm = true) (h : PGs X es t)
    (hn : (assignEach es X.env).length = n := by rfl) (hst : (assignEach es X.env).findIdx? (·.1) = none := by rfl) : PG X (.Tuple es k pos) (gTup X.K n t) := by
  intro pins s σ H v u Q I r hw
  obtain ⟨a, xs, e1, hq, hl, hw⟩ := hw
  subst e1
  cases r
  obtain ⟨its, rv, ht, hz⟩ := I.tuple hq
  refine assign_Tuple_tuple (I.ok.hd hc) ht (by simp [hn, ← hl, rv.length]) hst fun h' hx => ?_
  have I1 : Inv X pins σ H { s with heap := h' } := I.kept (t' := s.toks) fun b o e => hx b o (Nat.ne_of_lt (Heap.lt_size e)) e
  exact h pins _ σ H xs _ Q I1 (by simpa using rv) hw
def tAsg (te : TE) (g : TG) : TS := fun D σ H => te σ H fun x H1 => g x σ H1 D.nx
theorem ps_set {i : Nat} {x : Str} {e : Expr} {te : TE} {pos' : Pos} (hN : X.N.Nodup) (hi : X.N[i]? = some x) (hx : Loc X.env.scope x) (he : PE X e te) (hs : swapsWith e (some (.Name x pos')) pos.line X.env = pure false := by rfl) (hf : X.fn x = true ∨ X.env.scope.names.lookup x = some .local := by first | exact .inl rfl | exact .inr rfl | assumption) :
    PS X (.Assign [.Name x pos'] e pos) (tAsg te (gName i)) := by
  intro pins s σ H D I h
  refine wpAny_Assign_Name (thn (he pins s σ H _ I h) fun v s1 ⟨y, H1, I1, r1, q1⟩ => ?_) hs
  exact store_ok I1 hN hi hx r1 (fun s2 I2 => ⟨_, H1, I2, q1⟩) hf
def tAug (i : Nat) (te : TE) (ti : TIp) : TS := fun D σ H => ∃ x, σ[i]? = some (some x) ∧ te σ H fun y H1 => ti x y H1 fun z H2 => D.nx (σ.set i (some z)) H2
theorem ps_aug {i : Nat} {x : Str} {e : Expr} {te : TE} {op : Operator} {ti : TIp} {pos' : Pos} (hN : X.N.Nodup) (hi : X.N[i]? = some x) (hx : Loc X.env.scope x) (he : PE X e te) (ho : PIp X op ti) (hf : X.fn x = true ∨ X.env.scope.names.lookup x = some .local := by first | exact .inl rfl | exact .inr rfl | assumption) :
    PS X (.AugAssign (.Name x pos') op e pos) (tAug i te ti) := by
  intro pins s σ H D I h
  obtain ⟨v, e1, h⟩ := h
  obtain ⟨m, hn, hl⟩ := I.loc
  have vis : Vis X.env.scope x := by rcases hx with k | k; exact .inl k; exact .inr (.inl k)
  obtain ⟨u, r, l⟩ := hl i x v hi e1 vis
  refine wpAny_AugAssign_Name ?_
  have go : wpAny (model X.prog X.w) X.A (eval e X.env) (fun w s₂ => wpAny (model X.prog X.w) X.A (inplaceOp op u w) (fun r s₃ => wpAny (model X.prog X.w) X.A (storeName X.env x r) (fun _ => SP X pins D .next) X.xe s₃) X.xe s₂) X.xe s := by
    refine thn (he pins s σ H _ I h) fun w s1 ⟨y, H1, I1, r1, q1⟩ => ?_
    refine thn (ho pins s1 σ H1 v y u w _ I1 r r1 q1) fun z s2 ⟨zv, H2, I2, r2, q2⟩ => ?_
    exact store_ok I2 hN hi hx r2 (fun s3 I3 => ⟨_, H2, I3, q2⟩) hf
  rcases l with ⟨hk, hm⟩ | ⟨hk, c, hc, hcell⟩
  · exact wpAny_loadName_local I.ok.kind hk hn hm go
  · rcases hk with hk | hk
    · exact wpAny_loadName_cell I.ok.kind hk hc hcell go
    · rcases hx with k | k
      · have : X.env.scope.names.lookup x = some .free := hk
        rw [k] at this; cases this
      · have : X.env.scope.names.lookup x = some .free := hk
        rw [k] at this; cases this
def ipI (f : Int → Int → Int) : TIp := fun x y H Q => ∃ i j, x = .int i ∧ y = .int j ∧ Q (.int (f i j)) H
theorem ip_add : PIp X .Add (ipI fun i j => i + j) := by
  intro pins s σ H x y v u Q I r1 r2 h
  obtain ⟨i, j, e1, e2, q⟩ := h
  subst e1; subst e2
  obtain ⟨t, rfl⟩ := r1
  obtain ⟨t', rfl⟩ := r2
  exact iadd_int ⟨.int _, H, I.tok _, ⟨_, rfl⟩, q⟩
theorem ip_sub : PIp X .Sub (ipI fun i j => i - j) := by
  intro pins s σ H x y v u Q I r1 r2 h
  obtain ⟨i, j, e1, e2, q⟩ := h
  subst e1; subst e2
  obtain ⟨t, rfl⟩ := r1
  obtain ⟨t', rfl⟩ := r2
  exact isub_int ⟨.int _, H, I.tok _, ⟨_, rfl⟩, q⟩
end
section
variable {X : Cx} {pos : Pos}
def tWhile (c : TT) (tb : TS) : TS := fun D σ H => ∃ W : Nat → St → Hp → Prop, (∃ m, W m σ H) ∧ ∀ m σ H, W m σ H →
  c σ H fun b H1 => if b = true then ∃ N : St → Hp → Prop, (∀ σ' H', N σ' H' → ∃ m', m' < m ∧ W m' σ' H') ∧ tb { D with nx := N, ct := N, bk := D.nx } σ H1 else D.nx σ H1
theorem ps_while {c : Expr} {body : List Stmt} {tc : TT} {tb : TS} (hp : PassesOwn (model X.prog X.w) X.A X.env X.xe) (hc : PT X c tc) (hb : PSs X body tb) : PS X (.While c body [] pos) (tWhile tc tb) := by
  intro pins s σ H D I h
  obtain ⟨W, ⟨m0, w0⟩, turn⟩ := h
  refine wpAny_While (codeAny_whileLoop (fun n s' => ∃ σ' H', Inv X pins σ' H' s' ∧ W n σ' H') ?_ m0 ⟨σ, H, I, w0⟩)
  rintro n s1 ⟨σ1, H1, I1, w1⟩
  refine wpAny_passesOwn hp (thn (hc pins s1 σ1 H1 _ I1 (turn n σ1 H1 w1)) fun b s2 ⟨H2, I2, q2⟩ => ?_)
  cases b with
  | true =>
    obtain ⟨N, hN, q2⟩ := q2
    rw [if_pos rfl]
    refine wpAny_passesOwn hp (thn (hb pins s2 σ1 H2 _ I2 q2) fun f s3 q3 => ?_)
    cases f with
    | next =>
      obtain ⟨σ3, H3, I3, n3⟩ := q3
      obtain ⟨m', hm, w3⟩ := hN σ3 H3 n3
      exact ⟨m', hm, σ3, H3, I3, w3⟩
    | cont =>
      obtain ⟨σ3, H3, I3, n3⟩ := q3
      obtain ⟨m', hm, w3⟩ := hN σ3 H3 n3
      exact ⟨m', hm, σ3, H3, I3, w3⟩
    | brk => exact q3
    | ret v => exact q3
  | false =>
    rw [if_neg Bool.false_ne_true]
    exact wpAny_execs_nil ⟨σ1, H2, I2, q2⟩
end
structure It where
  go : Nat → Hp → Prop
  yld : Nat → Hp → V → Hp → Prop
  stop : Nat → Hp → Prop
def FpOk (X : Cx) (pins : List (Addr × Obj)) (H : Hp) (b : Addr) : Prop :=
  H b = none ∧ b ≠ X.env.locals ∧ b ∉ X.fs ∧ (b ∈ X.ex ∨ X.s_0.heap.objs.size ≤ b) ∧ (∀ x c, X.env.cells.lookup x = some c → c ≠ b) ∧ ∀ p ∈ X.pn ++ pins, p.1 ≠ b
theorem Inv.fpOk {X : Cx} {pins : List (Addr × Obj)} {σ : St} {H H' : Hp} {s : Shared} {b : Addr} (I : Inv X pins σ H s) (hb : s.heap.objs.size ≤ b) (hn : H' b = none) : FpOk X pins H' b := by
  refine ⟨hn, Nat.ne_of_gt (Nat.lt_of_lt_of_le I.lt hb), I.nofs hb, .inr (Nat.le_trans I.sz hb), fun x c e z => ?_, fun p hp z => ?_⟩
  · obtain ⟨v, q⟩ := I.cell x c e
    exact absurd (Nat.lt_of_lt_of_le q.lt (by rw [z]; exact hb)) (Nat.lt_irrefl _)
  · exact absurd (Nat.lt_of_lt_of_le (Heap.lt_size (I.pin p hp).1) (by rw [z]; exact hb)) (Nat.lt_irrefl _)
structure Turn (P : Program) (w : World) (K : PySem.W.Frag) (tg : Expr) (J : It) (fp : List Addr) (it : Addr) (tn : Nat → Heap → Prop) : Prop where
  mem : it ∈ fp
  obj : ∀ i h, tn i h → ∀ b ∈ fp, ∃ o, h.get? b = some o ∧ ∀ v, o.data ≠ .cell v
  keep : ∀ i h h', tn i h → (∀ b ∈ fp, ∀ o, h.get? b = some o → h'.get? b = some o) → tn i h'
  item : ∀ (X : Cx), X.prog = P → X.w = w → X.K = K → X.calm = true → ∀ (i : Nat) (pins : List (Addr × Obj)) (s : Shared) (σ : St) (H : Hp) (E : Value → Shared → Prop), Inv X pins σ H s → (∀ b ∈ fp, FpOk X pins H b) → tn i s.heap → J.go i H →
    wpAny (model P w) X.A (pyNext (.ref it)) (fun r s1 => ∃ u, r = some u ∧
      wpAny (model P w) X.A (letOwnedTupleGo tg (.ref it) u) (fun _ s2 => ∃ x H', Inv X pins σ H' s2 ∧ RelV x u ∧ J.yld i H x H' ∧ tn (i + 1) s2.heap ∧ ∀ b ∈ fp, H' b = none) E s1) E s
  done : ∀ (X : Cx), X.prog = P → X.w = w → X.K = K → X.calm = true → ∀ (i : Nat) (pins : List (Addr × Obj)) (s : Shared) (σ : St) (H : Hp) (E : Value → Shared → Prop), Inv X pins σ H s → (∀ b ∈ fp, FpOk X pins H b) → tn i s.heap → J.stop i H →
    wpAny (model P w) X.A (pyNext (.ref it)) (fun r s1 => r = none ∧ Inv X pins σ H s1) E s
  self : ∀ (A : Around) (i : Nat) (s : Shared) (Q : Value → Shared → Prop) (E : Value → Shared → Prop), tn i s.heap → Q (.ref it) s → wpAny (model P w) A (pyIter (.ref it)) Q E s
abbrev TI := St → Hp → (It → Hp → Prop) → Prop
def PIE (X : Cx) (pins : List (Addr × Obj)) (σ : St) (tg : Expr) (R : It → Hp → Prop) (itv : Value) (s2 : Shared) : Prop :=
  ∃ (it : Addr) (fp : List Addr) (tn : Nat → Heap → Prop) (J : It) (H' : Hp), itv = .ref it ∧ Inv X pins σ H' s2 ∧ Turn X.prog X.w X.K tg J fp it tn ∧ tn 0 s2.heap ∧ (∀ b ∈ fp, FpOk X pins H' b) ∧ R J H'
def PI (X : Cx) (tg iter : Expr) (wi : TI) : Prop :=
  ∀ (pins : List (Addr × Obj)) (s : Shared) (σ : St) (H : Hp) (R : It → Hp → Prop), Inv X pins σ H s → wi σ H R →
    wpAny (model X.prog X.w) X.A (eval iter X.env) (fun v s1 => wpAny (model X.prog X.w) X.A (pyIter v) (PIE X pins σ tg R) X.xe s1) X.xe s
theorem go_of {M : Model} {A : Around} {E : Value → Shared → Prop} {s : Shared} {tg : Expr} {it : Addr} {u : Value} {o : Obj} {n : String} {vs : Array Value} {Q : Unit → Shared → Prop} (ho : s.heap.get? it = some o) (hc : o.cls = .type n) (hd : o.data = .fields vs)
    (hn : ["enumerate", "zip", "dict_itemiterator", "dict_reverseitemiterator", "odict_iterator", "itertools.zip_longest", "itertools.pairwise"].contains n = false) (hQ : Q () s) : wpAny M A (letOwnedTupleGo tg (.ref it) u) Q E s := by
  unfold letOwnedTupleGo
  cases tg <;> first
    | exact wpAny_pure hQ
    | (cases u <;> first
        | exact wpAny_pure hQ
        | (refine wpAny_bind (wpAny_load ho ?_)
           rw [hc, hd]
           show wpAny M A (if (["enumerate", "zip", "dict_itemiterator", "dict_reverseitemiterator", "odict_iterator", "itertools.zip_longest", "itertools.pairwise"].contains n && vs[0]? == some (rawInt _)) = true then _ else _) Q E s
           rw [if_neg (by intro h; rw [hn, Bool.false_and] at h; cases h)]
           exact wpAny_pure hQ))
def Itl (K : PySem.W.Frag) (a : Addr) : It :=
  ⟨fun i H => ∃ xs x, SqL K H a xs ∧ xs[i]? = some x, fun i H x H' => H' = H ∧ ∀ xs, SqL K H a xs → xs[i]? = some x, fun i H => ∃ xs, SqL K H a xs ∧ xs.length ≤ i⟩
def Itr (lo : Int) (n : Nat) : It := ⟨fun i _ => i < n, fun i H x H' => H' = H ∧ x = .int (lo + i), fun i _ => n ≤ i⟩
theorem turn_list {P : Program} {w : World} {K : PySem.W.Frag} {tg : Expr} (a it : Addr) : Turn P w K tg (Itl K a) [it] it (fun i h => h.IsListIter it a i) where
  mem := by simp
  obj := fun i h st b hb => by
    have e : b = it := by simpa using hb
    subst e
    obtain ⟨o, e, c, d⟩ := st
    exact ⟨o, e, fun v z => by rw [d] at z; cases z⟩
  keep := fun i h h' st k => st.at fun o e => k it (by simp) o e
  item := by
    intro X hP hw hK hc i pins s σ H E I hf st hg
    subst hP hw hK
    obtain ⟨xs, x, hq, hx⟩ := hg
    obtain ⟨its, rv, p, hz⟩ := I.list hq
    obtain ⟨u, hu, ru⟩ := rv.get hx
    obtain ⟨f0, f1, f2, f3, f4, f5⟩ := hf it (by simp)
    refine wpAny_pyNext_list_item st p.isList (x := u) (by simpa using hu) fun h' st' sb => ?_
    have I1 : Inv X pins σ H { s with heap := h' } := I.turned (t' := s.toks) (fun b o hb e => (sb.2 b hb).trans e) f0 f1 f3 f4 f5
    obtain ⟨o, e, c, d⟩ := id st'
    exact ⟨u, rfl, go_of (s := { s with heap := h' }) e c d (by decide) ⟨x, H, I1, ru, ⟨rfl, fun ys hy => by rw [I.list_inj hy hq]; exact hx⟩, st', fun b hb => (hf b hb).1⟩⟩
  done := by
    intro X hP hw hK hc i pins s σ H E I hf st hg
    subst hP hw hK
    obtain ⟨xs, hq, hx⟩ := hg
    obtain ⟨its, rv, p, hz⟩ := I.list hq
    obtain ⟨f0, f1, f2, f3, f4, f5⟩ := hf it (by simp)
    have hl := rv.length
    exact wpAny_pyNext_list_end (I.ok.hd hc) st p.isList (by simp; omega) fun h' eb => ⟨rfl, I.turned (t' := s.toks) (fun b o hb e => eb b o hb e) f0 f1 f3 f4 f5⟩
  self := fun _ _ _ _ _ st h => wpAny_pyIter_listiter st h
theorem turn_range {P : Program} {w : World} {K : PySem.W.Frag} {tg : Expr} (it : Addr) (lo : Int) (n : Nat) : Turn P w K tg (Itr lo n) [it] it (fun i h => IsRangeIter h it (lo + (i : Nat) * 1) ((n : Int) - (i : Nat)) 1) where
  mem := by simp
  obj := fun i h st b hb => by
    have e : b = it := by simpa using hb
    subst e
    exact ⟨_, st, fun v z => by
      have z' : Data.fields _ = Data.cell v := z
      cases z'⟩
  keep := fun i h h' st k => k it (by simp) _ st
  item := by
    intro X hP hw hK hc i pins s σ H E I hf st hg
    subst hP hw hK
    obtain ⟨f0, f1, f2, f3, f4, f5⟩ := hf it (by simp)
    have W := Walks.range (prog := X.prog) (w := X.w) (I.ok.hd hc) it lo 1 n
    refine W.item i s _ _ hg st fun v h' tk hv st' kk => ?_
    obtain ⟨t, rfl⟩ := hv
    have I1 : Inv X pins σ H { s with heap := h', toks := tk } := I.turned (fun b o hb e => kk b o (by simpa using hb) e) f0 f1 f3 f4 f5
    refine ⟨_, rfl, go_of (s := { s with heap := h', toks := tk }) (n := "range_iterator") st' rfl rfl (by decide) ⟨.int (lo + i), H, I1, ⟨t, ?_⟩, ⟨rfl, rfl⟩, st', fun b hb => (hf b hb).1⟩⟩
    rw [Int.mul_one]
  done := by
    intro X hP hw hK hc i pins s σ H E I hf st hg
    subst hP hw hK
    obtain ⟨f0, f1, f2, f3, f4, f5⟩ := hf it (by simp)
    exact wpAny_pyNext_range_end (I.ok.hd hc) st (by have : n ≤ i := hg; omega) fun h' eb => ⟨rfl, I.turned (t' := s.toks) (fun b o hb e => eb b o hb e) f0 f1 f3 f4 f5⟩
  self := fun _ _ _ _ _ st h => wpAny_pyIter_rangeiter st h
end L2
namespace L2
open PySem PySem.Spec PyProof.Rows
section
variable {X : Cx} {tg : Expr}
def iList (K : PySem.W.Frag) (tl : TE) : TI := fun σ H R => tl σ H fun x H1 => ∃ a, x = .ref a ∧ (∃ xs, SqL K H1 a xs) ∧ R (Itl K a) H1
theorem pi_list {l : Expr} {tl : TE} (hl : PE X l tl) : PI X tg l (iList X.K tl) := by
  intro pins s σ H R I h
  refine thn (hl pins s σ H _ I h) fun v s1 ⟨x, H1, I1, r1, q1⟩ => ?_
  obtain ⟨a, e, ⟨xs, hq⟩, q⟩ := q1
  subst e
  cases r1
  obtain ⟨its, rv, p, hz⟩ := I1.list hq
  refine wpAny_pyIter_list p.isList ?_
  refine ⟨s1.heap.objs.size, [s1.heap.objs.size], _, _, H1, rfl, I1.kept (t' := s1.toks) fun b o e => Heap.get?_push_of_some _ e, turn_list a _, ⟨_, Heap.get?_push_size _ rfl, rfl, rfl⟩, fun b hb => ?_, q⟩
  have e : b = s1.heap.objs.size := by simpa using hb
  subst e
  exact I1.fpOk (Nat.le_refl _) (I1.hok.fresh (Nat.le_refl _))
theorem range_it {pins : List (Addr × Obj)} {σ : St} {H : Hp} {s : Shared} {R : It → Hp → Prop} {E : Value → Shared → Prop} {lo hi : Int} {t u v : Tok} {tk : Nat} (I : Inv X pins σ H s) (h1 : -(2 ^ 62) ≤ lo) (h2 : lo < 2 ^ 62) (h3 : -(2 ^ 62) ≤ hi) (h4 : hi < 2 ^ 62)
    (q : R (Itr lo (hi - lo).toNat) H) : wpAny (model X.prog X.w) X.A (pyIter (.ref s.heap.objs.size)) (PIE X pins σ tg R) E { s with heap := s.heap.push { cls := .type "range", data := .fields #[.int lo t, .int hi u, .int 1 v] }, toks := tk } := by
  refine wpAny_pyIter_range (IsRange.new ..) (small_one h1 h2 h3 h4) ?_
  have I1 : Inv X pins σ H { s with heap := s.heap.push { cls := .type "range", data := .fields #[.int lo t, .int hi u, .int 1 v] }, toks := tk } := I.kept fun b o e => Heap.get?_push_of_some _ e
  refine ⟨(s.heap.push { cls := .type "range", data := .fields #[.int lo t, .int hi u, .int 1 v] }).objs.size, [(s.heap.push { cls := .type "range", data := .fields #[.int lo t, .int hi u, .int 1 v] }).objs.size], _, _, H, rfl,
    I1.kept (t' := tk) fun b o e => Heap.get?_push_of_some _ e, turn_range _ lo (hi - lo).toNat, ?_, fun b hb => ?_, q⟩
  · have e1 : lo + ((0 : Nat) : Int) * 1 = lo := by simp
    have e2 : (((hi - lo).toNat : Nat) : Int) - ((0 : Nat) : Int) = Builtin.Range.rangeSize lo hi 1 := by rw [rangeSize_one]; split <;> omega
    show IsRangeIter _ _ (lo + ((0 : Nat) : Int) * 1) ((((hi - lo).toNat : Nat) : Int) - ((0 : Nat) : Int)) 1
    rw [e1, e2]
    exact Heap.get?_push_size _ rfl
  · have e : b = (s.heap.push { cls := .type "range", data := .fields #[.int lo t, .int hi u, .int 1 v] }).objs.size := by simpa using hb
    subst e
    exact I1.fpOk (Nat.le_refl _) (I1.hok.fresh (Nat.le_refl _))
def iRng1 (ta : TA) : TI := fun σ H R => ta σ H fun vs H1 => ∃ j : Int, vs = [.int j] ∧ -(2 ^ 62) ≤ j ∧ j < 2 ^ 62 ∧ R (Itr 0 j.toNat) H1
theorem pi_range1 {a : Expr} {ta : TA} {p pos : Pos} (hg : Gl X "range") (hm : X.mg "range" = none) (ha : PA X [a] ta) (hs : starEach [a] X.env = [(false, eval a X.env)] := by rfl) : PI X tg (.Call (.Name "range" p) [a] [] pos) (iRng1 ta) := by
  intro pins s σ H R I h
  refine Call_ (ld_blt I hg hm boot_range (PyProof.Rows.callWith_type1 (thn (ha pos pins s σ H _ I h) fun us s1 ⟨vs, H1, I1, r1, q1⟩ => ?_) hs rfl))
  obtain ⟨j, e, q1, q2, q⟩ := q1
  subst e
  cases r1 with
  | cons r rr =>
    cases rr
    obtain ⟨t, rfl⟩ := r
    exact call_range_1 (range_it I1 (by omega) (by omega) q1 q2 (by simpa using q))
def tFor (wi : TI) (g : TG) (tb : TS) : TS := fun D σ H => wi σ H fun J H1 => ∃ W : Nat → Nat → St → Hp → Prop, (∃ m, W 0 m σ H1) ∧ ∀ i m σ H, W i m σ H →
  (J.stop i H ∧ D.nx σ H) ∨ (J.go i H ∧ ∃ N : St → Hp → Prop, (∀ σ' H', N σ' H' → ∃ m', m' < m ∧ W (i + 1) m' σ' H') ∧ ∀ x H', J.yld i H x H' → g x σ H' fun σ2 H2 => tb { D with nx := N, ct := N, bk := D.nx } σ2 H2)
def pinsAt (fp : List Addr) (h : Heap) : List (Addr × Obj) := fp.filterMap fun b => (h.get? b).map fun o => (b, o)
theorem mem_pinsAt {fp : List Addr} {h : Heap} {b : Addr} {o : Obj} (hb : b ∈ fp) (e : h.get? b = some o) : (b, o) ∈ pinsAt fp h := List.mem_filterMap.mpr ⟨b, hb, by rw [e]; rfl⟩
theorem of_pinsAt {fp : List Addr} {h : Heap} {p : Addr × Obj} (hp : p ∈ pinsAt fp h) : p.1 ∈ fp ∧ h.get? p.1 = some p.2 := by
  obtain ⟨b, hb, e⟩ := List.mem_filterMap.mp hp
  cases q : h.get? b with
  | none => rw [q] at e; cases e
  | some o =>
    rw [q] at e
    have e' : (b, o) = p := Option.some.inj e
    subst e'
    exact ⟨hb, q⟩
theorem Inv.pinned {pins : List (Addr × Obj)} {σ : St} {H : Hp} {s : Shared} {fp : List Addr} (I : Inv X pins σ H s) (hf : ∀ b ∈ fp, FpOk X pins H b) (ho : ∀ b ∈ fp, ∃ o, s.heap.get? b = some o ∧ ∀ v, o.data ≠ .cell v) : Inv X (pins ++ pinsAt fp s.heap) σ H s :=
  I.pins_of fun p hp => (List.mem_append.mp hp).elim (fun z => I.pin p (List.mem_append_right _ z)) fun z => by
    obtain ⟨hb, e⟩ := of_pinsAt z
    obtain ⟨f0, f1, f2, _⟩ := hf p.1 hb
    obtain ⟨o, e', d⟩ := ho p.1 hb
    rw [e] at e'; cases e'
    exact ⟨e, f0, f1, f2, d⟩
theorem Inv.unpinned {pins pl : List (Addr × Obj)} {σ : St} {H : Hp} {s : Shared} (I : Inv X (pins ++ pl) σ H s) : Inv X pins σ H s := I.pins_of fun p hp => I.pin p (List.mem_append_right _ (List.mem_append_left _ hp))
theorem ps_for {iter : Expr} {body : List Stmt} {wi : TI} {g : TG} {tb : TS} {pos : Pos} (hp : PassesOwn (model X.prog X.w) X.A X.env X.xe) (hc : X.calm = true) (hi : PI X tg iter wi) (hg : PG X tg g) (hb : PSs X body tb)
    (hs : ∀ x, foldedSetIterable iter X.env x = pure x := by intro _; rfl) : PS X (.For tg iter body [] pos) (tFor wi g tb) := by
  intro pins s σ H D I h
  refine wpAny_For (thn (hi pins s σ H _ I h) fun v s1 h1 => thn h1 fun itv s2 h2 => ?_) hs
  obtain ⟨it, fp, tn, J, H2, e, I2, T, st2, f2, W, ⟨m0, w0⟩, turn⟩ := h2
  subst e
  -- what stays true of the iterator's objects through the loop
  have stat : ∀ {H' : Hp}, (∀ b ∈ fp, H' b = none) → ∀ b ∈ fp, FpOk X pins H' b := fun hn b hb => ⟨hn b hb, (f2 b hb).2⟩
  refine codeAny_forLoop_any (fun n s' => ∃ i σ' H', Inv X pins σ' H' s' ∧ tn i s'.heap ∧ (∀ b ∈ fp, H' b = none) ∧ W i n σ' H') ?_ m0 ⟨0, σ, H2, I2, st2, fun b hb => (f2 b hb).1, w0⟩
  rintro n s3 ⟨i, σ3, H3, I3, st3, fr3, w3⟩
  rcases turn i n σ3 H3 w3 with ⟨stop, qn⟩ | ⟨go, N, hN, step⟩
  · refine wpAny_passesOwn hp (thn (T.done X rfl rfl rfl hc i pins s3 σ3 H3 X.xe I3 (stat fr3) st3 stop) fun r s4 ⟨hr, I4⟩ => ?_)
    subst hr
    exact wpAny_execs_nil ⟨σ3, H3, I4, qn⟩
  · refine wpAny_passesOwn hp (thn (T.item X rfl rfl rfl hc i pins s3 σ3 H3 X.xe I3 (stat fr3) st3 go) fun r s4 ⟨u, hr, h4⟩ => ?_)
    subst hr
    refine wpAny_passesOwn hp (thn h4 fun _ s5 ⟨x, H5, I5, r5, y5, st5, fr5⟩ => ?_)
    have I5' := I5.pinned (stat fr5) (T.obj _ _ st5)
    refine wpAny_passesOwn hp (thn (hg _ s5 σ3 H5 x u _ I5' r5 (step x H5 y5)) fun _ s6 ⟨σ6, H6, I6, q6⟩ => ?_)
    refine wpAny_passesOwn hp (thn (hb _ s6 σ6 H6 _ I6 q6) fun f s7 q7 => ?_)
    have again : ∀ {σ7 : St} {H7 : Hp}, Inv X (pins ++ pinsAt fp s5.heap) σ7 H7 s7 → N σ7 H7 → ∃ m, m < n ∧ ∃ i σ' H', Inv X pins σ' H' s7 ∧ tn i s7.heap ∧ (∀ b ∈ fp, H' b = none) ∧ W i m σ' H' := fun {σ7 H7} I7 n7 => by
      obtain ⟨m', hm, w7⟩ := hN σ7 H7 n7
      refine ⟨m', hm, i + 1, σ7, H7, I7.unpinned, T.keep _ _ _ st5 fun b hb o e => (I7.pin (b, o) (List.mem_append_right _ (List.mem_append_right _ (mem_pinsAt hb e)))).1, fun b hb => ?_, w7⟩
      obtain ⟨o, e, d⟩ := T.obj _ _ st5 b hb
      exact (I7.pin (b, o) (List.mem_append_right _ (List.mem_append_right _ (mem_pinsAt hb e)))).2.1
    cases f with
    | next => obtain ⟨σ7, H7, I7, n7⟩ := q7; exact again I7 n7
    | cont => obtain ⟨σ7, H7, I7, n7⟩ := q7; exact again I7 n7
    | brk => obtain ⟨σ7, H7, I7, q7⟩ := q7; exact ⟨σ7, H7, I7.unpinned, q7⟩
    | ret v => obtain ⟨x7, σ7, H7, I7, r7, q7⟩ := q7; exact ⟨x7, σ7, H7, I7.unpinned, r7, q7⟩
end
theorem for_list {K : PySem.W.Frag} {a : Addr} {xs : List V} {g : TG} {tb : TS} {D : Ends} {σ : St} {H : Hp} (Pv : Nat → St → Hp → Prop) (h0 : Pv 0 σ H) (hl : ∀ i σ H, i ≤ xs.length → Pv i σ H → SqL K H a xs)
    (hs : ∀ i x σ H, xs[i]? = some x → Pv i σ H → g x σ H fun σ2 H2 => tb { D with nx := Pv (i + 1), ct := Pv (i + 1), bk := D.nx } σ2 H2) (hd : ∀ σ H, Pv xs.length σ H → D.nx σ H) :
    ∃ W : Nat → Nat → St → Hp → Prop, (∃ m, W 0 m σ H) ∧ ∀ i m σ H, W i m σ H →
      ((Itl K a).stop i H ∧ D.nx σ H) ∨ ((Itl K a).go i H ∧ ∃ N : St → Hp → Prop, (∀ σ' H', N σ' H' → ∃ m', m' < m ∧ W (i + 1) m' σ' H') ∧ ∀ x H', (Itl K a).yld i H x H' → g x σ H' fun σ2 H2 => tb { D with nx := N, ct := N, bk := D.nx } σ2 H2) := by
  refine ⟨fun i m σ H => m = xs.length - i ∧ i ≤ xs.length ∧ Pv i σ H, ⟨xs.length, by simp, Nat.zero_le _, h0⟩, ?_⟩
  rintro i m σ H ⟨rfl, hi, p⟩
  have q := hl i σ H hi p
  by_cases hlt : i < xs.length
  · refine .inr ⟨⟨xs, xs[i], q, by simp [hlt]⟩, Pv (i + 1), fun σ' H' p' => ⟨xs.length - (i + 1), by omega, rfl, hlt, p'⟩, fun x H' y => ?_⟩
    obtain ⟨e, y⟩ := y
    subst e
    exact hs i x σ _ (y xs q) p
  · have e : i = xs.length := by omega
    subst e
    exact .inl ⟨⟨xs, q, Nat.le_refl _⟩, hd σ H p⟩
theorem for_range {lo : Int} {n : Nat} {g : TG} {tb : TS} {D : Ends} {σ : St} {H : Hp} (Pv : Nat → St → Hp → Prop) (h0 : Pv 0 σ H)
    (hs : ∀ i σ H, i < n → Pv i σ H → g (.int (lo + i)) σ H fun σ2 H2 => tb { D with nx := Pv (i + 1), ct := Pv (i + 1), bk := D.nx } σ2 H2) (hd : ∀ σ H, Pv n σ H → D.nx σ H) :
    ∃ W : Nat → Nat → St → Hp → Prop, (∃ m, W 0 m σ H) ∧ ∀ i m σ H, W i m σ H →
      ((Itr lo n).stop i H ∧ D.nx σ H) ∨ ((Itr lo n).go i H ∧ ∃ N : St → Hp → Prop, (∀ σ' H', N σ' H' → ∃ m', m' < m ∧ W (i + 1) m' σ' H') ∧ ∀ x H', (Itr lo n).yld i H x H' → g x σ H' fun σ2 H2 => tb { D with nx := N, ct := N, bk := D.nx } σ2 H2) := by
  refine ⟨fun i m σ H => m = n - i ∧ i ≤ n ∧ Pv i σ H, ⟨n, by simp, Nat.zero_le _, h0⟩, ?_⟩
  rintro i m σ H ⟨rfl, hi, p⟩
  by_cases hlt : i < n
  · refine .inr ⟨hlt, Pv (i + 1), fun σ' H' p' => ⟨n - (i + 1), by omega, rfl, hlt, p'⟩, fun x H' y => ?_⟩
    obtain ⟨e, y⟩ := y
    subst e y
    exact hs i σ _ hlt p
  · have e : i = n := by omega
    subst e
    exact .inl ⟨Nat.le_refl _, hd σ H p⟩
end L2
namespace L2
open PySem PySem.Spec PyProof.Rows
abbrev R2 := V → V → Hp → VK → Prop
def OpR (X : Cx) (f : Value → Value → Sem Value) (r : R2) : Prop :=
  ∀ (pins : List (Addr × Obj)) (s : Shared) (σ : St) (H : Hp) (x y : V) (v u : Value) (Q : VK), Inv X pins σ H s → RelV x v → RelV y u → r x y H Q →
    wpAny (model X.prog X.w) X.A (f v u) (EP X pins σ Q) X.xe s
def UnR (X : Cx) (f : Value → Sem Value) (r : V → Hp → VK → Prop) : Prop :=
  ∀ (pins : List (Addr × Obj)) (s : Shared) (σ : St) (H : Hp) (x : V) (v : Value) (Q : VK), Inv X pins σ H s → RelV x v → r x H Q →
    wpAny (model X.prog X.w) X.A (f v) (EP X pins σ Q) X.xe s
def CallR (X : Cx) (f : Value) (r : List V → Hp → VK → Prop) : Prop :=
  ∀ (pins : List (Addr × Obj)) (s : Shared) (σ : St) (H : Hp) (xs : List V) (us : List Value) (Q : VK), Inv X pins σ H s → Vals xs us → r xs H Q →
    wpAny (model X.prog X.w) X.A (call f us) (EP X pins σ Q) X.xe s
def TruR (X : Cx) (r : V → Hp → (Bool → Hp → Prop) → Prop) : Prop :=
  ∀ (pins : List (Addr × Obj)) (s : Shared) (σ : St) (H : Hp) (x : V) (v : Value) (Q : Bool → Hp → Prop), Inv X pins σ H s → RelV x v → r x H Q →
    wpAny (model X.prog X.w) X.A (truthy v) (TP X pins σ Q) X.xe s
def tOp (r : R2) (ta tb : TE) : TE := fun σ H Q => ta σ H fun x H1 => tb σ H1 fun y H2 => r x y H2 Q
def tUn (r : V → Hp → VK → Prop) (ta : TE) : TE := fun σ H Q => ta σ H fun x H1 => r x H1 Q
def rI (C : Int → Int → Prop) (g : Int → Int → V) : R2 := fun x y H Q => ∃ i j, x = .int i ∧ y = .int j ∧ C i j ∧ Q (g i j) H
def rI0 (g : Int → Int → V) : R2 := fun x y H Q => ∃ i j, x = .int i ∧ y = .int j ∧ Q (g i j) H
def rU (g : Int → V) : V → Hp → VK → Prop := fun x H Q => ∃ i, x = .int i ∧ Q (g i) H
section
variable {X : Cx} {a b c : Expr} {ta tb tc : TE} {pos : Pos}
theorem binT (ha : PE X a ta) (hb : PE X b tb) {pins : List (Addr × Obj)} {s : Shared} {σ : St} {H : Hp} {R : V → V → Hp → Prop} (I : Inv X pins σ H s)
    (h : ta σ H fun x H1 => tb σ H1 fun y H2 => R x y H2) {Q : Value → Shared → Prop} {f : Value → Value → Sem Value}
    (hf : ∀ v u s2 x y H2, Inv X pins σ H2 s2 → RelV x v → RelV y u → R x y H2 → wpAny (model X.prog X.w) X.A (f v u) Q X.xe s2) :
    wpAny (model X.prog X.w) X.A (eval a X.env) (fun v s₁ => wpAny (model X.prog X.w) X.A (eval b X.env) (fun u s₂ => wpAny (model X.prog X.w) X.A (f v u) Q X.xe s₂) X.xe s₁) X.xe s := by
  refine thn (ha pins s σ H _ I h) fun v s1 ⟨x, H1, I1, r1, q1⟩ => ?_
  refine thn (hb pins s1 σ H1 _ I1 q1) fun u s2 ⟨y, H2, I2, r2, q2⟩ => ?_
  exact hf v u s2 x y H2 I2 r1 r2 q2
theorem pe_op {op : Operator} {r : R2} (ho : OpR X (binaryOp op) r) (ha : PE X a ta) (hb : PE X b tb) : PE X (.BinOp a op b pos) (tOp r ta tb) := by
  intro pins s σ H Q I h
  exact wpAny_BinOp (binT ha hb I h fun v u s2 x y H2 I2 rx ry q => ho pins s2 σ H2 x y v u Q I2 rx ry q)
theorem pe_un {op : UnaryOp} {r : V → Hp → VK → Prop} (ho : UnR X (unaryOp op) r) (ha : PE X a ta) : PE X (.UnaryOp op a pos) (tUn r ta) := by
  intro pins s σ H Q I h
  exact UnaryOp_ (thn (ha pins s σ H _ I h) fun v s1 ⟨x, H1, I1, r1, q1⟩ => ho pins s1 σ H1 x v Q I1 r1 q1)
theorem opI {f : Value → Value → Sem Value} {C : Int → Int → Prop} {g : Int → Int → Int}
    (rule : ∀ (i j : Int) (t u : Tok) (s : Shared) (Q : Value → Shared → Prop) (E : Value → Shared → Prop), C i j → Q (.int (g i j) s.toks) { s with toks := s.toks + 1 } → wpAny (model X.prog X.w) X.A (f (.int i t) (.int j u)) Q E s) :
    OpR X f (rI C fun i j => .int (g i j)) := by
  intro pins s σ H x y v u Q I rx ry h
  obtain ⟨i, j, rfl, rfl, hc, q⟩ := h
  obtain ⟨t, rfl⟩ := rx
  obtain ⟨t', rfl⟩ := ry
  exact rule i j t t' s _ _ hc ⟨.int (g i j), H, I.tok _, ⟨_, rfl⟩, q⟩
theorem opI0 {f : Value → Value → Sem Value} {g : Int → Int → Int}
    (rule : ∀ (i j : Int) (t u : Tok) (s : Shared) (Q : Value → Shared → Prop) (E : Value → Shared → Prop), Q (.int (g i j) s.toks) { s with toks := s.toks + 1 } → wpAny (model X.prog X.w) X.A (f (.int i t) (.int j u)) Q E s) :
    OpR X f (rI0 fun i j => .int (g i j)) := by
  intro pins s σ H x y v u Q I rx ry h
  obtain ⟨i, j, rfl, rfl, q⟩ := h
  obtain ⟨t, rfl⟩ := rx
  obtain ⟨t', rfl⟩ := ry
  exact rule i j t t' s _ _ ⟨.int (g i j), H, I.tok _, ⟨_, rfl⟩, q⟩
theorem opB0 {f : Value → Value → Sem Value} {g : Int → Int → Bool}
    (rule : ∀ (i j : Int) (t u : Tok) (s : Shared) (Q : Value → Shared → Prop) (E : Value → Shared → Prop), Q (.bool (g i j)) s → wpAny (model X.prog X.w) X.A (f (.int i t) (.int j u)) Q E s) :
    OpR X f (rI0 fun i j => .bl (g i j)) := by
  intro pins s σ H x y v u Q I rx ry h
  obtain ⟨i, j, rfl, rfl, q⟩ := h
  obtain ⟨t, rfl⟩ := rx
  obtain ⟨t', rfl⟩ := ry
  exact rule i j t t' s _ _ ⟨.bl (g i j), H, I, rfl, q⟩
def CDiv (i j : Int) : Prop := 0 < j ∧ j < 1073741824
def CPow (i j : Int) : Prop := 0 ≤ j ∧ j ≤ 1000000 ∧ i.natAbs < 2 ^ 64
def CMul (i j : Int) : Prop := (-(2 ^ 64) < i ∧ i < 2 ^ 64) ∨ (-(2 ^ 64) < j ∧ j < 2 ^ 64)
theorem CMul.ok {i j : Int} (h : CMul i j) : IntMulOk i j := by
  rcases h with ⟨h1, h2⟩ | ⟨h1, h2⟩
  · exact .of_left (intBits_le_64 h1 h2)
  · exact .of_right (intBits_le_64 h1 h2)
theorem two_pow_nn (k : Nat) : (0 : Int) ≤ 2 ^ k := by
  rw [two_pow_cast]
  exact Int.natCast_nonneg _
theorem op_add : OpR X (binaryOp .Add) (rI0 fun i j => .int (i + j)) := opI0 fun _ _ _ _ _ _ _ q => add_int q
theorem op_sub : OpR X (binaryOp .Sub) (rI0 fun i j => .int (i - j)) := opI0 fun _ _ _ _ _ _ _ q => sub_int q
theorem op_mul : OpR X (binaryOp .Mult) (rI CMul fun i j => .int (i * j)) := opI fun _ _ _ _ _ _ _ hc q => mul_int q hc.ok
theorem op_fdiv : OpR X (binaryOp .FloorDiv) (rI CDiv fun i j => .int (i / j)) := opI fun i j _ _ _ _ _ hc q => by
  have h1 : (0 : Int) < j := hc.1
  have h2 : j < 1073741824 := hc.2
  exact floordiv_int (by omega) (by rw [Int.fdiv_eq_ediv_of_nonneg i (by omega)]; exact q) (.inl (PyProof.noPylong_small (by omega)))
theorem op_mod : OpR X (binaryOp .Mod) (rI (fun _ j => 0 < j) fun i j => .int (i % j)) := opI fun i j _ _ _ _ _ hc q => by
  have h1 : (0 : Int) < j := hc
  exact mod_int' (by omega) (by rw [Int.fmod_eq_emod_of_nonneg i (by omega)]; exact q)
theorem op_shl : OpR X (binaryOp .LShift) (rI CPow fun i j => .int (i * 2 ^ j.toNat)) := opI fun _ _ _ _ _ _ _ hc q => lshift_int_small hc.1 hc.2.1 hc.2.2 q
theorem op_shr : OpR X (binaryOp .RShift) (rI (fun _ j => 0 ≤ j) fun i j => .int (i / 2 ^ j.toNat)) := opI fun i j _ _ _ _ _ hc q =>
  rshift_int hc (by rw [Int.fdiv_eq_ediv_of_nonneg i (two_pow_nn _)]; exact q)
theorem op_and : OpR X (binaryOp .BitAnd) (rI0 fun i j => .int (Builtin.bitAnd i j)) := opI0 fun _ _ _ _ _ _ _ q => and_int q
theorem op_or : OpR X (binaryOp .BitOr) (rI0 fun i j => .int (Builtin.bitOr i j)) := opI0 fun _ _ _ _ _ _ _ q => or_int q
theorem op_xor : OpR X (binaryOp .BitXor) (rI0 fun i j => .int (Builtin.bitXor i j)) := opI0 fun _ _ _ _ _ _ _ q => xor_int q
theorem unI {f : Value → Sem Value} {g : Int → Int}
    (rule : ∀ (i : Int) (t : Tok) (s : Shared) (Q : Value → Shared → Prop) (E : Value → Shared → Prop), Q (.int (g i) s.toks) { s with toks := s.toks + 1 } → wpAny (model X.prog X.w) X.A (f (.int i t)) Q E s) :
    UnR X f (rU fun i => .int (g i)) := by
  intro pins s σ H x v Q I rx h
  obtain ⟨i, rfl, q⟩ := h
  obtain ⟨t, rfl⟩ := rx
  exact rule i t s _ _ ⟨.int (g i), H, I.tok _, ⟨_, rfl⟩, q⟩
theorem un_neg : UnR X (unaryOp .USub) (rU fun i => .int (-i)) := unI fun _ _ _ _ _ q => neg_int q
end
def scal : V → V → Bool
  | .non, .non => true | .non, .int _ => true | .int _, .non => true | .non, .bl _ => true | .bl _, .non => true | .non, .str _ => true | .str _, .non => true
  | .int _, .int _ => true | .bl _, .bl _ => true | .str _, .str _ => true | .byt _, .byt _ => true
  | .int _, .str _ => true | .str _, .int _ => true | .bl _, .str _ => true | .str _, .bl _ => true
  | _, _ => false
def rEq : R2 := fun x y H Q => scal x y = true ∧ Q (.bl (decide (x = y))) H
def rNe : R2 := fun x y H Q => scal x y = true ∧ Q (.bl (!decide (x = y))) H
theorem dec_int {i j : Int} : decide (V.int i = V.int j) = (i == j) := by
  rw [Bool.eq_iff_iff]
  simp
theorem dec_bl {i j : Bool} : decide (V.bl i = V.bl j) = (i == j) := by
  rw [Bool.eq_iff_iff]
  simp
theorem dec_str {i j : Str} : decide (V.str i = V.str j) = (i == j) := by
  rw [Bool.eq_iff_iff]
  simp
theorem dec_byt {i j : Array UInt8} : decide (V.byt i = V.byt j) = (i.toList == j.toList) := by
  rw [Bool.eq_iff_iff]
  cases i
  cases j
  simp
section
variable {X : Cx} {a b c : Expr} {ta tb tc : TE} {pos : Pos}
theorem fin_bl {pins : List (Addr × Obj)} {σ : St} {H : Hp} {s : Shared} {Q : VK} {k k' : Bool} (I : Inv X pins σ H s) (q : Q (.bl k) H) (e : k = k') : EP X pins σ Q (.bool k') s := by
  subst e
  exact ⟨.bl k, H, I, rfl, q⟩
theorem op_eq : OpR X (compareOp .Eq) rEq := by
  intro pins s σ H x y v u Q I rx ry h
  obtain ⟨hs, q⟩ := h
  cases x with
  | non =>
    cases rx
    cases y with
    | non => cases ry; exact PySem.EqNone.eq_none_none (fin_bl I q (by simp))
    | bl j => cases ry; exact PySem.EqNone.eq_none_bool (fin_bl I q (by simp))
    | int j => obtain ⟨t', rfl⟩ := ry; exact PySem.EqNone.eq_none_int (fin_bl I q (by simp))
    | str j => obtain ⟨t', rfl⟩ := ry; exact PySem.EqNone.eq_none_str (fin_bl I q (by simp))
    | _ => exact absurd (show false = true from hs) Bool.false_ne_true
  | bl i =>
    cases rx
    cases y with
    | non => cases ry; exact PySem.EqNone.eq_bool_none (fin_bl I q (by simp))
    | bl j => cases ry; exact eq_bool (fin_bl I q dec_bl)
    | str j => obtain ⟨t', rfl⟩ := ry; exact PySem.EqMixed.eq_bool_str (fin_bl I q (by simp))
    | _ => exact absurd (show false = true from hs) Bool.false_ne_true
  | int i =>
    obtain ⟨t, rfl⟩ := rx
    cases y with
    | non => cases ry; exact PySem.EqNone.eq_int_none (fin_bl I q (by simp))
    | int j => obtain ⟨t', rfl⟩ := ry; exact eq_int (fin_bl I q dec_int)
    | str j => obtain ⟨t', rfl⟩ := ry; exact PySem.EqMixed.eq_int_str (fin_bl I q (by simp))
    | _ => exact absurd (show false = true from hs) Bool.false_ne_true
  | str i =>
    obtain ⟨t, rfl⟩ := rx
    cases y with
    | non => cases ry; exact PySem.EqNone.eq_str_none (fin_bl I q (by simp))
    | bl j => cases ry; exact PySem.EqMixed.eq_str_bool (fin_bl I q (by simp))
    | int j => obtain ⟨t', rfl⟩ := ry; exact PySem.EqMixed.eq_str_int (fin_bl I q (by simp))
    | str j => obtain ⟨t', rfl⟩ := ry; exact eq_str (fin_bl I q dec_str)
    | _ => exact absurd (show false = true from hs) Bool.false_ne_true
  | byt i =>
    obtain ⟨t, rfl⟩ := rx
    cases y with
    | byt j => obtain ⟨t', rfl⟩ := ry; exact PySem.W.eq_bytes (fin_bl I q dec_byt)
    | _ => exact absurd (show false = true from hs) Bool.false_ne_true
  | _ => cases y <;> exact absurd (show false = true from hs) Bool.false_ne_true
theorem op_ne : OpR X (compareOp .NotEq) rNe := by
  intro pins s σ H x y v u Q I rx ry h
  obtain ⟨hs, q⟩ := h
  cases x with
  | non =>
    cases rx
    cases y with
    | non => cases ry; exact PySem.EqNone.ne_none_none (fin_bl I q (by simp))
    | bl j => cases ry; exact PySem.EqNone.ne_none_bool (fin_bl I q (by simp))
    | int j => obtain ⟨t', rfl⟩ := ry; exact PySem.EqNone.ne_none_int (fin_bl I q (by simp))
    | str j => obtain ⟨t', rfl⟩ := ry; exact PySem.EqNone.ne_none_str (fin_bl I q (by simp))
    | _ => exact absurd (show false = true from hs) Bool.false_ne_true
  | bl i =>
    cases rx
    cases y with
    | non => cases ry; exact PySem.EqNone.ne_bool_none (fin_bl I q (by simp))
    | bl j => cases ry; exact ne_bool (fin_bl I q (congrArg not dec_bl))
    | str j => obtain ⟨t', rfl⟩ := ry; exact PySem.EqMixed.ne_bool_str (fin_bl I q (by simp))
    | _ => exact absurd (show false = true from hs) Bool.false_ne_true
  | int i =>
    obtain ⟨t, rfl⟩ := rx
    cases y with
    | non => cases ry; exact PySem.EqNone.ne_int_none (fin_bl I q (by simp))
    | int j => obtain ⟨t', rfl⟩ := ry; exact ne_int (fin_bl I q (congrArg not dec_int))
    | str j => obtain ⟨t', rfl⟩ := ry; exact PySem.EqMixed.ne_int_str (fin_bl I q (by simp))
    | _ => exact absurd (show false = true from hs) Bool.false_ne_true
  | str i =>
    obtain ⟨t, rfl⟩ := rx
    cases y with
    | non => cases ry; exact PySem.EqNone.ne_str_none (fin_bl I q (by simp))
    | bl j => cases ry; exact PySem.EqMixed.ne_str_bool (fin_bl I q (by simp))
    | int j => obtain ⟨t', rfl⟩ := ry; exact PySem.EqMixed.ne_str_int (fin_bl I q (by simp))
    | str j => obtain ⟨t', rfl⟩ := ry; exact ne_str (fin_bl I q (congrArg not dec_str))
    | _ => exact absurd (show false = true from hs) Bool.false_ne_true
  | byt i =>
    obtain ⟨t, rfl⟩ := rx
    cases y with
    | byt j => obtain ⟨t', rfl⟩ := ry; exact PySem.W.ne_bytes (fin_bl I q (congrArg not dec_byt))
    | _ => exact absurd (show false = true from hs) Bool.false_ne_true
  | _ => cases y <;> exact absurd (show false = true from hs) Bool.false_ne_true
theorem op_lt : OpR X (compareOp .Lt) (rI0 fun i j => .bl (decide (i < j))) := opB0 fun _ _ _ _ _ _ _ q => lt_int q
theorem op_le : OpR X (compareOp .LtE) (rI0 fun i j => .bl (decide (i ≤ j))) := opB0 fun _ _ _ _ _ _ _ q => le_int q
theorem op_gt : OpR X (compareOp .Gt) (rI0 fun i j => .bl (decide (j < i))) := opB0 fun _ _ _ _ _ _ _ q => gt_int q
theorem op_ge : OpR X (compareOp .GtE) (rI0 fun i j => .bl (decide (j ≤ i))) := opB0 fun _ _ _ _ _ _ _ q => ge_int q
theorem op_isN : OpR X (compareOp .Is) (fun x y H Q => y = .non ∧ Q (.bl (decide (x = .non))) H) := by
  intro pins s σ H x y v u Q I rx ry h
  obtain ⟨rfl, q⟩ := h
  cases ry
  refine is_none_gen (fin_bl I q ?_)
  cases x <;> first
    | (cases rx; rfl)
    | (obtain ⟨t, rfl⟩ := rx; rfl)
theorem op_notN : OpR X (compareOp .IsNot) (fun x y H Q => y = .non ∧ Q (.bl (!decide (x = .non))) H) := by
  intro pins s σ H x y v u Q I rx ry h
  obtain ⟨rfl, q⟩ := h
  cases ry
  refine isnot_none_gen (fin_bl I q ?_)
  cases x <;> first
    | (cases rx; rfl)
    | (obtain ⟨t, rfl⟩ := rx; rfl)
theorem nomark (b : Expr) {op : CmpOp} (h : op ≠ .In := by decide) (h2 : op ≠ .NotIn := by decide) : behindInMarks op b = false := by
  have e1 : (op == CmpOp.In) = false := by cases op <;> first | rfl | exact absurd rfl h
  have e2 : (op == CmpOp.NotIn) = false := by cases op <;> first | rfl | exact absurd rfl h2
  cases b <;> simp [behindInMarks, e1, e2]
theorem pe_cmpR {op : CmpOp} {r : R2} (ho : OpR X (compareOp op) r) (ha : PE X a ta) (hb : PE X b tb) (hm : behindInMarks op b = false) : PE X (.Compare a [op] [b] pos) (tOp r ta tb) := by
  intro pins s σ H Q I h
  exact wpAny_Compare1 (binT ha hb I h fun v u s2 x y H2 I2 rx ry q => ho pins s2 σ H2 x y v u Q I2 rx ry q) hm
def tTest (t : TE) : TT := fun σ H Q => t σ H fun x H' => ∃ k, x = .bl k ∧ Q k H'
theorem pt_cmpR {op : CmpOp} {r : R2} (ho : OpR X (compareOp op) r) (ha : PE X a ta) (hb : PE X b tb) (hm : behindInMarks op b = false) : PT X (.Compare a [op] [b] pos) (tTest (tOp r ta tb)) := by
  intro pins s σ H Q I h
  refine wpAny_isTrue_Compare1 (thn (ha pins s σ H _ I h) fun v s1 ⟨x, H1, I1, r1, q1⟩ => thn (hb pins s1 σ H1 _ I1 q1) fun u s2 ⟨y, H2, I2, r2, q2⟩ =>
    thn (ho pins s2 σ H2 x y v u _ I2 r1 r2 q2) fun c s3 ⟨z, H3, I3, r3, k, e, q3⟩ => ?_) hm
  subst e
  cases r3
  exact wpAny_truthy_bool ⟨H3, I3, q3⟩
def tChain (r r' : R2) (ta tb tc : TE) : TE := fun σ H Q => ta σ H fun x H1 => tb σ H1 fun y H2 => r x y H2 fun z H3 => ∃ k, z = .bl k ∧
  (if k = true then tc σ H3 fun w' H4 => r' y w' H4 Q else Q (.bl false) H3)
theorem pe_chain {op op' : CmpOp} {r r' : R2} (ho : OpR X (compareOp op) r) (ho' : OpR X (compareOp op') r') (ha : PE X a ta) (hb : PE X b tb) (hc : PE X c tc)
    (hm : lastMarks [op, op'] [b, c] = false := by with_unfolding_all rfl) : PE X (.Compare a [op, op'] [b, c] pos) (tChain r r' ta tb tc) := by
  intro pins s σ H Q I h
  refine Compare_chain (thn (ha pins s σ H _ I h) fun v s1 ⟨x, H1, I1, r1, q1⟩ => chain_link (thn (hb pins s1 σ H1 _ I1 q1) fun u s2 ⟨y, H2, I2, r2, q2⟩ =>
    thn (ho pins s2 σ H2 x y v u _ I2 r1 r2 q2) fun d s3 ⟨z, H3, I3, r3, k, e, q3⟩ => ?_)) hm
  subst e
  cases r3
  refine wpAny_truthy_bool ?_
  cases k with
  | false => exact ite_ff ⟨.bl false, H3, I3, rfl, q3⟩
  | true => exact ite_tt (chain_last (thn (hc pins s3 σ H3 _ I3 q3) fun w' s4 ⟨z', H4, I4, r4, q4⟩ => ho' pins s4 σ H4 y z' u w' Q I4 r2 r4 q4))
theorem pt_chain {op op' : CmpOp} {r r' : R2} (ho : OpR X (compareOp op) r) (ho' : OpR X (compareOp op') r') (ha : PE X a ta) (hb : PE X b tb) (hc : PE X c tc)
    (hm : lastMarks [op, op'] [b, c] = false := by with_unfolding_all rfl) : PT X (.Compare a [op, op'] [b, c] pos) (tTest (tChain r r' ta tb tc)) := by
  intro pins s σ H Q I h
  refine isTrue_chain (thn (ha pins s σ H _ I h) fun v s1 ⟨x, H1, I1, r1, q1⟩ => test_link (thn (hb pins s1 σ H1 _ I1 q1) fun u s2 ⟨y, H2, I2, r2, q2⟩ =>
    thn (ho pins s2 σ H2 x y v u _ I2 r1 r2 q2) fun d s3 ⟨z, H3, I3, r3, k, e, q3⟩ => ?_)) hm
  subst e
  cases r3
  refine wpAny_truthy_bool ?_
  cases k with
  | false =>
    obtain ⟨k', e', q'⟩ := q3
    cases e'
    exact ite_ff ⟨H3, I3, q'⟩
  | true =>
    refine ite_tt (test_last (thn (hc pins s3 σ H3 _ I3 q3) fun w' s4 ⟨z', H4, I4, r4, q4⟩ => thn (ho' pins s4 σ H4 y z' u w' _ I4 r2 r4 q4) fun d' s5 ⟨z2, H5, I5, r5, k2, e2, q5⟩ => ?_))
    subst e2
    cases r5
    exact wpAny_truthy_bool ⟨H5, I5, q5⟩
def TruV (K : PySem.W.Frag) (x : V) (H : Hp) (k : Bool) : Prop :=
  match x with
  | .non => k = false
  | .bl b => k = b
  | .int i => k = (i != 0)
  | .str y => y.length ≤ sizeLine ∧ k = ((y.length : Int) != 0)
  | .byt y => y.size ≤ sizeLine ∧ k = ((y.size : Int) != 0)
  | .ref p => (∃ xs, SqL K H p xs ∧ k = !xs.isEmpty) ∨ (∃ xs, SqT K H p xs ∧ k = !xs.isEmpty) ∨ ∃ kvs, H p = some (.dK kvs) ∧ k = !kvs.isEmpty
  | _ => False
theorem isEmpty_kv {κ : Type} {kvs : List (κ × V)} {vs : List (κ × Value)} (r : KV kvs vs) : (!vs.isEmpty) = !kvs.isEmpty := by
  cases r <;> rfl
theorem isEmpty_of {xs : List V} {its : List Value} (r : Vals xs its) : (!its.toArray.isEmpty) = !xs.isEmpty := by
  cases r <;> simp
theorem line63 : (sizeLine : Nat) < 2 ^ 63 := by rw [sizeLine_eq]; decide
theorem tru_ok : TruR X (fun x H Q => ∃ k, TruV X.K x H k ∧ Q k H) := by
  intro pins s σ H x v Q I rx h
  obtain ⟨k, e, q⟩ := h
  have hl := line63
  have hs : sizeLine = 16777216 := sizeLine_eq
  cases x with
  | non =>
    cases rx
    have e' : k = false := e
    subst e'
    exact truthy_none ⟨H, I, q⟩
  | bl b =>
    cases rx
    have e' : k = b := e
    subst e'
    exact wpAny_truthy_bool ⟨H, I, q⟩
  | int i =>
    obtain ⟨t, rfl⟩ := rx
    have e' : k = (i != 0) := e
    subst e'
    exact PySem.P.truthy_int ⟨H, I, q⟩
  | str y =>
    obtain ⟨t, rfl⟩ := rx
    obtain ⟨hy, e'⟩ : y.length ≤ sizeLine ∧ k = ((y.length : Int) != 0) := e
    subst e'
    exact PySem.P.truthy_str (by omega) ⟨H, I.tok _, q⟩
  | byt y =>
    obtain ⟨t, rfl⟩ := rx
    obtain ⟨hy, e'⟩ : y.size ≤ sizeLine ∧ k = ((y.size : Int) != 0) := e
    subst e'
    exact PySem.W.truthy_bytes (by omega) ⟨H, I.tok _, q⟩
  | ref p =>
    cases rx
    have e' : (∃ xs, SqL X.K H p xs ∧ k = !xs.isEmpty) ∨ (∃ xs, SqT X.K H p xs ∧ k = !xs.isEmpty) ∨ ∃ kvs, H p = some (.dK kvs) ∧ k = !kvs.isEmpty := e
    rcases e' with ⟨xs, hx, e'⟩ | ⟨xs, hx, e'⟩ | ⟨kvs, hx, e'⟩
    · subst e'
      obtain ⟨its, r, pl, hz⟩ := I.list hx
      have hlen := r.length
      exact wpAny_truthy_list pl.isList (by simp only [List.size_toArray]; omega) ⟨H, I.tok _, by rw [isEmpty_of r]; exact q⟩
    · subst e'
      obtain ⟨its, r, pl, hz⟩ := I.tuple hx
      have hlen := r.length
      exact truthy_tuple pl (by simp only [List.size_toArray]; omega) ⟨H, I.tok _, by rw [isEmpty_of r]; exact q⟩
    · subst e'
      obtain ⟨hz, hS, vs, r, m⟩ : kvs.length ≤ sizeLine ∧ (p == sysModules) = false ∧ ∃ vs, KV kvs vs ∧ s.heap.DictOf (mixKind X.prog X.w) p vs := I.hok p _ hx
      have hlen : kvs.length = vs.length := Paired.length r
      exact wpAny_truthy_dict hS m (by omega) ⟨H, I.tok _, by rw [isEmpty_kv r]; exact q⟩
  | _ => exact (show False from e).elim
theorem pt_truth (ha : PE X a ta) (he : ∀ whole, isTrue a X.env whole = (do let v ← whole; standAt a.pos; holding [v] (truthy v))) :
    PT X a (fun σ H Q => ta σ H fun x H' => ∃ k, TruV X.K x H' k ∧ Q k H') := by
  intro pins s σ H Q I h
  exact isTrue_plain (thn (ha pins s σ H _ I h) fun v s1 ⟨x, H1, I1, r1, q1⟩ => tru_ok pins s1 σ H1 x v Q I1 r1 q1) (he _)
theorem vals1 {x : V} {us : List Value} (r : Vals [x] us) : ∃ u, us = [u] ∧ RelV x u := by
  cases r with
  | cons r1 r2 => cases r2; exact ⟨_, rfl, r1⟩
theorem vals2 {x y : V} {us : List Value} (r : Vals [x, y] us) : ∃ u w', us = [u, w'] ∧ RelV x u ∧ RelV y w' := by
  cases r with
  | cons r1 r2 =>
    cases r2 with
    | cons r3 r4 => cases r4; exact ⟨_, _, rfl, r1, r3⟩
theorem call_min2 (hc : X.calm = true) : CallR X (.builtin "min") (fun xs H Q => ∃ i j, xs = [.int i, .int j] ∧ Q (.int (if j < i then j else i)) H) := by
  intro pins s σ H xs us Q I r h
  obtain ⟨i, j, rfl, q⟩ := h
  obtain ⟨u, w', rfl, ⟨t, rfl⟩, ⟨t', rfl⟩⟩ := vals2 r
  refine min_two_ints (I.ok.hd hc) fun h' tk k => ⟨_, H, I.kept k, ?_, q⟩
  by_cases hj : j < i
  · rw [if_pos hj, if_pos hj]; exact ⟨_, rfl⟩
  · rw [if_neg hj, if_neg hj]; exact ⟨_, rfl⟩
end
end L2
namespace L2
open PySem PySem.Spec PyProof.Rows
structure ObjM (h : Heap) (x dx C : Addr) (mA : Str → Option Value) : Prop where
  obj : h.get? x = some (PySem.W.instObj C dx)
  ns : h.Ns1 dx mA
  ne : dx ≠ x
theorem lookIn_ns {h : Heap} {dx : Addr} {mA : Str → Option Value} (n : h.Ns1 dx mA) : ∃ od, h.get? dx = some od ∧ ∀ name, PySem.W.lookIn name od = some (mA name) := by
  obtain ⟨o, es, ep, ho, hd, hk, _, hm⟩ := n
  refine ⟨o, ho, fun name => ?_⟩
  have e := hm name
  unfold nsFind findBy at e
  rw [← Array.find?_toList] at e
  unfold PySem.W.lookIn
  rw [hd]
  dsimp only
  split
  · rename_i y q
    rw [q] at e
    exact congrArg some e
  · rename_i q
    rw [q] at e
    have a : es.toList.any (·.refKey) = false := by
      rw [List.any_eq_false]
      intro y hy
      obtain ⟨z, t, hkey⟩ := hk y (Array.mem_toList_iff.mp hy)
      simp [DictEntry.refKey, hkey]
    have a' : ¬ es.toList.any (·.refKey) = true := by rw [a]; exact Bool.false_ne_true
    rw [if_neg a']
    exact congrArg some e
theorem ObjM.look {h : Heap} {x dx C : Addr} {mA : Str → Option Value} (I : ObjM h x dx C mA) : ∃ od, PySem.W.InstAt h x (PySem.W.instObj C dx) C (some od) ∧ ∀ name, PySem.W.lookIn name od = some (mA name) :=
  let ⟨od, ho, hl⟩ := lookIn_ns I.ns
  ⟨od, ⟨I.obj, rfl, rfl, ho⟩, hl⟩
section
variable {prog : Program} {w : World} {A : Around} {E : Value → Shared → Prop} {s : Shared} {K : PySem.W.Frag} {x dx C f : Addr} {mA : Str → Option Value} {name : Str} {v : Value}
theorem get_map {expr : Bool} {Q : Value → Shared → Prop} (X : K.In s.heap) (I : ObjM s.heap x dx C mA) (hg : PySem.W.plainGet K C name = true) (hh : PySem.W.hasDictIn K C = true)
    (ha : PySem.W.findIn K (.ref C) name = some none) (hv : mA name = some v) (hv' : PySem.W.handedIn v = true) (h : Q v { s with toks := s.toks + 1 }) :
    wpAny (model prog w) A (getAttr (.ref x) name expr) Q E s := by
  obtain ⟨od, J, hl⟩ := I.look
  exact PySem.W.get_value X J (PySem.W.plainGet_of hg).1 (PySem.W.findObj_own hh ha rfl (by rw [hl, hv])) hv' h
theorem get_meth {pl : Sem Bool} {Q : Value × List Value → Shared → Prop} (X : K.In s.heap) (I : ObjM s.heap x dx C mA) (hg : PySem.W.plainGet K C name = true)
    (hf : PySem.W.findIn K (.ref C) name = some (some (.ref f))) (ht : PySem.W.isFn K (.ref f) = true) (hv : mA name = none) (h : Q (.ref f, [.ref x]) s) :
    wpAny (model prog w) A (getMethod (.ref x) name pl) Q E s := by
  obtain ⟨od, J, hl⟩ := I.look
  exact PySem.W.method_fn X J (PySem.W.plainGet_of hg).1 (PySem.W.plainGet_of hg).2 hf (beq_iff_eq.mp ht) (by show (PySem.W.lookIn name od).map (·.isSome) = some false; rw [hl, hv]; rfl) h
theorem set_map {ns : List Str} {Q : Unit → Shared → Prop} (X : K.In s.heap) (I : ObjM s.heap x dx C mA)
    (hs : PySem.W.findIn K (.ref C) "__setattr__" = some (some (.builtin "object.__setattr__"))) (hp : PySem.W.plainOver K C = true) (ht : PySem.W.takerIn K C name = some none) (hh : PySem.W.hasDictIn K C = true)
    (hw : PySem.Within mA ns) (hsz : ns.length ≤ sizeLine)
    (h : ∀ h', ObjM h' x dx C (fun y => if y = name then some v else mA y) → Heap.SameBut dx s.heap h' → Q () { s with heap := h', toks := s.toks + 2 }) :
    wpAny (model prog w) A (setAttr (.ref x) name v) Q E s := by
  obtain ⟨od, J, hl⟩ := I.look
  refine PySem.W.set_plain X J hs (PySem.W.osa_open (s := { s with toks := s.toks + 1 }) (r := none) X J hp ht fun b => ?_)
  obtain ⟨cd, hc, hd'⟩ := PySem.W.any_some hh
  have hx : s.heap.get? x = some ⟨.ref C, some dx, .plain, #[]⟩ := I.obj
  refine wpAny_bind (wpAny_pure (wpAny_bind (wpAny_bind (wpAny_loadPart hx (wpAny_bind (PySem.W.Looks.here (s := { s with toks := s.toks + 1 }) (PySem.W.looks_clsIn X hc) ?_))))))
  rw [hd']
  refine wpAny_pure (a := some dx) (wpAny_bind (wpAny_pure (wpAny_bind ?_)))
  refine wpAny_nsSet1 (s := { s with toks := s.toks + 1 }) I.ns fun h' hn2 hs2 => ?_
  obtain ⟨oD, esD, epD, hoD, hdD, hcD⟩ := hn2.count (PySem.Within.cons name v hw)
  refine wpAny_bind (wpAny_lookBehind hoD (by rw [hdD]; exact pastItsLine_dict (Nat.le_trans hcD (by rw [List.length_cons]; omega))) ?_)
  exact wpAny_pure (h _ ⟨(hs2.2 _ (Ne.symm I.ne)).trans I.obj, hn2, I.ne⟩ hs2)
theorem make_map {R : Result → Shared → Prop} {vs : List Value} {kw : List (Str × Value)} (X : K.In s.heap) (hm : PySem.W.makesIn K C = true)
    (hi : PySem.W.findIn K (.ref C) "__init__" = some (some (.ref f))) (hf : PySem.W.typeIn K (.ref f) = some (.type "function"))
    (h : codeAny (model prog w) (A.under (.builtin "type.__call__" ⟨.ref C :: vs, kw⟩)) (.call (.ref f) ⟨.ref (s.heap.objs.size + 1) :: vs, kw⟩) (PySem.W.InitBack (s.heap.objs.size + 1) R)
      { s with heap := (s.heap.push PySem.W.emptyDict).push (PySem.W.instObj C s.heap.objs.size) }) :
    codeAny (model prog w) A (.call (.ref C) ⟨vs, kw⟩) R s := by
  obtain ⟨hh, g, d, t, os⟩ := s
  exact PySem.W.make_core (PySem.W.makes_of X hm) (PySem.W.looks_findIn X hi) (fun self => PySem.W.bind_fn X self hf) (.inl rfl) h
end
def putF (f : Str) (v : V) : List (Str × V) → List (Str × V)
  | [] => [(f, v)]
  | (g, x) :: r => if g = f then (g, v) :: r else (g, x) :: putF f v r
theorem lookup_putF (f g : Str) (v : V) : ∀ fs : List (Str × V), (putF f v fs).lookup g = if g = f then some v else fs.lookup g
  | [] => by
    show List.lookup g [(f, v)] = _
    by_cases h : g = f
    · have hb : (g == f) = true := beq_iff_eq.mpr h
      simp only [List.lookup, hb, if_pos h]
    · have hb : (g == f) = false := beq_eq_false_iff_ne.mpr h
      simp only [List.lookup, hb, if_neg h]
  | (k, x) :: r => by
    have ih := lookup_putF f g v r
    rw [show putF f v ((k, x) :: r) = (if k = f then (k, v) :: r else (k, x) :: putF f v r) from rfl]
    by_cases hk : k = f
    · rw [if_pos hk]
      by_cases h : g = k
      · have hb : (g == k) = true := beq_iff_eq.mpr h
        simp only [List.lookup, hb, if_pos (h.trans hk)]
      · have hb : (g == k) = false := beq_eq_false_iff_ne.mpr h
        simp only [List.lookup, hb, if_neg (fun e : g = f => h (e.trans hk.symm))]
    · rw [if_neg hk]
      by_cases h : g = k
      · have hb : (g == k) = true := beq_iff_eq.mpr h
        simp only [List.lookup, hb, if_neg (fun e : g = f => hk (h.symm.trans e))]
      · have hb : (g == k) = false := beq_eq_false_iff_ne.mpr h
        simp only [List.lookup, hb]
        exact ih
theorem keys_putF (f : Str) (v : V) : ∀ fs : List (Str × V), f ∈ (putF f v fs).map (·.1) ∧ ∀ g, g ∈ fs.map (·.1) → g ∈ (putF f v fs).map (·.1)
  | [] => ⟨by simp [putF], fun g h => by simp at h⟩
  | (k, x) :: r => by
    obtain ⟨i1, i2⟩ := keys_putF f v r
    rw [show putF f v ((k, x) :: r) = (if k = f then (k, v) :: r else (k, x) :: putF f v r) from rfl]
    by_cases hk : k = f
    · rw [if_pos hk]
      subst hk
      exact ⟨by simp, fun g h => by simpa using h⟩
    · rw [if_neg hk]
      refine ⟨?_, fun g h => ?_⟩
      · rw [List.map_cons]
        exact List.mem_cons_of_mem _ i1
      · rw [List.map_cons] at h ⊢
        rcases List.mem_cons.mp h with e | e
        · exact List.mem_cons.mpr (.inl e)
        · exact List.mem_cons_of_mem _ (i2 g e)
theorem length_putF (f : Str) (v : V) : ∀ fs : List (Str × V), (putF f v fs).length ≤ fs.length + 1
  | [] => by simp [putF]
  | (k, x) :: r => by
    have ih := length_putF f v r
    rw [show putF f v ((k, x) :: r) = (if k = f then (k, v) :: r else (k, x) :: putF f v r) from rfl]
    by_cases hk : k = f
    · rw [if_pos hk, List.length_cons, List.length_cons]; omega
    · rw [if_neg hk, List.length_cons, List.length_cons]; omega
theorem RelO.some_of {v : V} {o : Option Value} (r : RelO (some v) o) : ∃ u, o = some u ∧ RelV v u := by
  cases o with
  | none => exact (show False from r).elim
  | some u => exact ⟨u, rfl, r⟩
theorem RelO.none_of {o : Option Value} (r : RelO none o) : o = none := by
  cases o with
  | none => rfl
  | some u => exact (show False from r).elim
theorem handed_of {v : V} {u : Value} (r : RelV v u) : PySem.W.handedIn u = true := by
  cases v with
  | non => cases (show u = Value.none from r); rfl
  | bl b => cases (show u = Value.bool b from r); rfl
  | int i => obtain ⟨t, e⟩ := (show ∃ t, u = Value.int i t from r); cases e; rfl
  | str x => obtain ⟨t, e⟩ := (show ∃ t, u = Value.str x t from r); cases e; rfl
  | byt b => obtain ⟨t, e⟩ := (show ∃ t, u = Value.bytes b t from r); cases e; rfl
  | flt b => obtain ⟨t, e⟩ := (show ∃ t, u = Value.float b t from r); cases e; rfl
  | ref a => cases (show u = Value.ref a from r); rfl
  | ty n => cases (show u = Value.type n from r); rfl
section
variable {P : Program} {w : World} {H H' : Hp} {h h' : Heap} {a C dx : Addr} {fs fs' : List (Str × V)}
theorem ins_get (hok : HOk P w H h) (e : H a = some (.ins C dx fs)) : ∃ mA, ObjM h a dx C mA ∧ (∀ f, RelO (fs.lookup f) (mA f)) ∧ PySem.Within mA (fs.map (·.1)) ∧ fs.length ≤ 1000 ∧ H dx = some (.own a) := by
  obtain ⟨d, z, ne, ob, mA, n, r, q⟩ := (show ObjOk P w H h a (.ins C dx fs) from hok a _ e)
  exact ⟨mA, ⟨ob, n, ne⟩, r, q, z, d⟩
end
structure Cls (K : PySem.W.Frag) (C : Addr) : Prop where
  pg : PySem.W.plainGet K C Str.empty = true
  hd : PySem.W.hasDictIn K C = true
  po : PySem.W.plainOver K C = true
  sa : PySem.W.findIn K (.ref C) "__setattr__" = some (some (.builtin "object.__setattr__"))
theorem Cls.get {K : PySem.W.Frag} {C : Addr} (c : Cls K C) (f : Str) : PySem.W.plainGet K C f = true := c.pg
def NoAttr (K : PySem.W.Frag) (C : Addr) (f : Str) : Prop := PySem.W.findIn K (.ref C) f = some none
theorem NoAttr.taker {K : PySem.W.Frag} {C : Addr} {f : Str} (n : NoAttr K C f) : PySem.W.takerIn K C f = some none := by
  unfold PySem.W.takerIn
  rw [show PySem.W.findIn K (.ref C) f = some none from n]
  rfl
structure Meth (K : PySem.W.Frag) (C : Addr) (m : Str) (f : Addr) : Prop where
  at_ : PySem.W.findIn K (.ref C) m = some (some (.ref f))
  fn : PySem.W.isFn K (.ref f) = true
  kp : PySem.W.keepIn K (.ref f) = true
section
variable {X : Cx} {pins : List (Addr × Obj)} {σ : St} {H : Hp} {s : Shared} {a C dx : Addr} {fs : List (Str × V)} {f : Str} {v : V} {A : Around} {E : Value → Shared → Prop}
theorem getattr_ok {b : Bool} {Q : Value → Shared → Prop} (I : Inv X pins σ H s) (e : H a = some (.ins C dx fs)) (c : Cls X.K C) (n : NoAttr X.K C f) (l : fs.lookup f = some v)
    (h : ∀ u s', Inv X pins σ H s' → RelV v u → Q u s') : wpAny (model X.prog X.w) A (getAttr (.ref a) f b) Q E s := by
  obtain ⟨mA, O, r, _, _, _⟩ := ins_get I.hok e
  obtain ⟨u, hu, ru⟩ := RelO.some_of (v := v) (o := mA f) (by rw [← l]; exact r f)
  exact get_map I.kIn O (c.get f) c.hd n hu (handed_of ru) (h u _ (I.tok _) ru)
theorem getmeth_ok {m : Str} {g : Addr} {pl : Sem Bool} {Q : Value × List Value → Shared → Prop} (I : Inv X pins σ H s) (e : H a = some (.ins C dx fs)) (c : Cls X.K C) (k : Meth X.K C m g) (l : fs.lookup m = none)
    (h : Q (.ref g, [.ref a]) s) : wpAny (model X.prog X.w) A (getMethod (.ref a) m pl) Q E s := by
  obtain ⟨mA, O, r, _, _, _⟩ := ins_get I.hok e
  have hn : mA m = none := RelO.none_of (by rw [← l]; exact r m)
  exact get_meth I.kIn O (c.get m) k.at_ k.fn hn h
theorem setattr_ok {y : V} {u : Value} {Q : Unit → Shared → Prop} (I : Inv X pins σ H s) (e : H a = some (.ins C dx fs)) (c : Cls X.K C) (n : NoAttr X.K C f) (hl : fs.length < 1000) (ry : RelV y u)
    (h : ∀ s', Inv X pins σ (upd H a (.ins C dx (putF f y fs))) s' → Q () s') : wpAny (model X.prog X.w) A (setAttr (.ref a) f u) Q E s := by
  obtain ⟨mA, O, r, wi, _, ho⟩ := ins_get I.hok e
  have hz : (fs.map (·.1)).length ≤ sizeLine := by rw [List.length_map, sizeLine_eq]; omega
  refine set_map I.kIn O c.sa c.po n.taker c.hd wi hz fun h' O' sb => h _ ?_
  have hd : ∃ o, h'.get? dx = some o := let ⟨o, _, _, e', _⟩ := O'.ns; ⟨o, e'⟩
  refine I.write (x := a) (e := dx) (by rw [e]; exact True.intro) (.inr ho) (fun b q hb z => (sb.2 b hb).trans z) hd ?_
  refine ⟨by rw [upd_ne O.ne]; exact ho, ?_, O.ne, O'.obj, _, O'.ns, fun g => ?_, fun g hg => ?_⟩
  · have := length_putF f y fs; omega
  · show RelO ((putF f y fs).lookup g) (if g = f then some u else mA g)
    rw [lookup_putF]
    by_cases q : g = f
    · rw [if_pos q, if_pos q]; exact ry
    · rw [if_neg q, if_neg q]; exact r g
  · by_cases q : g = f
    · rw [q]; exact (keys_putF f y fs).1
    · refine (keys_putF f y fs).2 g (wi g fun z => hg ?_)
      show (if g = f then some u else mA g) = none
      rw [if_neg q]; exact z
theorem Inv.made (I : Inv X pins σ H s) : Inv X pins σ (upd (upd H s.heap.objs.size (.own (s.heap.objs.size + 1))) (s.heap.objs.size + 1) (.ins C s.heap.objs.size []))
    { s with heap := (s.heap.push PySem.W.emptyDict).push (PySem.W.instObj C s.heap.objs.size) } := by
  have e1 : (s.heap.push PySem.W.emptyDict).get? s.heap.objs.size = some PySem.W.emptyDict := Heap.get?_push_size s.heap rfl
  have e2 : ((s.heap.push PySem.W.emptyDict).push (PySem.W.instObj C s.heap.objs.size)).get? (s.heap.objs.size + 1) = some (PySem.W.instObj C s.heap.objs.size) := by
    have := Heap.get?_push_size (s.heap.push PySem.W.emptyDict) (o := PySem.W.instObj C s.heap.objs.size) rfl
    rwa [Heap.size_push] at this
  have e3 : (s.heap.push PySem.W.emptyDict).Ns s.heap.objs.size (fun _ => none) := ⟨PySem.W.emptyDict, #[], _, e1, rfl, (fun e he => absurd he (by simp)), fun _ => rfl⟩
  have I1 := I.laid (a := s.heap.objs.size) (o := .own (s.heap.objs.size + 1)) (h' := s.heap.push PySem.W.emptyDict) (t' := s.toks) (fun b u q => Heap.get?_push_of_some _ q) (Nat.le_refl _) ⟨_, e1⟩
  refine I1.laid (a := s.heap.objs.size + 1) (o := .ins C s.heap.objs.size []) (t' := s.toks) (fun b u q => Heap.get?_push_of_some _ q) (Nat.le_of_eq (Heap.size_push _ _)) ?_
  have ne : s.heap.objs.size ≠ s.heap.objs.size + 1 := Nat.ne_of_lt (Nat.lt_succ_self _)
  refine ⟨by rw [upd_ne ne, upd_same], Nat.zero_le _, ne, e2, fun _ => none, (Heap.Ns1.of_empty e3).at fun o q => Heap.get?_push_of_some _ q, fun _ => True.intro, fun y hy => absurd rfl hy⟩
theorem attr_of {prog : Program} {w : World} {env : Env} {e : Expr} {f : Str} {pos : Pos} {s : Shared} {Q : Value → Shared → Prop} (hb : attributeBase e f env (eval e env) = eval e env)
    (h : wpAny (model prog w) A (eval e env) (fun o s₁ => wpAny (model prog w) A (getAttr o f true) Q E s₁) E s) : wpAny (model prog w) A (eval (.Attribute e f pos) env) Q E s :=
  Attribute_any_ h (by rw [arm_eval_Attribute, hb])
end
def tFld (K : PySem.W.Frag) (ta : TE) (f : Str) : TE := fun σ H Q => ta σ H fun x H1 => ∃ a C dx fs v, x = .ref a ∧ H1 a = some (.ins C dx fs) ∧ Cls K C ∧ NoAttr K C f ∧ fs.lookup f = some v ∧ Q v H1
def sFld (K : PySem.W.Frag) (ta tv : TE) (f : Str) : TS := fun D σ H => tv σ H fun y H1 => ta σ H1 fun x H2 => ∃ a C dx fs, x = .ref a ∧ H2 a = some (.ins C dx fs) ∧ Cls K C ∧ NoAttr K C f ∧ fs.length < 1000 ∧
  D.nx σ (upd H2 a (.ins C dx (putF f y fs)))
def InOp (X : Cx) (op : Operator) (rd : V → V → Hp → VK → Prop) : Prop :=
  ∀ (pins : List (Addr × Obj)) (s : Shared) (σ : St) (H : Hp) (x y : V) (u v : Value) (Q : VK), Inv X pins σ H s → RelV x u → RelV y v → rd x y H Q → wpAny (model X.prog X.w) X.A (inplaceOp op u v) (EP X pins σ Q) X.xe s
def sFldAug (K : PySem.W.Frag) (ta tv : TE) (rd : V → V → Hp → VK → Prop) (f : Str) : TS := fun D σ H => ta σ H fun x H1 => ∃ a C dx fs v, x = .ref a ∧ H1 a = some (.ins C dx fs) ∧ Cls K C ∧ NoAttr K C f ∧ fs.lookup f = some v ∧
  tv σ H1 fun y H2 => rd v y H2 fun z H3 => ∃ dx' fs', H3 a = some (.ins C dx' fs') ∧ fs'.length < 1000 ∧ D.nx σ (upd H3 a (.ins C dx' (putF f z fs')))
section
variable {X : Cx} {o e value : Expr} {f : Str} {pos pos' tpos : Pos} {ta tv : TE}
theorem pe_fld (he : PE X e ta) (hb : attributeBase e f X.env (eval e X.env) = eval e X.env) : PE X (.Attribute e f pos) (tFld X.K ta f) := by
  intro pins s σ H Q I h
  refine attr_of hb (thn (he pins s σ H _ I h) fun u s1 ⟨x, H1, I1, rx, a, C, dx, fs, v, ex, ea, c, n, l, q⟩ => ?_)
  subst ex
  obtain rfl : u = Value.ref a := rx
  exact getattr_ok I1 ea c n l fun u' s2 I2 ru => ⟨v, H1, I2, ru, q⟩
theorem ps_fld (ha : PE X o ta) (hv : PE X value tv) (hs : swapsWith value (some (.Attribute o f pos')) pos.line X.env = pure false) : PS X (.Assign [.Attribute o f pos'] value pos) (sFld X.K ta tv f) := by
  intro pins s σ H D I h
  refine plainObj_wpAny_Assign_Attribute (thn (hv pins s σ H _ I h) fun u s1 ⟨y, H1, I1, ry, q⟩ => thn (ha pins s1 σ H1 _ I1 q) fun ov s2 ⟨x, H2, I2, rx, a, C, dx, fs, ex, ea, c, n, l, q2⟩ => ?_) hs
  subst ex
  obtain rfl : ov = Value.ref a := rx
  exact setattr_ok I2 ea c n l ry fun s3 I3 => ⟨σ, _, I3, q2⟩
theorem ps_fldaug {op : Operator} {rd : V → V → Hp → VK → Prop} (ha : PE X o ta) (hv : PE X value tv) (hop : InOp X op rd) : PS X (.AugAssign (.Attribute o f tpos) op value pos) (sFldAug X.K ta tv rd f) := by
  intro pins s σ H D I h
  refine wpAny_AugAssign_AttributeAny (thn (ha pins s σ H _ I h) fun ov s1 ⟨x, H1, I1, rx, a, C, dx, fs, v, ex, ea, c, n, l, q⟩ => ?_)
  subst ex
  obtain rfl : ov = Value.ref a := rx
  refine getattr_ok I1 ea c n l fun u s2 I2 ru => thn (hv pins s2 σ H1 _ I2 q) fun w3 s3 ⟨y, H2, I3, ry, q3⟩ => thn (hop pins s3 σ H2 v y u w3 _ I3 ru ry q3) fun w4 s4 ⟨z, H3, I4, rz, dx', fs', ea', l', q4⟩ => ?_
  exact setattr_ok I4 ea' c n l' rz fun s5 I5 => ⟨σ, _, I5, q4⟩
def rAdd : V → V → Hp → VK → Prop := fun x y H Q => ∃ i j, x = .int i ∧ y = .int j ∧ Q (.int (i + j)) H
theorem in_add : InOp X .Add rAdd := by
  rintro pins s σ H x y u v Q I rx ry ⟨i, j, rfl, rfl, q⟩
  obtain ⟨t, rfl⟩ := (show ∃ t, u = Value.int i t from rx)
  obtain ⟨t', rfl⟩ := (show ∃ t', v = Value.int j t' from ry)
  exact PyProof.Rows.iadd_int ⟨.int (i + j), H, I.tok _, ⟨_, rfl⟩, q⟩
theorem methcall_of {pl : Sem Bool} {m : Str} {apos : Pos} {args : List Expr} {pins : List (Addr × Obj)} {s : Shared} {σ : St} {H : Hp} {Q : Value → Shared → Prop} {te : TE} (he : PE X e te) (I : Inv X pins σ H s)
    (h : te σ H fun x H1 => ∃ a C dx fs g, x = .ref a ∧ H1 a = some (.ins C dx fs) ∧ Cls X.K C ∧ Meth X.K C m g ∧ fs.lookup m = none ∧
      ∀ s1, Inv X pins σ H1 s1 → wpAny (model X.prog X.w) X.A (callWith pos (.ref g) [.ref a] (backTo pos (starEach args X.env)) (backToKw pos (keywordEach [] X.env))) Q X.xe s1)
    (ht : eval (.Call (.Attribute e m apos) args [] pos) X.env = (do
      let ov ← eval e X.env
      standAt apos.atName
      let (f, first) ← holding [ov] (getMethod ov m pl)
      callWith pos f first (backTo pos (starEach args X.env)) (backToKw pos (keywordEach [] X.env)))) :
    wpAny (model X.prog X.w) X.A (eval (.Call (.Attribute e m apos) args [] pos) X.env) Q X.xe s := by
  refine PySem.W.methodCall_KW (pl := pl) (thn (he pins s σ H _ I h) fun u s1 ⟨x, H1, I1, rx, a, C, dx, fs, g, ex, ea, c, k, l, q⟩ => ?_) ht
  subst ex
  obtain rfl : u = Value.ref a := rx
  exact getmeth_ok I1 ea c k l (q s1 I1)
end
section
variable {X : Cx} {pins : List (Addr × Obj)} {σ : St} {H : Hp} {s : Shared} {A : Around} {E : Value → Shared → Prop} {Q : Value → Shared → Prop} {c : Value} {b : Bool}
end
end L2
namespace L2
open PySem PySem.Spec PyProof.Rows
structure Room (k : Nat) (A : Around) : Prop where
  hd : A.handled = none
  dp : A.depth + 3 * k + 5 < recursionLimit
  un : A.units + 16 * k + 200 < cLine
theorem Room.mono {j k : Nat} {A : Around} (r : Room k A) (h : j ≤ k) : Room j A := ⟨r.hd, by have := r.dp; omega, by have := r.un; omega⟩
theorem Room.deeper {k : Nat} {A : Around} (r : Room (k + 1) A) (env : Env) : Room k (A.deeper env) :=
  ⟨r.hd, by have := r.dp; show A.depth + 1 + 3 * k + 5 < _; omega, by have := r.un; show A.units + 3 + 16 * k + 200 < _; omega⟩
theorem make_depth {A : Around} {C : Addr} {us : List Value} {kw : List (Str × Value)} : (A.under (.builtin "type.__call__" ⟨.ref C :: us, kw⟩)).depth = A.depth + 1 := by
  first | rfl | simp [Around.under, Code.weight, Code.isCreation, Code.isGuard, Code.isCaller, Code.frames, Code.isFrame, guardIds]
theorem make_units {A : Around} {C : Addr} {us : List Value} {kw : List (Str × Value)} : (A.under (.builtin "type.__call__" ⟨.ref C :: us, kw⟩)).units = A.units + 1 := by
  first | rfl | simp [Around.under, Code.cUnits, Code.frames, Code.isFrame]
theorem Room.make {k : Nat} {A : Around} (r : Room (k + 1) A) (C : Addr) (us : List Value) (kw : List (Str × Value)) : Room k (A.under (.builtin "type.__call__" ⟨.ref C :: us, kw⟩)) :=
  ⟨r.hd, by have := r.dp; rw [make_depth]; omega, by have := r.un; rw [make_units]; omega⟩
theorem Room.depth {k : Nat} {A : Around} (r : Room k A) : A.depth < recursionLimit := by have := r.dp; omega
def tNil : TA := fun _ H Q => Q [] H
def tCons (ta : TE) (tr : TA) : TA := fun σ H Q => ta σ H fun x H1 => tr σ H1 fun xs H2 => Q (x :: xs) H2
section
variable {X : Cx} {e : Expr} {es : List Expr} {te : TE} {t : TA} {pos : Pos}
theorem pa_nil : PA X [] tNil := fun _ _ _ _ H Q I h => Calls.spliced_nil ⟨[], H, I, .nil, h⟩
theorem pa_cons (ha : PE X e te) (hr : PA X es t) (hs : starEach (e :: es) X.env = (false, eval e X.env) :: starEach es X.env := by rfl) : PA X (e :: es) (tCons te t) := by
  intro pos pins s σ H Q I h
  rw [hs]
  show wpAny _ _ (spliced ((false, eval e X.env) :: backTo pos (starEach es X.env))) _ _ s
  refine Calls.spliced_cons (thn (ha pins s σ H _ I h) fun u s1 ⟨x, H1, I1, r1, q1⟩ => ?_)
  exact thn (hr pos pins s1 σ H1 _ I1 q1) fun us s2 ⟨xs, H2, I2, r2, q2⟩ => ⟨x :: xs, H2, I2, .cons r1 r2, q2⟩
def tLst (t : TA) : TE := fun σ H Q => t σ H fun xs H1 => xs.length ≤ sizeLine ∧ ∀ p, H1 p = none → Q (.ref p) (upd H1 p (.lst xs))
theorem pe_lst (h : PA X es t) : PE X (.List es pos) (tLst t) := by
  intro pins s σ H Q I hq
  refine wpAny_List_spliced (thn (h pos pins s σ H _ I hq) fun us s1 ⟨xs, H1, I1, r, z, q⟩ => ⟨by rw [← r.length]; exact z, ?_⟩)
  have hf : H1 s1.heap.objs.size = none := I1.hok.fresh (Nat.le_refl _)
  refine ⟨.ref s1.heap.objs.size, upd H1 s1.heap.objs.size (.lst xs), I1.laid (t' := s1.toks) (fun b u e => Heap.get?_push_of_some _ e) (Nat.le_refl _) ?_, rfl, q _ hf⟩
  exact ⟨z, us, 0, r, Heap.get?_push_size _ rfl⟩
end
abbrev Sp := List V → Hp → VK → XK → Prop
abbrev CXT := List Env → Hp → Shared → XK → Value → Shared → Prop
structure Env0 (P : Program) (w : World) (K : PySem.W.Frag) (mg : Str → Option Value) (base : Heap) (A : Around) (outer : List Env) (s : Shared) (H : Hp) : Prop where
  frames : A.frames = some outer
  mod : Mod K mg base
  bs : ∀ b o, base.get? b = some o → s.heap.get? b = some o ∧ H b = none
  bsz : base.objs.size ≤ s.heap.objs.size
  funs : s.heap.FunFrames base outer
  frf : ∀ b ∈ frs outer, H b = none
  hok : HOk P w H s.heap
  bare : AllBare s.gens
def CE (outer : List Env) (P : Program) (w : World) (H : Hp) (s : Shared) (Q : VK) (u : Value) (s' : Shared) : Prop :=
  ∃ v H', s'.os = s.os ∧ AllBare s'.gens ∧ Un (frs outer) [] H H' s.heap s'.heap ∧ HOk P w H' s'.heap ∧ RelV v u ∧ Q v H'
def CR (CX : CXT) (outer : List Env) (P : Program) (w : World) (H : Hp) (s : Shared) (Q : VK) (E : XK) (r : Result) (s' : Shared) : Prop :=
  match r with
  | .ok (.ret u) => CE outer P w H s Q u s'
  | .ok _ => False
  | .error e => CX outer H s E e s'
structure FnOk (P : Program) (w : World) (K : PySem.W.Frag) (mg : Str → Option Value) (base : Heap) (CX : CXT) (k : Nat) (f : Addr) (fd : FuncData) (ps : List Str) (sp : Sp) : Prop where
  len : ∀ vs H Q E, sp vs H Q E → vs.length = ps.length
  run : ∀ (A : Around) (outer : List Env) (s : Shared) (H : Hp) (args : Args) (us : List Value) (vs : List V) (Q : VK) (E : XK), Room k A → Env0 P w K mg base A outer s H → BindsTo s fd args (ps.zip us) → Vals vs us → sp vs H Q E →
    codeAny (model P w) A (.call (.ref f) args) (CR CX outer P w H s Q E) s
theorem Env0.make {P : Program} {w : World} {K : PySem.W.Frag} {mg : Str → Option Value} {base : Heap} {A : Around} {outer : List Env} {s : Shared} {H : Hp} (e : Env0 P w K mg base A outer s H) (C : Addr) (us : List Value) (kw : List (Str × Value)) :
    Env0 P w K mg base (A.under (.builtin "type.__call__" ⟨.ref C :: us, kw⟩)) outer s H := ⟨by first | exact e.frames | (simpa [Around.under, Code.envs, Code.isFrame, pushEnvs] using e.frames), e.mod, e.bs, e.bsz, e.funs, e.frf, e.hok, e.bare⟩
section
variable {X : Cx} {pins : List (Addr × Obj)} {σ : St} {H : Hp} {s s' : Shared}
theorem Inv.env0 (I : Inv X pins σ H s) : Env0 X.prog X.w X.K X.mg X.base X.A X.stack s H :=
  ⟨I.ok.frames, I.ok.mod, I.bs, Nat.le_trans I.ok.bsz I.sz, I.stack, I.stkFree, I.hok, I.bare⟩
theorem Inv.after {Q : VK} {u : Value} (I : Inv X pins σ H s) (h : CE X.stack X.prog X.w H s Q u s') : EP X pins σ Q u s' := by
  obtain ⟨v, H', os, bare, un, hok, r, q⟩ := h
  obtain ⟨hh, g, d, t, os'⟩ := s'
  obtain rfl : os' = s.os := os
  exact ⟨v, H', I.call (h' := hh) (g' := g) (d' := d) (t' := t) (ch := []) un hok bare (fun b z => absurd z (by simp)), r, q⟩
end
def tCall (sp : Sp) (dvs : List V) (E : XK) (t : TA) : TE := fun σ H Q => t σ H fun vs H1 => sp (vs ++ dvs) H1 Q E
def tMeth (C : Addr) (m : Str) (sp : Sp) (dvs : List V) (E : XK) (ta : TE) (t : TA) : TE := fun σ H Q => ta σ H fun x H1 => ∃ a dx fs, x = .ref a ∧ H1 a = some (.ins C dx fs) ∧ fs.lookup m = none ∧
  t σ H1 fun vs H2 => sp (x :: (vs ++ dvs)) H2 Q E
def tMake (C : Addr) (sp : Sp) (dvs : List V) (E : XK) (t : TA) : TE := fun σ H Q => t σ H fun vs H1 => ∀ x dx, H1 x = none → H1 dx = none → dx ≠ x →
  sp (.ref x :: (vs ++ dvs)) (upd (upd H1 dx (.own x)) x (.ins C dx [])) (fun v H2 => v = .non ∧ Q (.ref x) H2) E
def Binds (K : PySem.W.Frag) (fd : FuncData) (ps : List Str) (ds : List Value) : Prop :=
  ∀ (s : Shared) (us : List Value), K.In s.heap → (us ++ ds).length = ps.length → BindsTo s fd ⟨us, []⟩ (ps.zip (us ++ ds))
theorem Binds.all {K : PySem.W.Frag} {fd : FuncData} {ps : List Str} (h : ∀ us : List Value, us.length = ps.length → bindArgs fd ⟨us, []⟩ = pure (ps.zip us)) : Binds K fd ps [] := fun s us _ hl => by
  rw [List.append_nil] at hl ⊢
  exact .of_eq (h us hl)
def Passes (CX : CXT) (X : Cx) (E : XK) : Prop := ∀ (pins : List (Addr × Obj)) (σ : St) (H : Hp) (s : Shared) (e : Value) (s' : Shared), Inv X pins σ H s → CX X.stack H s E e s' → X.xe e s'
section
variable {X : Cx} {CX : CXT} {k : Nat} {f C : Addr} {fd : FuncData} {ps : List Str} {sp : Sp} {dvs : List V} {ds : List Value} {E : XK} {x m : Str} {p pos apos : Pos} {e o : Expr} {es : List Expr} {ta : TE} {t : TA}
theorem run_fn {pins : List (Addr × Obj)} {σ : St} {H : Hp} {s : Shared} {Q : VK} {us : List Value} {vs : List V} (F : FnOk X.prog X.w X.K X.mg X.base CX k f fd ps sp) (hr : Room k X.A) (hb : Binds X.K fd ps ds) (hd : Vals dvs ds) (hx : Passes CX X E)
    (I : Inv X pins σ H s) (r : Vals vs us) (h : sp (vs ++ dvs) H Q E) : wpAny (model X.prog X.w) X.A (call (.ref f) us) (EP X pins σ Q) X.xe s := by
  have r2 : Vals (vs ++ dvs) (us ++ ds) := r.append hd
  have hl : (us ++ ds).length = ps.length := by rw [← r2.length]; exact F.len _ _ _ _ h
  refine wpAny_call (codeAny_mono (F.run X.A X.stack s H ⟨us, []⟩ (us ++ ds) (vs ++ dvs) Q E hr I.env0 (hb s us I.kIn hl) r2 h) fun r s' hq => ?_)
  cases r with
  | error e => exact hx pins σ H s e s' I hq
  | ok fl =>
    cases fl with
    | ret u => exact I.after hq
    | next => exact False.elim hq
    | brk => exact False.elim hq
    | cont => exact False.elim hq
theorem pe_call (F : FnOk X.prog X.w X.K X.mg X.base CX k f fd ps sp) (hr : Room k X.A) (hg : Gl X x) (hm : X.mg x = some (.ref f)) (hk : PySem.W.keepIn X.K (.ref f) = true) (hb : Binds X.K fd ps ds) (hd : Vals dvs ds) (hx : Passes CX X E)
    (ha : PA X (e :: es) t) (hdb : (x == ("__debug__" : Str)) = false := by decide) (he : starEach (e :: es) X.env = (false, eval e X.env) :: starEach es X.env := by rfl) (hpl : (backTo pos (starEach es X.env)).any (·.1) = false := by rfl) :
    PE X (.Call (.Name x p) (e :: es) [] pos) (tCall sp dvs E t) := by
  intro pins s σ H Q I h
  refine wpAny_Call_Name_kw (ld_glob I hg hm ?_ hdb)
  refine PySem.W.callWith_K (h₀ := X.base) I.ok.mod.kin hk (thn (ha pos pins s σ H _ I h) fun us s1 ⟨vs, H1, I1, r, q⟩ => ⟨I1.kIn, ?_⟩) he hpl
  exact run_fn F hr hb hd hx I1 r q
theorem pe_call0 (F : FnOk X.prog X.w X.K X.mg X.base CX k f fd ps sp) (hr : Room k X.A) (hg : Gl X x) (hm : X.mg x = some (.ref f)) (hk : PySem.W.keepIn X.K (.ref f) = true) (hb : Binds X.K fd ps ds) (hd : Vals dvs ds) (hx : Passes CX X E)
    (hdb : (x == ("__debug__" : Str)) = false := by decide) : PE X (.Call (.Name x p) [] [] pos) (tCall sp dvs E tNil) := by
  intro pins s σ H Q I h
  refine wpAny_Call_Name_kw (ld_glob I hg hm ?_ hdb)
  exact PySem.W.callWith_K0 I.kIn hk (run_fn (us := []) F hr hb hd hx I .nil h)
theorem pe_meth {pl : Sem Bool} (he : PE X o ta) (c : Cls X.K C) (hm : Meth X.K C m f) (F : FnOk X.prog X.w X.K X.mg X.base CX k f fd ps sp) (hr : Room k X.A) (hb : Binds X.K fd ps ds) (hd : Vals dvs ds) (hx : Passes CX X E) (ha : PA X (e :: es) t)
    (hst : starEach (e :: es) X.env = (false, eval e X.env) :: starEach es X.env := by rfl) (hpl : (backTo pos (starEach es X.env)).any (·.1) = false := by rfl)
    (ht : eval (.Call (.Attribute o m apos) (e :: es) [] pos) X.env = (do
      let ov ← eval o X.env
      standAt apos.atName
      let (f, first) ← holding [ov] (getMethod ov m pl)
      callWith pos f first (backTo pos (starEach (e :: es) X.env)) (backToKw pos (keywordEach [] X.env))) := by rfl) :
    PE X (.Call (.Attribute o m apos) (e :: es) [] pos) (tMeth C m sp dvs E ta t) := by
  intro pins s σ H Q I h
  refine PySem.W.methodCall_KW (pl := pl) (thn (he pins s σ H _ I h) fun u s1 ⟨x, H1, I1, rx, a, dx, fs, ex, ea, l, q⟩ => ?_) ht
  subst ex
  obtain rfl : u = Value.ref a := rx
  refine getmeth_ok I1 ea c hm l ?_
  refine PySem.W.callWith_K (first := [.ref a]) (h₀ := X.base) I.ok.mod.kin hm.kp (thn (ha pos pins s1 σ H1 _ I1 q) fun us s2 ⟨vs, H2, I2, r, q2⟩ => ⟨I2.kIn, ?_⟩) hst hpl
  exact run_fn (us := .ref a :: us) (vs := .ref a :: vs) F hr hb hd hx I2 (.cons rfl r) q2
theorem pe_meth0 {pl : Sem Bool} (he : PE X o ta) (c : Cls X.K C) (hm : Meth X.K C m f) (F : FnOk X.prog X.w X.K X.mg X.base CX k f fd ps sp) (hr : Room k X.A) (hb : Binds X.K fd ps ds) (hd : Vals dvs ds) (hx : Passes CX X E)
    (ht : eval (.Call (.Attribute o m apos) [] [] pos) X.env = (do
      let ov ← eval o X.env
      standAt apos.atName
      let (f, first) ← holding [ov] (getMethod ov m pl)
      callWith pos f first (backTo pos (starEach [] X.env)) (backToKw pos (keywordEach [] X.env))) := by rfl) :
    PE X (.Call (.Attribute o m apos) [] [] pos) (tMeth C m sp dvs E ta tNil) := by
  intro pins s σ H Q I h
  refine PySem.W.methodCall_KW (pl := pl) (thn (he pins s σ H _ I h) fun u s1 ⟨x, H1, I1, rx, a, dx, fs, ex, ea, l, q⟩ => ?_) ht
  subst ex
  obtain rfl : u = Value.ref a := rx
  refine getmeth_ok I1 ea c hm l ?_
  exact PySem.W.callWith_K0 (first := [.ref a]) I1.kIn hm.kp (run_fn (us := [.ref a]) (vs := [.ref a]) F hr hb hd hx I1 (.cons rfl .nil) q)
structure Mk (K : PySem.W.Frag) (C f : Addr) : Prop where
  makes : PySem.W.makesIn K C = true
  init : PySem.W.findIn K (.ref C) "__init__" = some (some (.ref f))
  fn : PySem.W.isFn K (.ref f) = true
  kp : PySem.W.keepIn K (.ref C) = true
theorem run_make {pins : List (Addr × Obj)} {σ : St} {H : Hp} {s : Shared} {Q : VK} {us : List Value} {vs : List V} (M : Mk X.K C f) (F : FnOk X.prog X.w X.K X.mg X.base CX k f fd ps sp) (hr : Room (k + 1) X.A) (hb : Binds X.K fd ps ds) (hd : Vals dvs ds)
    (hx : Passes CX X E) (I : Inv X pins σ H s) (r : Vals vs us)
    (h : ∀ x dx, H x = none → H dx = none → dx ≠ x → sp (.ref x :: (vs ++ dvs)) (upd (upd H dx (.own x)) x (.ins C dx [])) (fun v H2 => v = .non ∧ Q (.ref x) H2) E) :
    wpAny (model X.prog X.w) X.A (call (.ref C) us) (EP X pins σ Q) X.xe s := by
  have hq := h (s.heap.objs.size + 1) s.heap.objs.size (I.hok.fresh (Nat.le_succ _)) (I.hok.fresh (Nat.le_refl _)) (Nat.ne_of_lt (Nat.lt_succ_self _))
  have I2 := Inv.made (C := C) I
  have r2 : Vals (V.ref (s.heap.objs.size + 1) :: (vs ++ dvs)) (Value.ref (s.heap.objs.size + 1) :: (us ++ ds)) := .cons rfl (r.append hd)
  have hl : (Value.ref (s.heap.objs.size + 1) :: us ++ ds).length = ps.length := by
    have e := r2.length
    rw [F.len _ _ _ _ hq] at e
    exact e.symm
  refine wpAny_call (make_map (f := f) I.kIn M.makes M.init (beq_iff_eq.mp M.fn) (codeAny_mono (F.run _ X.stack _ _ ⟨Value.ref (s.heap.objs.size + 1) :: us, []⟩ (Value.ref (s.heap.objs.size + 1) :: (us ++ ds)) _ _ E (hr.make C us [])
    (I2.env0.make C us []) (hb _ (Value.ref (s.heap.objs.size + 1) :: us) I2.kIn hl) r2 hq) fun r s' hq' => ?_))
  cases r with
  | error e => exact hx pins σ _ _ e s' I2 hq'
  | ok fl =>
    cases fl with
    | ret u =>
      obtain ⟨v, H', I3, rv, ev, q3⟩ := I2.after hq'
      subst ev
      exact ⟨rv, ⟨V.ref (s.heap.objs.size + 1), H', I3, rfl, q3⟩⟩
    | next => exact False.elim hq'
    | brk => exact False.elim hq'
    | cont => exact False.elim hq'
theorem pe_make (M : Mk X.K C f) (F : FnOk X.prog X.w X.K X.mg X.base CX k f fd ps sp) (hr : Room (k + 1) X.A) (hg : Gl X x) (hm : X.mg x = some (.ref C)) (hb : Binds X.K fd ps ds) (hd : Vals dvs ds) (hx : Passes CX X E)
    (ha : PA X (e :: es) t) (hdb : (x == ("__debug__" : Str)) = false := by decide) (he : starEach (e :: es) X.env = (false, eval e X.env) :: starEach es X.env := by rfl) (hpl : (backTo pos (starEach es X.env)).any (·.1) = false := by rfl) :
    PE X (.Call (.Name x p) (e :: es) [] pos) (tMake C sp dvs E t) := by
  intro pins s σ H Q I h
  refine wpAny_Call_Name_kw (ld_glob I hg hm ?_ hdb)
  refine PySem.W.callWith_K (h₀ := X.base) I.ok.mod.kin M.kp (thn (ha pos pins s σ H _ I h) fun us s1 ⟨vs, H1, I1, r, q⟩ => ⟨I1.kIn, ?_⟩) he hpl
  exact run_make M F hr hb hd hx I1 r q
theorem pe_make0 (M : Mk X.K C f) (F : FnOk X.prog X.w X.K X.mg X.base CX k f fd ps sp) (hr : Room (k + 1) X.A) (hg : Gl X x) (hm : X.mg x = some (.ref C)) (hb : Binds X.K fd ps ds) (hd : Vals dvs ds) (hx : Passes CX X E)
    (hdb : (x == ("__debug__" : Str)) = false := by decide) : PE X (.Call (.Name x p) [] [] pos) (tMake C sp dvs E tNil) := by
  intro pins s σ H Q I h
  refine wpAny_Call_Name_kw (ld_glob I hg hm ?_ hdb)
  exact PySem.W.callWith_K0 I.kIn M.kp (run_make (us := []) M F hr hb hd hx I .nil h)
end
section
variable {X : Cx} {CX : CXT} {k : Nat} {f C : Addr} {fd : FuncData} {ps ks : List Str} {sp : Sp} {E : XK} {x m : Str} {p pos apos kpos : Pos} {e o : Expr} {es : List Expr} {kws : List Keyword} {te ta : TE} {t tk : TA} {nm : Option Str}
variable {g : List Value → List Value → List Value} {gV : List V → List V → List V}
end
structure FnScope (N P : List Str) (sc : Scope) : Prop where
  kind : sc.kind = .function
  co : sc.isCoroutine = false
  gen : sc.isGenerator = false
  nd : N.Nodup
  pre : N.take P.length = P
  par : ∀ x ∈ P, sc.names.lookup x = some .local ∨ sc.names.lookup x = some .cell
  nofree : ∀ y ∈ sc.names, y.2 ≠ .free
theorem bindL_out {kindOf : Str → Option NameKind} {x : Str} : ∀ {binds : List (Str × Value)} {m : Str → Option Value}, (∀ v, (x, v) ∉ binds) → bindL kindOf binds m x = m x
  | [], _, _ => rfl
  | (n, v) :: r, m, h => by
    unfold bindL
    rw [bindL_out fun w hw => h w (List.mem_cons_of_mem _ hw)]
    split
    · have : x ≠ n := by rintro rfl; exact h v List.mem_cons_self
      simp [this]
    · rfl
theorem bindC_out {kindOf : Str → Option NameKind} {x : Str} : ∀ {binds : List (Str × Value)} {m : Str → Option Value}, (∀ v, (x, v) ∉ binds) → bindC kindOf binds m x = m x
  | [], _, _ => rfl
  | (n, v) :: r, m, h => by
    unfold bindC
    rw [bindC_out fun w hw => h w (List.mem_cons_of_mem _ hw)]
    split
    · rfl
    · have : x ≠ n := by rintro rfl; exact h v List.mem_cons_self
      simp [this]
theorem bindL_get {kindOf : Str → Option NameKind} {x : Str} {v : Value} : ∀ {P : List Str} {vs : List Value} {i : Nat} {m : Str → Option Value}, P.Nodup → P[i]? = some x → vs[i]? = some v → kindOf x = some .local →
    bindL kindOf (P.zip vs) m x = some v
  | [], _, _, _, _, h, _, _ => by simp at h
  | _ :: _, [], _, _, _, _, h, _ => by simp at h
  | p :: P, w :: vs, 0, m, nd, h1, h2, hk => by
    simp at h1 h2; subst h1; subst h2
    show bindL kindOf ((p, w) :: P.zip vs) m p = _
    unfold bindL
    rw [bindL_out fun v hv => (List.nodup_cons.mp nd).1 (List.of_mem_zip hv).1, if_pos hk]
    simp
  | p :: P, w :: vs, i + 1, m, nd, h1, h2, hk => by
    show bindL kindOf ((p, w) :: P.zip vs) m x = _
    unfold bindL
    exact bindL_get (i := i) (List.nodup_cons.mp nd).2 (by simpa using h1) (by simpa using h2) hk
theorem bindC_get {kindOf : Str → Option NameKind} {x : Str} {v : Value} : ∀ {P : List Str} {vs : List Value} {i : Nat} {m : Str → Option Value}, P.Nodup → P[i]? = some x → vs[i]? = some v → kindOf x ≠ some .local →
    bindC kindOf (P.zip vs) m x = some v
  | [], _, _, _, _, h, _, _ => by simp at h
  | _ :: _, [], _, _, _, _, h, _ => by simp at h
  | p :: P, w :: vs, 0, m, nd, h1, h2, hk => by
    simp at h1 h2; subst h1; subst h2
    show bindC kindOf ((p, w) :: P.zip vs) m p = _
    unfold bindC
    rw [bindC_out fun v hv => (List.nodup_cons.mp nd).1 (List.of_mem_zip hv).1, if_neg hk]
    simp
  | p :: P, w :: vs, i + 1, m, nd, h1, h2, hk => by
    show bindC kindOf ((p, w) :: P.zip vs) m x = _
    unfold bindC
    exact bindC_get (i := i) (List.nodup_cons.mp nd).2 (by simpa using h1) (by simpa using h2) hk
def start (N : List Str) (vs : List V) : St := vs.map some ++ List.replicate (N.length - vs.length) none
def cxOf (CX : CXT) (P : Program) (w : World) (K : PySem.W.Frag) (mg : Str → Option Value) (base : Heap) (N : List Str) (qual : Str) (scope : Scope) (f : Addr) (cd : Value) (A : Around) (outer : List Env) (s : Shared) (H : Hp) (E : XK) : Cx where
  prog := P
  w := w
  K := K
  mg := mg
  base := base
  A := A.deeper (envOfC qual scope s.heap.objs.size f cd)
  N := N
  s_0 := s
  H_0 := H
  env := envOfC qual scope s.heap.objs.size f cd
  outer := outer
  stack := envOfC qual scope s.heap.objs.size f cd :: outer
  ex := []
  calm := true
  fn := fun _ => true
  pn := []
  xe := fun e s' => wpAny (model P w) (A.deeper (envOfC qual scope s.heap.objs.size f cd)) (leaving (envOfC qual scope s.heap.objs.size f cd) e) (fun _ s'' => CX outer H s E e s'') (fun e' s'' => CX outer H s E e' s'') s'
theorem cell_has {sc : Scope} {n : Nat} {x : Str} (h : sc.names.lookup x = some .cell) : ∃ c, (cellsFrom n sc.names []).lookup x = some c := by
  have q := PySem.W.cellsFrom_some sc.names n [] (.inl h)
  exact Option.isSome_iff_exists.mp q
theorem inv_start {CX : CXT} {P : Program} {w : World} {K : PySem.W.Frag} {mg : Str → Option Value} {base : Heap} {N ps : List Str} {qual : Str} {scope : Scope} {f : Addr} {cd : Value} {A : Around} {outer : List Env} {s s1 : Shared} {H : Hp} {E : XK} {us : List Value} {vs : List V}
    (S : FnScope N ps scope) (hd : A.handled = none) (e0 : Env0 P w K mg base A outer s H) (hl : vs.length = ps.length) (r : Vals vs us)
    (x : InCallC s s.heap.objs.size (bindL (envOfC qual scope s.heap.objs.size f cd).kindOf (ps.zip us) fun _ => none) (cellsFrom (s.heap.objs.size + 1) scope.names []) (bindC (envOfC qual scope s.heap.objs.size f cd).kindOf (ps.zip us) fun _ => none) s1) :
    Inv (cxOf CX P w K mg base N qual scope f cd A outer s H E) [] (start N vs) H s1 := by
  have hpl : ps.length ≤ N.length := by have := congrArg List.length S.pre; rw [List.length_take] at this; omega
  obtain ⟨h1, tk, rfl, hk⟩ := x.done
  have noA : ∀ b : Addr, b ∉ (cxOf CX P w K mg base N qual scope f cd A outer s H E).ex := fun b z => absurd (show b ∈ ([] : List Addr) from z) (by simp)
  refine ⟨⟨e0.mod, S.kind, rfl, rfl, Nat.le_refl _, fun y z c h1 h2 => ?_, fun y hy => ?_, fun y c _ h => ?_, fun _ => hd, Around.frames_deeper e0.frames, .inr ⟨rfl, rfl⟩, fun b z => absurd z (noA b), e0.bs, e0.bsz, fun b _ _ => noA b, fun b z => absurd z (noA b), e0.funs, e0.frf⟩,
    rfl, e0.bare, Un.kept hk, ⟨_, x.toInCall.ns, fun i y v h1 h2 h3 => ?_⟩, fun y c h => ⟨_, x.cell y c h⟩, e0.hok.fresh (Nat.le_refl _), fun y c h => ?_, fun p hp => absurd (show p ∈ ([] : List (Addr × Obj)) from hp) (by simp), e0.hok.kept hk, ?_⟩
  · exact name_of_addr x.apart (PySem.mem_of_lookup h1) (PySem.mem_of_lookup h2)
  · have hy : scope.names.lookup y = some .cell ∨ scope.names.lookup y = some .free := hy
    rcases hy with hy | hy
    · exact cell_has hy
    · exact absurd rfl (S.nofree _ (PySem.mem_of_lookup hy))
  · exact Nat.le_of_lt (x.above y c (PySem.mem_of_lookup h))
  · have hi : i < vs.length := by
      unfold start at h2
      by_cases hi : i < vs.length
      · exact hi
      · rw [List.getElem?_append_right (by simpa using hi)] at h2
        rw [List.getElem?_replicate] at h2
        split at h2 <;> cases h2
    have ha : vs[i]? = some v := by
      unfold start at h2
      rw [List.getElem?_append_left (by simpa using hi), List.getElem?_map] at h2
      cases e : vs[i]? with
      | none => rw [e] at h2; cases h2
      | some a => rw [e] at h2; cases h2; rfl
    obtain ⟨u, hu, rv⟩ := r.get ha
    have hp : ps[i]? = some y := by
      rw [← S.pre, List.getElem?_take_of_lt (by omega)]; exact h1
    have ndP : ps.Nodup := by rw [← S.pre]; exact S.nd.sublist (List.take_sublist _ _)
    refine ⟨u, rv, ?_⟩
    rcases S.par y (List.mem_of_getElem? hp) with k | k
    · exact .inl ⟨k, bindL_get ndP hp hu k⟩
    · obtain ⟨c, e⟩ := cell_has (n := s.heap.objs.size + 1) k
      refine .inr ⟨.inl k, c, e, ?_⟩
      have q := x.cell y c e
      rw [bindC_get ndP hp hu (by show scope.names.lookup y ≠ _; rw [k]; decide)] at q
      exact q
  · exact e0.hok.fresh (Nat.le_of_lt (x.above y c (PySem.mem_of_lookup h)))
  · unfold start
    show _ = N.length
    rw [List.length_append, List.length_map, List.length_replicate]
    omega
theorem fn_of {CX : CXT} {P : Program} {w : World} {K : PySem.W.Frag} {mg : Str → Option Value} {base : Heap} {k : Nat} {f : Addr} {name qual : Str} {params : Arguments} {body : List Stmt} {scope : Scope} {dV kV doc pm cdv ct oc : Value} {an od : Option Addr}
    {osl : Array (Option Value)} {N ps : List Str} {sp : Sp} (lk : K.lookup f = some ⟨oc, od, .func (PySem.W.fnOf name qual params body scope dV kV doc pm an cdv ct), osl⟩) (hcd : PySem.W.codeIn K cdv qual = true) (S : FnScope N ps scope)
    (len : ∀ vs H Q E, sp vs H Q E → vs.length = ps.length)
    (hbody : ∀ (A : Around) (outer : List Env) (s : Shared) (H : Hp) (vs : List V) (Q : VK) (E : XK), Room k (A.deeper (envOfC qual scope s.heap.objs.size f cdv)) → sp vs H Q E →
      ∃ t, PSs (cxOf CX P w K mg base N qual scope f cdv A outer s H E) body t ∧ t { nx := fun _ H' => Q .non H', rt := Q } (start N vs) H) :
    FnOk P w K mg base CX (k + 1) f (PySem.W.fnOf name qual params body scope dV kV doc pm an cdv ct) ps sp := by
  refine ⟨len, fun A outer s H args us vs Q E hr e0 hb r hsp => ?_⟩
  have hl := len _ _ _ _ hsp
  have KX : K.In s.heap := e0.mod.kin.keeps fun b o e => (e0.bs b o e).1
  have lim : s.heap.NoLimit := e0.mod.nolimit.keeps fun b o e => (e0.bs b o e).1
  have hkind : ∀ y ∈ ps.zip us, scope.names.lookup y.1 = some .local ∨ (scope.names.lookup y.1 = some .cell ∧ ((cellsFrom (s.heap.objs.size + 1) scope.names []).lookup y.1).isSome = true) := fun ⟨n, v⟩ hy => by
    rcases S.par n (List.of_mem_zip hy).1 with q | q
    · exact .inl q
    · exact .inr ⟨q, PySem.W.cellsFrom_some _ _ _ (.inl q)⟩
  refine codeAny_call_function hr.depth (KX _ _ lk) rfl S.co S.gen rfl (PySem.W.codeRec_of KX hcd) (hb _ _ _ _ ?_)
  refine wpAny_newFunctionEnv_cells S.kind hkind fun env he s1 x => ?_
  subst he
  refine ⟨lim.keeps x.toInCall.keep, codeAny_func ?_⟩
  obtain ⟨t, ht, hq⟩ := hbody A outer s H vs Q E (hr.deeper _) hsp
  have I : Inv (cxOf CX P w K mg base N qual scope f cdv A outer s H E) [] (start N vs) H s1 := inv_start S hr.hd e0 hl r x
  refine wpAny_mono (ht [] s1 (start N vs) H _ I hq) (fun fl s' hs => ?_) fun e s' hs => hs
  have fin : ∀ {σ' : St} {H' : Hp} {v : V} {u : Value}, Inv (cxOf CX P w K mg base N qual scope f cdv A outer s H E) [] σ' H' s' → RelV v u → Q v H' → CE outer P w H s Q u s' :=
    fun {σ' H' v u} J rv q => ⟨v, H', J.os, J.bare, J.base, J.hok, rv, q⟩
  cases fl with
  | ret u =>
    obtain ⟨v, σ', H', J, rv, q⟩ := hs
    exact fin J rv q
  | next =>
    obtain ⟨σ', H', J, q⟩ := hs
    exact fin (v := V.non) (u := Value.none) J rfl q
  | brk =>
    obtain ⟨_, _, _, q⟩ := hs
    exact False.elim q
  | cont =>
    obtain ⟨_, _, _, q⟩ := hs
    exact False.elim q
end L2
namespace L2
open PySem PySem.Spec PyProof.Rows
section
variable {X : Cx} {x : Str} {p pos : Pos} {e : Expr} {es : List Expr} {t : TA} {id T : String} {r : List V → Hp → VK → Prop}
def tCB (r : List V → Hp → VK → Prop) (t : TA) : TE := fun σ H Q => t σ H fun vs H1 => r vs H1 Q
theorem pe_callB (hc : CallR X (.builtin id) r) (hg : Gl X x) (hm : X.mg x = none) (hv : bootBuiltins x = some (.builtin id)) (ha : PA X (e :: es) t) (hn : x ≠ "__name__" := by decide) (hdb : (x == ("__debug__" : Str)) = false := by decide)
    (he : starEach (e :: es) X.env = (false, eval e X.env) :: starEach es X.env := by rfl) (hpl : (backTo pos (starEach es X.env)).any (·.1) = false := by rfl) : PE X (.Call (.Name x p) (e :: es) [] pos) (tCB r t) := by
  intro pins s σ H Q I h
  refine wpAny_Call_Name_kw (ld_blt I hg hm hv ?_ hn hdb)
  exact PyProof.Rows.callWith_builtin1 (thn (ha pos pins s σ H _ I h) fun us s1 ⟨vs, H1, I1, r1, q1⟩ => hc pins s1 σ H1 vs us Q I1 r1 q1) he hpl
theorem pe_callTy (hc : CallR X (.type T) r) (hg : Gl X x) (hm : X.mg x = none) (hv : bootBuiltins x = some (.type T)) (ha : PA X (e :: es) t) (hn : x ≠ "__name__" := by decide) (hdb : (x == ("__debug__" : Str)) = false := by decide)
    (he : starEach (e :: es) X.env = (false, eval e X.env) :: starEach es X.env := by rfl) (hpl : (backTo pos (starEach es X.env)).any (·.1) = false := by rfl) : PE X (.Call (.Name x p) (e :: es) [] pos) (tCB r t) := by
  intro pins s σ H Q I h
  refine wpAny_Call_Name_kw (ld_blt I hg hm hv ?_ hn hdb)
  exact PyProof.Rows.callWith_type1 (thn (ha pos pins s σ H _ I h) fun us s1 ⟨vs, H1, I1, r1, q1⟩ => hc pins s1 σ H1 vs us Q I1 r1 q1) he hpl
end
end L2
namespace HT
open PySem PyProof.Rows
section
open PySem.SeqAt
open PySem.AutoSeq1 (wpAny_loadPart')
open PySem.MeetsSeq PySem.MeetsSeq2 PySem.MeetsSeq3
end
section
variable {prog : Program} {w : World} {A : Around} {E : Value → Shared → Prop} {s : Shared}
def sIx (n d : Nat) : Option Int → Nat
  | none => d
  | some v => if v < 0 then (v + (n : Int)).toNat else min v.toNat n
theorem sIx_none (n d : Nat) : sIx n d none = d := rfl
theorem sIx_nat (n d k : Nat) : sIx n d (some (k : Int)) = min k n := by
  show (if (k : Int) < 0 then ((k : Int) + (n : Int)).toNat else min (k : Int).toNat n) = min k n
  rw [if_neg (by omega), Int.toNat_natCast]
end
end HT
namespace L2
open PySem PySem.Spec PyProof.Rows
abbrev TO := St → Hp → (Option Int → Hp → Prop) → Prop
def PO (X : Cx) (e : Option Expr) (t : TO) : Prop :=
  ∀ (pins : List (Addr × Obj)) (s : Shared) (σ : St) (H : Hp) (Q : Option Int → Hp → Prop), Inv X pins σ H s → t σ H Q →
    wpAny (model X.prog X.w) X.A (evalPart e X.env) (fun u s' => ∃ o H', Inv X pins σ H' s' ∧ IsPart u o ∧ Q o H') X.xe s
def tNoPart : TO := fun _ H Q => Q none H
def tPart (t : TE) : TO := fun σ H Q => t σ H fun x H1 => ∃ i, x = .int i ∧ Q (some i) H1
section
variable {X : Cx} {e : Expr} {te : TE} {lo hi : Option Expr} {tl th : TO} {pos p2 : Pos}
theorem po_none : PO X none tNoPart := by
  intro pins s σ H Q I h
  rw [evalPart_none]
  exact wpAny_pure ⟨none, H, I, .none, h⟩
theorem po_some (h : PE X e te) : PO X (some e) (tPart te) := by
  intro pins s σ H Q I hw
  rw [evalPart_some]
  refine thn (h pins s σ H _ I hw) fun u s1 ⟨x, H1, I1, r1, q1⟩ => ?_
  obtain ⟨i, rfl, q⟩ := q1
  obtain ⟨t, rfl⟩ := r1
  exact ⟨some i, H1, I1, .int i t, q⟩
def SlR (X : Cx) (r : V → Option Int → Option Int → Hp → VK → Prop) : Prop :=
  ∀ (pins : List (Addr × Obj)) (s : Shared) (σ : St) (H : Hp) (x : V) (v vl vu : Value) (lo hi : Option Int) (sl : Addr) (Q : VK), Inv X pins σ H s → RelV x v → s.heap.IsSliceOf sl vl vu .none → IsPart vl lo → IsPart vu hi → r x lo hi H Q →
    ∃ T id, typeLookup (.type T) "__getitem__" = pure (some (.builtin id)) ∧ s.TypeIs v T ∧ wpAny (model X.prog X.w) X.A (getItem v (.ref sl)) (EP X pins σ Q) X.xe s
def tSl (r : V → Option Int → Option Int → Hp → VK → Prop) (te : TE) (tl th : TO) : TE := fun σ H Q => te σ H fun x H1 => tl σ H1 fun l H2 => th σ H2 fun u H3 => r x l u H3 Q
theorem pe_slice {r : V → Option Int → Option Int → Hp → VK → Prop} (hr : SlR X r) (he : PE X e te) (hl : PO X lo tl) (hu : PO X hi th) : PE X (.Subscript e (.Slice lo hi none p2) pos) (tSl r te tl th) := by
  intro pins s σ H Q I h
  refine Subscript_ (thn (he pins s σ H _ I h) fun v s1 ⟨x, H1, I1, r1, q1⟩ => ?_)
  refine wpAny_Slice (thn (hl pins s1 σ H1 _ I1 q1) fun vl s2 ⟨l, H2, I2, pl, q2⟩ => thn (hu pins s2 σ H2 _ I2 q2) fun vu s3 ⟨u, H3, I3, pu, q3⟩ => ?_)
  rw [evalPart_none]
  refine wpAny_pure ?_
  have I4 : Inv X pins σ H3 { s3 with heap := s3.heap.push { cls := .type "slice", data := .fields #[vl, vu, .none] } } := I3.kept (t' := s3.toks) fun b ob q => Heap.get?_push_of_some _ q
  obtain ⟨T, id, hT, ht, hg⟩ := hr pins { s3 with heap := s3.heap.push { cls := .type "slice", data := .fields #[vl, vu, .none] } } σ H3 x v vl vu l u s3.heap.objs.size Q I4 r1 (Heap.IsSliceOf.new ..) pl pu q3
  show wpAny (model X.prog X.w) X.A (subscriptTail e (.Slice lo hi none p2) v (.ref s3.heap.objs.size)) (EP X pins σ Q) X.xe { s3 with heap := s3.heap.push { cls := .type "slice", data := .fields #[vl, vu, .none] } }
  exact tail_any (ops := [.ref s3.heap.objs.size, v]) ht hT hg (by with_unfolding_all rfl)
def cutV (xs : List V) (lo hi : Option Int) : List V := (xs.drop (HT.sIx xs.length 0 lo)).take (HT.sIx xs.length xs.length hi - HT.sIx xs.length 0 lo)
theorem cutV_length (xs : List V) (lo hi : Option Int) : (cutV xs lo hi).length ≤ xs.length := by
  unfold cutV
  rw [List.length_take, List.length_drop]
  omega
end
end L2
namespace L2
open PySem PySem.Spec PyProof.Rows
def ixN (n : Nat) (i : Int) : Option Nat := if 0 ≤ i then (if i < n then some i.toNat else none) else if -(n : Int) ≤ i then some (i + n).toNat else none
def atI {α : Type} (xs : List α) (i : Int) : Option α := (ixN xs.length i).bind fun j => xs[j]?
theorem ixN_seq {n : Nat} {i : Int} {j : Nat} (h : ixN n i = some j) : seqIndex? i n = some j ∧ j < n ∧ -(n : Int) ≤ i ∧ i < n := by
  unfold ixN at h
  by_cases h0 : 0 ≤ i
  · rw [if_pos h0] at h
    by_cases h1 : i < n
    · rw [if_pos h1] at h
      have e : i.toNat = j := Option.some.inj h
      exact ⟨by rw [seqIndex_of h0 h1, e], by omega, by omega, h1⟩
    · rw [if_neg h1] at h; cases h
  · rw [if_neg h0] at h
    by_cases h1 : -(n : Int) ≤ i
    · rw [if_pos h1] at h
      have e : (i + n).toNat = j := Option.some.inj h
      exact ⟨by rw [seqIndex_neg (by omega) h1, e], by omega, h1, by omega⟩
    · rw [if_neg h1] at h; cases h
theorem atI_get {α : Type} {xs : List α} {i : Int} {v : α} (h : atI xs i = some v) : ∃ j, seqIndex? i xs.length = some j ∧ xs[j]? = some v ∧ j < xs.length ∧ -(xs.length : Int) ≤ i ∧ i < xs.length := by
  unfold atI at h
  cases e : ixN xs.length i with
  | none => rw [e] at h; cases h
  | some j =>
    rw [e] at h
    obtain ⟨h1, h2, h3, h4⟩ := ixN_seq e
    exact ⟨j, h1, h, h2, h3, h4⟩
theorem atI_nat {α : Type} {xs : List α} {j : Nat} {v : α} (h : xs[j]? = some v) : atI xs (j : Int) = some v := by
  have hj : j < xs.length := (List.getElem?_eq_some_iff.mp h).1
  have e : ixN xs.length (j : Int) = some j := by
    unfold ixN
    rw [if_pos (by omega), if_pos (by omega)]; simp
  unfold atI; rw [e]; exact h
theorem atI_last {α : Type} (xs : List α) (v : α) : atI (xs ++ [v]) (-1) = some v := by
  have hl : (xs ++ [v]).length = xs.length + 1 := by simp
  have e : ixN (xs ++ [v]).length (-1) = some xs.length := by
    unfold ixN
    rw [hl, if_neg (by decide), if_pos (by omega)]
    congr 1
    omega
  unfold atI
  rw [e]
  show (xs ++ [v])[xs.length]? = some v
  simp
def PlainIx (b : Expr) : Prop := ∀ o i, subscripted b false o i = operate [o, i] (getItem o i)
def IxR (X : Cx) (r : R2) : Prop :=
  ∀ (value slice : Expr) (pins : List (Addr × Obj)) (s : Shared) (σ : St) (H : Hp) (x y : V) (v u : Value) (Q : VK), Inv X pins σ H s → RelV x v → RelV y u → r x y H Q →
    subscripted slice false v u = operate [v, u] (getItem v u) → wpAny (model X.prog X.w) X.A (subscriptTail value slice v u) (EP X pins σ Q) X.xe s
def MtR (X : Cx) (id : String) (r : V → List V → Hp → VK → Prop) : Prop :=
  ∀ (pins : List (Addr × Obj)) (s : Shared) (σ : St) (H : Hp) (x : V) (xs : List V) (v : Value) (us : List Value) (Q : VK), Inv X pins σ H s → RelV x v → Vals xs us → r x xs H Q →
    wpAny (model X.prog X.w) X.A (call (.builtin id) (v :: us)) (EP X pins σ Q) X.xe s
section
variable {X : Cx} {a b : Expr} {ta tb : TE} {pos : Pos}
theorem pe_ix {r : R2} (hr : IxR X r) (ha : PE X a ta) (hb : PE X b tb) (hs : PlainIx b) : PE X (.Subscript a b pos) (tOp r ta tb) := by
  intro pins s σ H Q I h
  exact Subscript_ (binT ha hb I h fun v u s2 x y H2 I2 rx ry q => hr a b pins s2 σ H2 x y v u Q I2 rx ry q (hs _ _))
def rIxL (K : PySem.W.Frag) : R2 := fun x y H Q => ∃ p xs i v, x = .ref p ∧ y = .int i ∧ SqL K H p xs ∧ atI xs i = some v ∧ Q v H
def rIxT (K : PySem.W.Frag) : R2 := fun x y H Q => ∃ p xs i v, x = .ref p ∧ y = .int i ∧ SqT K H p xs ∧ atI xs i = some v ∧ Q v H
theorem ix_list : IxR X (rIxL X.K) := by
  intro value slice pins s σ H x y v u Q I rx ry h hs
  obtain ⟨p, xs, i, z, rfl, rfl, hq, he, q⟩ := h
  cases rx
  obtain ⟨t, rfl⟩ := ry
  obtain ⟨its, r, pl, hz⟩ := I.list hq
  obtain ⟨j, h1, h2, h3, h4, h5⟩ := atI_get he
  obtain ⟨w, ew, rw'⟩ := r.get h2
  have hl := r.length
  have hn := line63
  have fin : EP X pins σ Q w s := ⟨z, H, I, rw', q⟩
  by_cases h0 : 0 ≤ i
  · have hj : i.toNat = j := by
      rw [seqIndex_of h0 h5] at h1
      exact Option.some.inj h1
    exact item_listR pl.isList h0 (by omega) (by rw [hj]; simpa using ew) fin hs
  · have hj : (i + (its.toArray.size : Int)).toNat = j := by
      rw [seqIndex_neg (by omega) h4] at h1
      rw [List.size_toArray, ← hl]
      exact Option.some.inj h1
    exact subscriptTail_builtinR (x := w) pl.isList.typeIs slot_list_getitem.lookup
      (wpAny_getItem_list_neg (Q := fun r s' => r = w ∧ EP X pins σ Q r s') pl.isList (by omega) (by rw [List.size_toArray] <;> omega) (by omega) (by rw [hj]; simpa using ew) ⟨rfl, fin⟩) hs
theorem ix_tup : IxR X (rIxT X.K) := by
  intro value slice pins s σ H x y v u Q I rx ry h hs
  obtain ⟨p, xs, i, z, rfl, rfl, hq, he, q⟩ := h
  cases rx
  obtain ⟨t, rfl⟩ := ry
  obtain ⟨its, r, pl, hz⟩ := I.tuple hq
  obtain ⟨j, h1, h2, h3, h4, h5⟩ := atI_get he
  obtain ⟨w, ew, rw'⟩ := r.get h2
  have hl := r.length
  have hn := line63
  have fin : EP X pins σ Q w s := ⟨z, H, I, rw', q⟩
  exact subscriptTail_builtinR (x := w) pl.typeIs slot_tuple_getitem.lookup
    (getItem_tuple (j := j) (Q := fun r s' => r = w ∧ EP X pins σ Q r s') pl (by omega) (by omega) (by rw [List.size_toArray, ← hl]; exact h1) (by simpa using ew) ⟨rfl, fin⟩) hs
theorem slice_bounds (lo hi : Option Int) (n : Nat) : (sliceBounds lo hi none n).1 = ((HT.sIx n 0 lo : Nat) : Int) ∧ (sliceBounds lo hi none n).2.1 = ((HT.sIx n n hi : Nat) : Int) ∧ (sliceBounds lo hi none n).2.2 = 1 := by
  refine ⟨?_, ?_, rfl⟩
  · cases lo with
    | none => simp [sliceBounds, HT.sIx]
    | some i =>
      simp only [sliceBounds, HT.sIx, Option.getD_none, show (1 : Int) > 0 by decide, if_true]
      by_cases h : i < 0
      · simp only [h, if_true] <;> omega
      · simp only [h, if_false] <;> omega
  · cases hi with
    | none => simp [sliceBounds, HT.sIx]
    | some i =>
      simp only [sliceBounds, HT.sIx, Option.getD_none, show (1 : Int) > 0 by decide, if_true]
      by_cases h : i < 0
      · simp only [h, if_true] <;> omega
      · simp only [h, if_false] <;> omega
theorem slicePick_cut (its : List Value) (lo hi : Option Int) : slicePick its.toArray lo hi none = ((its.drop (HT.sIx its.length 0 lo)).take (HT.sIx its.length its.length hi - HT.sIx its.length 0 lo)).toArray := by
  obtain ⟨h1, h2, h3⟩ := slice_bounds lo hi its.toArray.size
  unfold slicePick
  rw [h1, h2, h3]
  simp only [sliceRange_one, pick_run, List.size_toArray] <;> rfl
def rSlL (K : PySem.W.Frag) : V → Option Int → Option Int → Hp → VK → Prop := fun x lo hi H Q => ∃ a xs, x = .ref a ∧ SqL K H a xs ∧ ∀ p, H p = none → Q (.ref p) (upd H p (.lst (cutV xs lo hi)))
theorem sl_list : SlR X (rSlL X.K) := by
  intro pins s σ H x v vl vu lo hi sl Q I rx hs pl pu h
  obtain ⟨a, xs, rfl, hx, q⟩ := h
  cases rx
  obtain ⟨its, r, ht, hz⟩ := I.list hx
  have hlen := r.length
  refine ⟨"list", _, slot_list_getitem.lookup, ht.isList.typeIs, ?_⟩
  refine wpAny_getItem_list_slice ht.isList hs pl pu .none (by simp) ?_ (by rw [List.size_toArray] <;> omega)
  rw [slicePick_cut, ← hlen]
  refine ⟨.ref s.heap.objs.size, _, I.laid (t' := s.toks) (o := .lst (cutV xs lo hi)) (fun b ob q => Heap.get?_push_of_some _ q) (Nat.le_refl _) ?_, rfl, q _ (I.hok.fresh (Nat.le_refl _))⟩
  exact ⟨Nat.le_trans (cutV_length xs lo hi) hz, _, 0, (r.drop (HT.sIx xs.length 0 lo)).take (HT.sIx xs.length xs.length hi - HT.sIx xs.length 0 lo), Heap.get?_push_size _ rfl⟩
theorem call_len_seq : CallR X (.builtin "len") (fun xs H Q => ∃ p ys, xs = [.ref p] ∧ (SqL X.K H p ys ∨ SqT X.K H p ys) ∧ Q (.int ys.length) H) := by
  intro pins s σ H xs us Q I r h
  obtain ⟨p, ys, rfl, hq, q⟩ := h
  obtain ⟨u, rfl, rx⟩ := vals1 r
  cases rx
  have hn := line63
  rcases hq with hq | hq
  · obtain ⟨its, r', pl, hz⟩ := I.list hq
    have hlen := r'.length
    exact Calls.call_len_list pl.isList (by simp only [List.size_toArray] <;> omega) ⟨.int ys.length, H, I.tok _, ⟨s.toks + 1, by rw [List.size_toArray, hlen]⟩, q⟩
  · obtain ⟨its, r', pl, hz⟩ := I.tuple hq
    have hlen := r'.length
    exact len_tuple pl (by simp only [List.size_toArray] <;> omega) ⟨.int ys.length, H, I.tok _, ⟨s.toks + 1, by rw [List.size_toArray, hlen]⟩, q⟩
theorem call_list_of : CallR X (.type "list") (fun xs H Q => ∃ p ys, xs = [.ref p] ∧ (SqL X.K H p ys ∨ SqT X.K H p ys) ∧ ∀ l, H l = none → Q (.ref l) (upd H l (.lst ys))) := by
  intro pins s σ H xs us Q I r h
  obtain ⟨p, ys, rfl, hq, q⟩ := h
  obtain ⟨u, rfl, rx⟩ := vals1 r
  cases rx
  have fin : ∀ (its : List Value), Vals ys its → ys.length ≤ sizeLine → ∀ (h' : Heap) (c' : Nat), (∀ b o', s.heap.get? b = some o' → h'.get? b = some o') →
      h'.get? s.heap.objs.size = some { cls := .type "list", dict := none, data := .seq its.toArray c', slots := #[] } → EP X pins σ Q (.ref s.heap.objs.size) { s with heap := h' } := fun its r' hz h' c' kp e =>
    ⟨.ref s.heap.objs.size, _, I.laid (t' := s.toks) kp (Nat.le_refl _) (show ObjOk X.prog X.w _ h' _ (.lst ys) from ⟨hz, its, c', r', e⟩), rfl, q _ (I.hok.fresh (Nat.le_refl _))⟩
  rcases hq with hq | hq
  · obtain ⟨its, r', pl, hz⟩ := I.list hq
    have hlen := r'.length
    obtain ⟨o, ho, hc, n, hd⟩ := pl.isList
    exact call_list_seq p (.inl rfl) ho hc hd (fun h' c' kp e => fin its r' hz h' c' kp e) (by simp only [List.size_toArray] <;> omega)
  · obtain ⟨its, r', pl, hz⟩ := I.tuple hq
    have hlen := r'.length
    obtain ⟨o, ho, hc, n, hd⟩ := pl
    exact call_list_seq p (.inr rfl) ho hc hd (fun h' c' kp e => fin its r' hz h' c' kp e) (by simp only [List.size_toArray] <;> omega)
def tyV (K : PySem.W.Frag) (T : String) (x : V) (H : Hp) : Prop := match x with
  | .str _ => T = "str"
  | .int _ => T = "int"
  | .ref p => (T = "list" ∧ ∃ xs, SqL K H p xs) ∨ (T = "tuple" ∧ ∃ o, K.lookup p = some o ∧ o.cls = .type "tuple" ∧ o.dict = none) ∨
      (T = "dict" ∧ ((∃ kvs, H p = some (.dK kvs)) ∨ ∃ kvs, H p = some (.dT kvs))) ∨ (T = "set" ∧ ∃ S n, H p = some (.set S n))
  | _ => False
theorem tyV_is {pins : List (Addr × Obj)} {σ : St} {H : Hp} {s : Shared} {T : String} {x : V} {v : Value} (I : Inv X pins σ H s) (r : RelV x v) (ty : tyV X.K T x H) :
    s.TypeIs v T ∧ ∀ a, v = .ref a → ∃ ob, s.heap.get? a = some ob ∧ ob.dict = none := by
  cases x with
  | str z =>
    obtain ⟨t, rfl⟩ := r
    cases (show T = "str" from ty)
    exact ⟨typeIs_str s z t, fun _ e => nomatch e⟩
  | int i =>
    obtain ⟨t, rfl⟩ := r
    cases (show T = "int" from ty)
    exact ⟨typeIs_int s i t, fun _ e => nomatch e⟩
  | ref p =>
    cases r
    rcases ty with ⟨rfl, xs, hq⟩ | ⟨rfl, o, hk, hc, hd⟩ | ⟨rfl, hk⟩ | ⟨rfl, S, n, hk⟩
    · obtain ⟨its, _, pl, _⟩ := I.list hq
      refine ⟨pl.isList.typeIs, fun a e => ?_⟩
      cases e
      obtain ⟨o, n, e, c, hd, _⟩ := pl
      exact ⟨o, e, hd⟩
    · refine ⟨⟨o, I.kIn p o hk, hc⟩, fun a e => ?_⟩
      cases e
      exact ⟨o, I.kIn _ o hk, hd⟩
    · have z : ∃ o, s.heap.get? p = some o ∧ o.ExactDict := by
        rcases hk with ⟨kvs, hk⟩ | ⟨kvs, hk⟩
        · obtain ⟨_, _, _, _, o, _, _, e, ex, _⟩ := I.hok p _ hk
          exact ⟨o, e, ex⟩
        · obtain ⟨_, _, _, _, o, _, _, e, ex, _⟩ := I.hok p _ hk
          exact ⟨o, e, ex⟩
      obtain ⟨o, e, ex⟩ := z
      refine ⟨⟨o, e, ex.1⟩, fun a e2 => ?_⟩
      cases e2
      exact ⟨o, e, ex.2.1⟩
    · obtain ⟨o, _, _, _, e, ex, _⟩ := I.hok p _ hk
      refine ⟨⟨o, e, ex.1⟩, fun a e2 => ?_⟩
      cases e2
      exact ⟨o, e, ex.2.1⟩
  | _ => exact False.elim ty
def tBM (K : PySem.W.Frag) (T : String) (r : V → List V → Hp → VK → Prop) (to : TE) (t : TA) : TE := fun σ H Q => to σ H fun x H1 => tyV K T x H1 ∧ t σ H1 fun xs H2 => r x xs H2 Q
variable {o e : Expr} {es : List Expr} {to : TE} {t : TA} {name : Str} {apos cpos : Pos} {T id : String} {r : V → List V → Hp → VK → Prop}
theorem pe_bm (pa : PlainAttrs T) (slot : Slot T name id) (hty : typeOf (.builtin id) = pure (.type "method_descriptor")) (hm : MtR X id r) (ho : PE X o to) (ha : PA X (e :: es) t)
    (hbase : attributeBase o name X.env (eval o X.env) = eval o X.env := by rfl)
    (hfew : ((backTo cpos (starEach (e :: es) X.env)).all (fun x => !x.1) && (backToKw cpos (keywordEach [] X.env)).all (fun x => x.1.isSome)
      && decide ((e :: es).length + ([] : List Keyword).length + (if ([] : List Keyword).isEmpty then 0 else 1) < 30)) = true := by rfl)
    (hline : (apos.endLine == cpos.line) = true := by rfl) (hs : starEach (e :: es) X.env = (false, eval e X.env) :: starEach es X.env := by rfl) (hplain : (backTo cpos (starEach es X.env)).any (·.1) = false := by rfl) :
    PE X (.Call (.Attribute o name apos) (e :: es) [] cpos) (tBM X.K T r to t) := by
  intro pins s σ H Q I h
  refine wpAny_Call_method_late hbase hfew hline rfl (thn (ho pins s σ H _ I h) fun v s1 ⟨x, H1, I1, r1, ty, q1⟩ => ?_)
  obtain ⟨h1, h2⟩ := tyV_is I1 r1 ty
  refine ⟨T, id, pa, slot, hty, h1, h2, ?_⟩
  have hA := ha cpos pins s1 σ H1 _ I1 q1
  rw [hs] at hA ⊢
  refine Calls.callWith_builtin (by show (false || (backTo cpos (starEach es X.env)).any (·.1)) = false; rw [hplain] <;> rfl) (Calls.evalArgs_plain ?_)
  exact thn hA fun us s2 ⟨vs, H2, I2, r2, q2⟩ => hm pins s2 σ H2 x vs v us Q I2 r1 r2 q2
end
end L2
namespace L2
open PySem PySem.Spec PyProof.Rows
def MtM (X : Cx) (id : String) (r : V → List V → Hp → VK → Prop) : Prop :=
  ∀ (pins : List (Addr × Obj)) (s : Shared) (σ : St) (H : Hp) (x : V) (xs : List V) (v : Value) (us : List Value) (Q : VK), Inv X pins σ H s → RelV x v → Vals xs us → r x xs H Q →
    wpAny (model X.prog X.w) X.A (call (.builtin id) (v :: us)) (EP X pins σ Q) X.xe s
theorem Vals.one : ∀ {x : V} {us : List Value}, Vals [x] us → ∃ u, us = [u] ∧ RelV x u
  | _, _, .cons r .nil => ⟨_, rfl, r⟩
theorem Vals.eraseIdx : ∀ {xs : List V} {us : List Value} (i : Nat), Vals xs us → Vals (xs.eraseIdx i) (us.eraseIdx i)
  | _, _, _, .nil => .nil
  | _, _, 0, .cons _ t => t
  | _, _, i + 1, .cons r t => .cons r (Vals.eraseIdx i t)
theorem Vals.rep {xs : List V} {us : List Value} (h : Vals xs us) : ∀ k : Nat, Vals (List.replicate k xs).flatten (List.replicate k us).flatten
  | 0 => .nil
  | k + 1 => by
    rw [List.replicate_succ, List.replicate_succ, List.flatten_cons, List.flatten_cons]
    exact Vals.append h (Vals.rep h k)
theorem len_erase {α : Type} : ∀ (l : List α) (i : Nat), (l.eraseIdx i).length ≤ l.length
  | [], _ => Nat.le_refl _
  | _ :: _, 0 => Nat.le_succ _
  | _ :: r, i + 1 => Nat.succ_le_succ (len_erase r i)
theorem foldl_rep (its : List Value) : ∀ (k : Nat) (acc : List Value),
    List.foldl (fun x1 x2 => x1 ++ x2) acc.toArray (List.replicate k its.toArray) = (acc ++ (List.replicate k its).flatten).toArray
  | 0, acc => by simp
  | k + 1, acc => by
    have e : acc.toArray ++ its.toArray = (acc ++ its).toArray := by simp
    have e2 : (acc ++ its) ++ (List.replicate k its).flatten = acc ++ (List.replicate (k + 1) its).flatten := by
      rw [List.replicate_succ, List.flatten_cons, List.append_assoc]
    rw [← e2, ← foldl_rep its k (acc ++ its), ← e, List.replicate_succ, List.foldl_cons]
section
variable {X : Cx} {pins : List (Addr × Obj)} {σ : St} {H : Hp} {s : Shared} {l b : Addr} {xs ys zs : List V}
theorem Inv.lset {its its' : List Value} {n : Nat} {f : Array Value → Array Value} {t' : Nat} (I : Inv X pins σ H s) (hH : H l = some (.lst xs))
    (e : s.heap.get? l = some { cls := .type "list", data := .seq its.toArray n }) (hf : f its.toArray = its'.toArray) (hv : Vals ys its') (hz : ys.length ≤ sizeLine) :
    Inv X pins σ (upd H l (.lst ys)) { s with heap := s.heap.update l (Obj.mapSeq f), toks := t' } := by
  have q := PySem.IsL.update e f
  rw [hf] at q
  refine I.write (x := l) (e := l) (by rw [hH]; exact trivial) (.inl rfl) (fun b' u hb hu => (Heap.get?_update_other s.heap (Obj.mapSeq f) (Ne.symm hb)).trans hu) ⟨_, q⟩ ?_
  exact ⟨hz, its', _, hv, q⟩
theorem Inv.lnew {its : List Value} {t' : Nat} (I : Inv X pins σ H s) (hv : Vals ys its) (hz : ys.length ≤ sizeLine) :
    Inv X pins σ (upd H s.heap.objs.size (.lst ys)) { s with heap := s.heap.push { cls := .type "list", data := .seq its.toArray }, toks := t' } :=
  I.laid (fun _ _ q => Heap.get?_push_of_some _ q) (Nat.le_refl _) ⟨hz, its, 0, hv, Heap.get?_push_size _ rfl⟩
theorem Inv.fresh (I : Inv X pins σ H s) : H s.heap.objs.size = none := I.hok.fresh (Nat.le_refl _)
theorem Inv.lstM (I : Inv X pins σ H s) (hH : H l = some (.lst xs)) : xs.length ≤ sizeLine ∧ ∃ (its : List Value) (n : Nat), Vals xs its ∧ xs.length = its.length ∧ s.heap.get? l = some { cls := .type "list", data := .seq its.toArray n } := by
  obtain ⟨z, its, n, r, e⟩ := I.hok l _ hH
  exact ⟨z, its, n, r, r.length, e⟩
theorem notLongL {n : Nat} (h : n ≤ sizeLine) : Builtin.List.listTooLong n = false := by
  unfold Builtin.List.listTooLong
  exact decide_eq_false (by omega)
end
section
variable {X : Cx}
def rAppend : V → List V → Hp → VK → Prop := fun x vs H Q => ∃ l xs y, x = .ref l ∧ vs = [y] ∧ H l = some (.lst xs) ∧ xs.length < sizeLine ∧ Q .non (upd H l (.lst (xs ++ [y])))
theorem mt_append : MtM X "list.append" rAppend := by
  intro pins s σ H x vs v us Q I rx rv h
  obtain ⟨l, xs, y, rfl, rfl, hH, hz, q⟩ := h
  cases rx
  obtain ⟨u, rfl, ru⟩ := rv.one
  obtain ⟨z, its, n, r, hl, e⟩ := I.lstM hH
  refine call_meets F.slot_list_append ⟨_, e, rfl⟩ F.entry_list_append (F.args_list_append_2 _ _) (PySem.list_append l its.toArray n u (by rw [List.size_toArray]; omega)) ⟨e, ?_⟩
  refine ⟨.non, _, I.lset (its' := its ++ [u]) hH e (by simp) (r.append (.cons ru .nil)) ?_, rfl, q⟩
  rw [List.length_append, List.length_singleton]
  omega
def rExtend : V → List V → Hp → VK → Prop := fun x vs H Q => ∃ l b xs zs, x = .ref l ∧ vs = [.ref b] ∧ H l = some (.lst xs) ∧ H b = some (.lst zs) ∧ xs.length + zs.length ≤ sizeLine ∧ Q .non (upd H l (.lst (xs ++ zs)))
theorem mt_extend : MtM X "list.extend" rExtend := by
  intro pins s σ H x vs v us Q I rx rv h
  obtain ⟨l, b, xs, zs, rfl, rfl, hH, hB, hz, q⟩ := h
  cases rx
  obtain ⟨u, rfl, ru⟩ := rv.one
  cases ru
  obtain ⟨z, its, n, r, hl, e⟩ := I.lstM hH
  obtain ⟨z2, its2, n2, r2, hl2, e2⟩ := I.lstM hB
  have hsz : its.toArray.size + its2.toArray.size ≤ sizeLine := by rw [List.size_toArray, List.size_toArray]; omega
  have hlong : ¬ (!its.toArray.isEmpty && Builtin.List.listTooLong (its.toArray.size + its2.toArray.size)) = true := by
    rw [notLongL hsz, Bool.and_false]
    exact Bool.false_ne_true
  refine call_meets F.slot_list_extend ⟨_, e, rfl⟩ F.entry_list_extend (F.args_list_extend_2 _ _)
    (AutoSeq1.list_extend_list_list_0 l its.toArray n b its2.toArray n2 hlong (by rw [List.size_toArray]; omega) (by omega)) ⟨e, e2, ?_⟩
  refine ⟨.non, _, I.lset (its' := its ++ its2) hH e (by simp) (r.append r2) ?_, rfl, q⟩
  rw [List.length_append]
  omega
def rPopAt : V → List V → Hp → VK → Prop := fun x vs H Q => ∃ l xs i k y, x = .ref l ∧ vs = [.int i] ∧ H l = some (.lst xs) ∧ -(2 ^ 63) ≤ i ∧ i < 2 ^ 63 ∧ seqIndex? i xs.length = some k ∧ xs[k]? = some y ∧ Q y (upd H l (.lst (xs.eraseIdx k)))
theorem mt_popAt : MtM X "list.pop" rPopAt := by
  intro pins s σ H x vs v us Q I rx rv h
  obtain ⟨l, xs, i, k, y, rfl, rfl, hH, h1, h2, hk, hy, q⟩ := h
  cases rx
  obtain ⟨u, rfl, ru⟩ := rv.one
  obtain ⟨t, rfl⟩ := ru
  obtain ⟨z, its, n, r, hl, e⟩ := I.lstM hH
  obtain ⟨w, hw, rw'⟩ := r.get hy
  refine call_meets F.slot_list_pop ⟨_, e, rfl⟩ F.entry_list_pop (F.args_list_pop_2 _ _)
    (MeetsSeq.list_pop_at l its.toArray n i t k w (fitsIndex_both h1 h2) (by rw [List.size_toArray, ← hl]; exact hk) (by rw [← Array.getElem?_toList]; exact hw) (by rw [List.size_toArray]; omega)) ⟨e, ?_⟩
  refine ⟨y, _, I.lset (its' := its.eraseIdx k) hH e ?_ (r.eraseIdx k) ?_, rw', q⟩
  · show its.toArray.eraseIdxIfInBounds k = (its.eraseIdx k).toArray
    rw [List.eraseIdxIfInBounds_toArray]
  · have := len_erase xs k
    omega
def rCat : R2 := fun x y H Q => ∃ l b xs zs, x = .ref l ∧ y = .ref b ∧ H l = some (.lst xs) ∧ H b = some (.lst zs) ∧ xs.length + zs.length ≤ sizeLine ∧ ∀ p, H p = none → Q (.ref p) (upd H p (.lst (xs ++ zs)))
theorem op_cat : OpR X (binaryOp .Add) rCat := by
  intro pins s σ H x y v u Q I rx ry h
  obtain ⟨l, b, xs, zs, rfl, rfl, hH, hB, hz, q⟩ := h
  cases rx
  cases ry
  obtain ⟨z, its, n, r, hl, e⟩ := I.lstM hH
  obtain ⟨z2, its2, n2, r2, hl2, e2⟩ := I.lstM hB
  refine PySem.P.add_list e e2 ?_ (by rw [List.size_toArray, List.size_toArray]; omega)
  have ea : its.toArray ++ its2.toArray = (its ++ its2).toArray := by simp
  rw [ea]
  exact ⟨.ref _, _, I.lnew (t' := s.toks) (r.append r2) (by rw [List.length_append]; omega), rfl, q _ I.fresh⟩
def rRep : R2 := fun x y H Q => ∃ l k xs, x = .ref l ∧ y = .int k ∧ H l = some (.lst xs) ∧ -(2 ^ 63) ≤ k ∧ k < 2 ^ 63 ∧ xs.length * k.toNat ≤ sizeLine ∧
  ∀ p, H p = none → Q (.ref p) (upd H p (.lst (List.replicate k.toNat xs).flatten))
theorem len_rep {α : Type} (xs : List α) (k : Nat) : (List.replicate k xs).flatten.length = k * xs.length := by
  induction k with
  | zero => simp
  | succ k ih => rw [List.replicate_succ, List.flatten_cons, List.length_append, ih, Nat.succ_mul, Nat.add_comm]
theorem op_rep : OpR X (binaryOp .Mult) rRep := by
  intro pins s σ H x y v u Q I rx ry h
  obtain ⟨l, k, xs, rfl, rfl, hH, h1, h2, hz, q⟩ := h
  cases rx
  obtain ⟨t, rfl⟩ := ry
  obtain ⟨z, its, n, r, hl, e⟩ := I.lstM hH
  have hlen : its.toArray.size * k.toNat ≤ sizeLine := by rw [List.size_toArray, ← hl]; exact hz
  have hcap : ¬ its.toArray.size * k.toNat > (2 ^ 63 - 1) / 8 := by
    have : (sizeLine : Nat) ≤ (2 ^ 63 - 1) / 8 := by decide
    omega
  have hfit : ¬ (!Builtin.List.listFitsIndex k) = true := by
    rw [fitsIndex_both h1 h2]
    exact Bool.false_ne_true
  have hlong : ¬ Builtin.List.listTooLong (its.toArray.size * k.toNat) = true := by
    rw [notLongL hlen]
    exact Bool.false_ne_true
  have hnew : List.foldl (fun x1 x2 => x1 ++ x2) #[] (List.replicate (if its.toArray.isEmpty = true then 0 else k.toNat) its.toArray) = (List.replicate k.toNat its).flatten.toArray := by
    have f0 : ∀ m : Nat, List.foldl (fun x1 x2 => x1 ++ x2) #[] (List.replicate m its.toArray) = (List.replicate m its).flatten.toArray := fun m => by
      have := foldl_rep its m []
      rw [List.nil_append] at this
      exact this
    rw [f0]
    cases its with
    | nil => simp
    | cons a r' => rw [if_neg (by simp)]
  refine wpAny_binaryOp_repeat_ref (T := "list") (U := "int") (by decide) ⟨_, e, rfl⟩ (fun s' => typeIs_int s' k t) noFill_list_mul F.fills_int_mul F.slot_int_rmul repeat_list F.slot_int_index.lookup
    (call_meets F.slot_int_rmul (typeIs_int s k t) F.entry_int_rmul (F.args_int_rmul_2 _ _) (int___rmul___int_list k t l its.toArray n)
      ⟨e, rfl, ⟨_, e, rfl⟩, call_meets F.slot_list_mul ⟨_, e, rfl⟩ F.entry_list_mul (F.args_list_mul_2 _ _) (AutoListH.list___mul___list_int_3 l its.toArray n k t hfit hcap hlong) ⟨e, ?_⟩⟩)
  rw [hnew]
  exact ⟨.ref _, _, I.lnew (t' := s.toks) (r.rep k.toNat) (by rw [len_rep, Nat.mul_comm]; exact hz), rfl, q _ I.fresh⟩
end
section
variable {prog : Program} {w : World} {A : Around} {E : Value → Shared → Prop} {s : Shared}
set_option maxRecDepth 100000 in
end
section
variable {X : Cx}
end
end L2
namespace L2
open PySem PySem.Spec PyProof.Rows
theorem Vals.ints : ∀ {ns : List Int} {us : List Value}, Vals (ns.map V.int) us → IntsAre us ns
  | [], us, h => by
    rw [List.map_nil] at h
    cases h
    exact IntsAre.nil
  | n :: ns, us, h => by
    rw [List.map_cons] at h
    cases h with
    | cons r t =>
      obtain ⟨k, rfl⟩ := r
      exact IntsAre.cons n k (Vals.ints t)
theorem Vals.bls : ∀ {bs : List Bool} {us : List Value}, Vals (bs.map V.bl) us → us = bs.map Value.bool
  | [], us, h => by
    rw [List.map_nil] at h
    cases h
    rfl
  | b :: bs, us, h => by
    rw [List.map_cons] at h
    cases h with
    | cons r t =>
      cases r
      rw [Vals.bls t, List.map_cons]
theorem Vals.ref1 {a : Addr} {us : List Value} (r : Vals [V.ref a] us) : us = [Value.ref a] := by
  cases r with
  | cons r t =>
    cases t
    cases r
    rfl
section
variable {prog : Program} {w : World} {A : Around} {E : Value → Shared → Prop} {s : Shared} {l : Addr} {its : List Value} {ns : List Int} {Q : Value → Shared → Prop}
theorem sum_raw (hh : A.handled = none) (hl : s.heap.IsList l its.toArray) (hi : IntsAre its ns)
    (h : ∀ h' tk t', (∀ b o, s.heap.get? b = some o → h'.get? b = some o) → Q (.int ns.sum t') { s with heap := h', toks := tk }) : wpAny (model prog w) A (call (.builtin "sum") [.ref l]) Q E s := by
  obtain ⟨xs, e⟩ := hi.allInts.items
  have hn : numsOf (intItems xs).toList = ns := by rw [← e]; exact hi.numsOf
  rw [nums_intItems] at hn
  rw [e] at hl
  refine PySem.sum_intListG hh hl fun h' tk t' hk => ?_
  have := h h' tk t' hk
  rw [preSum_eq, List.take_of_length_le (by simp), hn]; exact this
end
section
variable {X : Cx}
def rSum (K : PySem.W.Frag) : List V → Hp → VK → Prop := fun vs H Q => ∃ (a : Addr) (ns : List Int), vs = [V.ref a] ∧ SqL K H a (ns.map V.int) ∧ Q (.int ns.sum) H
theorem cr_sum (hc : X.calm = true) : CallR X (.builtin "sum") (rSum X.K) := by
  intro pins s σ H vs us Q I r h
  obtain ⟨a, ns, rfl, hs, q⟩ := h
  obtain ⟨its, rv, hl, _⟩ := I.list hs
  rw [Vals.ref1 r]
  exact sum_raw (I.ok.hd hc) hl.isList rv.ints fun h' tk t' hk => ⟨.int _, H, I.kept hk, ⟨_, rfl⟩, q⟩
end
section
variable {X : Cx}
end
section
variable {X : Cx}
end
theorem iter_any {prog : Program} {w : World} {A : Around} {E : Value → Shared → Prop} {s : Shared} {l : Addr} {items : Array Value} {Q : Value → Shared → Prop} (hl : s.heap.IsList l items)
    (h : ∀ s₂ : Shared, s₂ = { s with heap := s.heap.push { cls := .type "list_iterator", data := .fields #[.ref l, .int 0 0] } } →
      (s₂.heap.IsListIter s.heap.objs.size l 0 ∧ s₂.heap.IsList l items) → l ≠ s.heap.objs.size → Q (.ref s.heap.objs.size) s₂) : wpAny (model prog w) A (pyIter (.ref l)) Q E s := by
  have hlt : l < s.heap.objs.size := by obtain ⟨_, e, _⟩ := hl; exact Heap.lt_size e
  exact wpAny_pyIter_list hl (h _ rfl ⟨⟨_, Heap.get?_push_size _ rfl, rfl, rfl⟩, hl.push _⟩ (Nat.ne_of_lt hlt))
theorem truth_bools {prog : Program} {w : World} {A : Around} {bs : List Bool} {its : List Value} (e : its = bs.map Value.bool) :
    TruthOf prog w A (fun i v => its.toArray[i]? = some v) (fun i => bs.getD i false) := fun i v s Q E hv hq => by
  have hv' : its[i]? = some v := by simpa using hv
  rw [e, List.getElem?_map] at hv'
  obtain ⟨b, hb, rfl⟩ := Option.map_eq_some_iff.mp hv'
  have hg : bs.getD i false = b := by rw [List.getD_eq_getElem?_getD, hb] <;> rfl
  have hq' : Q (bs.getD i false) s := hq
  rw [hg] at hq'
  exact wpAny_truthy_bool hq'
theorem any_range : ∀ bs : List Bool, (List.range bs.length).any (fun i => bs.getD i false) = bs.any id
  | [] => rfl
  | b :: bs => by
    rw [List.length_cons, List.range_succ_eq_map, List.any_cons, List.any_map, List.any_cons, ← any_range bs]
    all_goals rfl
theorem all_range : ∀ bs : List Bool, (List.range bs.length).all (fun i => bs.getD i false) = bs.all id
  | [] => rfl
  | b :: bs => by
    rw [List.length_cons, List.range_succ_eq_map, List.all_cons, List.all_map, List.all_cons, ← all_range bs]
    all_goals rfl
section
variable {X : Cx}
def rAll (K : PySem.W.Frag) : List V → Hp → VK → Prop := fun vs H Q => ∃ (a : Addr) (bs : List Bool), vs = [V.ref a] ∧ SqL K H a (bs.map V.bl) ∧ Q (.bl (bs.all id)) H
theorem cr_all (hc : X.calm = true) : CallR X (.builtin "all") (rAll X.K) := by
  intro pins s σ H vs us Q I r h
  obtain ⟨a, bs, rfl, hs, q⟩ := h
  obtain ⟨its, rv, hl, _⟩ := I.list hs
  rw [Vals.ref1 r]
  have hb := rv.bls
  refine call_all_walk (iter_any hl.isList fun s₂ e2 st hne => ?_)
  subst e2
  refine ⟨_, _, _, _, _, _, _, rfl, Walks.list (A := X.A.in1) (I.ok.hd hc) _ a hne its.toArray, st, truth_bools hb, fun h' tk hk => ?_⟩
  refine ⟨.bl _, H, I.kept fun b o eo => hk b o (fun hmem => ?_) (Heap.get?_push_of_some _ eo), ?_, q⟩
  · rcases List.mem_cons.mp hmem with e1 | hmem
    · exact absurd (e1 ▸ Heap.lt_size eo) (Nat.lt_irrefl _)
    · cases hmem
  · show Value.bool _ = Value.bool _
    rw [← all_range, hb, List.size_toArray, List.length_map]
end
section
variable {X : Cx} {pins : List (Addr × Obj)} {σ : St} {H : Hp} {s : Shared}
end
section
variable {X : Cx}
end
end L2
namespace L2
open PySem PySem.Spec PyProof.Rows
abbrev CellAt (h : Heap) (c : Addr) (v : Option Value) : Prop := h.IsCell c v
def relS (scope sc : Scope) : Scope :=
  { scope with names := scope.names.map fun (n, k) => if (k == .free && sc.kind == .function && sc.names.lookup n == some .cell) then (n, .cell) else (n, k) }
def cloFrom (cells : List (Str × Addr)) : List (Str × NameKind) → List (Str × Addr) → List (Str × Addr)
  | [], acc => acc
  | (n, k) :: r, acc => if k == .free then cloFrom cells r ((n, (cells.lookup n).getD 0) :: acc) else cloFrom cells r acc
theorem closure_loop (env : Env) (f : Str × NameKind → List (Str × Addr) → Sem (ForInStep (List (Str × Addr))))
    (hf : ∀ n k c, f (n, k) c = if k == .free then (do let a ← cellOf env n; pure (.yield ((n, a) :: c))) else pure (.yield c)) :
    ∀ (names : List (Str × NameKind)) (acc : List (Str × Addr)), (∀ y ∈ names, y.2 = .free → ∃ c, env.cells.lookup y.1 = some c) → forIn names acc f = pure (cloFrom env.cells names acc)
  | [], acc, _ => by rw [List.forIn_nil]; rfl
  | (n, k) :: r, acc, h => by
    rw [List.forIn_cons, hf]
    have ih := fun acc => closure_loop env f hf r acc fun y hy => h y (List.mem_cons_of_mem _ hy)
    unfold cloFrom
    by_cases hk : (k == NameKind.free) = true
    · rw [if_pos hk, if_pos hk]
      obtain ⟨c, hc⟩ := h (n, k) List.mem_cons_self (by simpa using hk)
      have e : cellOf env n = pure c := by unfold cellOf; rw [hc]
      rw [e]
      have e2 : (env.cells.lookup n).getD 0 = c := by rw [hc]; rfl
      rw [e2]
      exact ih _
    · rw [if_neg hk, if_neg hk]
      exact ih _
theorem closure_ok {scope : Scope} {env : Env} (h : ∀ y ∈ scope.names, y.2 = .free → ∃ c, env.cells.lookup y.1 = some c) : closureFor scope env = pure (cloFrom env.cells scope.names []) := by
  simp only [closureFor]
  rw [closure_loop env _ (fun n k c => rfl) scope.names [] h]
  rfl
theorem mem_lookup {α : Type} : ∀ {l : List (Str × α)} {n : Str} {c : α}, (n, c) ∈ l → ∃ c', l.lookup n = some c'
  | (k, v) :: r, n, c, h => by
    rw [List.lookup_cons]
    cases hb : n == k with
    | true => exact ⟨_, rfl⟩
    | false =>
      rcases List.mem_cons.mp h with e | h
      · cases e; simp at hb
      · exact mem_lookup h
theorem cloFrom_mem {cells : List (Str × Addr)} : ∀ {names : List (Str × NameKind)} {acc : List (Str × Addr)} {n : Str} {c : Addr}, (n, c) ∈ cloFrom cells names acc → (n, c) ∈ acc ∨ ((n, .free) ∈ names ∧ c = (cells.lookup n).getD 0)
  | [], _, _, _, h => .inl h
  | (m, k) :: r, acc, n, c, h => by
    unfold cloFrom at h
    split at h
    · rename_i hk
      have hk : k = .free := by simpa using hk
      rcases cloFrom_mem h with h | ⟨h1, h2⟩
      · rcases List.mem_cons.mp h with e | h
        · cases e; exact .inr ⟨hk ▸ List.mem_cons_self, rfl⟩
        · exact .inl h
      · exact .inr ⟨List.mem_cons_of_mem _ h1, h2⟩
    · rcases cloFrom_mem h with h | ⟨h1, h2⟩
      · exact .inl h
      · exact .inr ⟨List.mem_cons_of_mem _ h1, h2⟩
theorem cloFrom_acc {cells : List (Str × Addr)} : ∀ {names : List (Str × NameKind)} {acc : List (Str × Addr)} {p : Str × Addr}, p ∈ acc → p ∈ cloFrom cells names acc
  | [], _, _, h => h
  | (m, k) :: r, acc, p, h => by
    unfold cloFrom
    split
    · exact cloFrom_acc (List.mem_cons_of_mem _ h)
    · exact cloFrom_acc h
theorem cloFrom_has {cells : List (Str × Addr)} : ∀ {names : List (Str × NameKind)} {acc : List (Str × Addr)} {n : Str}, (n, .free) ∈ names → (n, (cells.lookup n).getD 0) ∈ cloFrom cells names acc
  | (m, k) :: r, acc, n, h => by
    unfold cloFrom
    rcases List.mem_cons.mp h with e | h
    · cases e
      exact cloFrom_acc List.mem_cons_self
    · split
      · exact cloFrom_has h
      · exact cloFrom_has h
theorem cells_mem : ∀ {names : List (Str × NameKind)} {h : Heap} {acc : List (Str × Addr)} {x : Str} {c : Addr}, (x, c) ∈ cellsFrom h.objs.size names acc →
    (x, c) ∈ acc ∨ ((x, .cell) ∈ names ∧ h.objs.size ≤ c ∧ CellAt (pushCells h names) c none)
  | [], _, _, _, _, h => .inl h
  | (n, k) :: r, h, acc, x, c, hm => by
    unfold cellsFrom at hm
    unfold pushCells
    split at hm
    · rename_i hk
      rw [if_pos hk]
      have hk : k = .cell := by simpa using hk
      rw [← Heap.size_push h { cls := .type "cell", data := .cell none }] at hm
      rcases cells_mem hm with hm | ⟨h1, h2, h3⟩
      · rcases List.mem_cons.mp hm with e | hm
        · cases e
          exact .inr ⟨hk ▸ List.mem_cons_self, Nat.le_refl _, _, pushCells_keeps r _ _ _ (Heap.get?_push_size _ rfl), rfl⟩
        · exact .inl hm
      · rw [Heap.size_push] at h2
        exact .inr ⟨List.mem_cons_of_mem _ h1, Nat.le_of_succ_le h2, h3⟩
    · rename_i hk
      rw [if_neg hk]
      rcases cells_mem hm with hm | ⟨h1, h2, h3⟩
      · exact .inl hm
      · exact .inr ⟨List.mem_cons_of_mem _ h1, h2, h3⟩
theorem cells_acc : ∀ {names : List (Str × NameKind)} {n : Nat} {acc : List (Str × Addr)} {p : Str × Addr}, p ∈ acc → p ∈ cellsFrom n names acc
  | [], _, _, _, h => h
  | (m, k) :: r, n, acc, p, h => by
    unfold cellsFrom
    split
    · exact cells_acc (List.mem_cons_of_mem _ h)
    · exact cells_acc h
theorem cells_has : ∀ {names : List (Str × NameKind)} {n : Nat} {acc : List (Str × Addr)} {x : Str}, (x, .cell) ∈ names → ∃ c, (x, c) ∈ cellsFrom n names acc
  | (m, k) :: r, n, acc, x, h => by
    unfold cellsFrom
    rcases List.mem_cons.mp h with e | h
    · cases e
      exact ⟨n, cells_acc List.mem_cons_self⟩
    · split
      · exact cells_has h
      · exact cells_has h
theorem cells_inj : ∀ {names : List (Str × NameKind)} {h : Heap} {acc : List (Str × Addr)} {x y : Str} {c : Addr}, (∀ p ∈ acc, p.2 < h.objs.size) → (∀ x y c, (x, c) ∈ acc → (y, c) ∈ acc → x = y) →
    (x, c) ∈ cellsFrom h.objs.size names acc → (y, c) ∈ cellsFrom h.objs.size names acc → x = y
  | [], _, _, _, _, _, _, hi, h1, h2 => hi _ _ _ h1 h2
  | (n, k) :: r, h, acc, x, y, c, hl, hi, h1, h2 => by
    unfold cellsFrom at h1 h2
    split at h1
    · rename_i hk
      rw [if_pos hk] at h2
      rw [← Heap.size_push h { cls := .type "cell", data := .cell none }] at h1 h2
      refine cells_inj (h := h.push _) (fun p hp => ?_) (fun x y c a b => ?_) h1 h2
      · rw [Heap.size_push]
        rcases List.mem_cons.mp hp with rfl | hp
        · exact Nat.lt_succ_self _
        · exact Nat.lt_succ_of_lt (hl p hp)
      · rcases List.mem_cons.mp a with e | a <;> rcases List.mem_cons.mp b with e' | b
        · cases e; cases e'; rfl
        · cases e; exact absurd (hl _ b) (Nat.lt_irrefl _)
        · cases e'; exact absurd (hl _ a) (Nat.lt_irrefl _)
        · exact hi _ _ _ a b
    · rename_i hk
      rw [if_neg hk] at h2
      exact cells_inj hl hi h1 h2
theorem newEnv_comp {M : Model} {A : Around} {E : Value → Shared → Prop} {s : Shared} {scope : Scope} {globals : Addr} {closure : List (Str × Addr)} {qual : Str} {func : Option Addr} {code : Value} {around : Env} {builtins : Addr} {Q : Env → Shared → Prop}
    (h : Q (newEnv scope s.heap.objs.size globals (cellsFrom (s.heap.objs.size + 1) scope.names closure) qual func code (some around) builtins)
      { s with heap := pushCells (s.heap.push { cls := .type "dict", data := .dict #[] }) scope.names }) :
    wpAny M A (newFunctionEnv scope globals closure [] qual func code (some around) builtins) Q E s := by
  simp only [newFunctionEnv, Option.isSome_some, if_true]
  refine wpAny_bind (wpAny_alloc ?_)
  refine wpAny_bind (wpAny_layCells _ (fun n k c => rfl) scope.names closure _ _ ?_)
  rw [show ({ s with heap := s.heap.push { cls := .type "dict", data := .dict #[] } } : Shared).heap.objs.size = s.heap.objs.size + 1 from Heap.size_push ..]
  rw [List.forIn_nil]
  exact wpAny_bind (wpAny_pure (wpAny_pure h))
theorem lookup_relS {sc : Scope} : ∀ {names : List (Str × NameKind)} {x : Str} {k : NameKind},
    (names.map fun (n, k) => if (k == NameKind.free && sc.kind == .function && sc.names.lookup n == some .cell) then (n, NameKind.cell) else (n, k)).lookup x = some k →
    ∃ k', names.lookup x = some k' ∧ (k = k' ∨ (k' = .free ∧ k = .cell))
  | [], _, _, h => by simp at h
  | (n, k₀) :: r, x, k, h => by
    have ih := @lookup_relS sc r x k
    have h' : List.lookup x ((if (k₀ == NameKind.free && sc.kind == .function && sc.names.lookup n == some .cell) = true then (n, NameKind.cell) else (n, k₀)) :: (r.map _)) = some k := h
    cases hx : x == n with
    | true =>
      simp only [List.lookup_cons, hx]
      by_cases hc : (k₀ == NameKind.free && sc.kind == .function && sc.names.lookup n == some .cell) = true
      · rw [if_pos hc] at h'
        simp only [List.lookup_cons, hx] at h'
        cases h'
        simp only [Bool.and_eq_true, beq_iff_eq] at hc
        exact ⟨k₀, rfl, .inr ⟨hc.1.1, rfl⟩⟩
      · rw [if_neg hc] at h'
        simp only [List.lookup_cons, hx] at h'
        cases h'
        exact ⟨_, rfl, .inl rfl⟩
    | false =>
      simp only [List.lookup_cons, hx]
      by_cases hc : (k₀ == NameKind.free && sc.kind == .function && sc.names.lookup n == some .cell) = true
      · rw [if_pos hc] at h'
        simp only [List.lookup_cons, hx] at h'
        exact ih h'
      · rw [if_neg hc] at h'
        simp only [List.lookup_cons, hx] at h'
        exact ih h'
structure BlkOk (N : List Str) (sc scope : Scope) (own : List (Str × Nat)) : Prop where
  kind : scope.kind = .function
  uniq : ∀ y ∈ scope.names, scope.names.lookup y.1 = some y.2
  ix : ∀ p ∈ own, N[p.2]? = some p.1
  free : ∀ y ∈ scope.names, y.2 = .free → sc.names.lookup y.1 = some .cell ∨ sc.names.lookup y.1 = some .free
  own : ∀ y ∈ scope.names, y.2 = .local ∨ y.2 = .cell → y.1 ∈ own.map (·.1) ∨ y.1 ∉ N
def wipe (σ : St) : List Nat → St
  | [] => σ
  | v :: vs => (wipe σ vs).set v none
theorem wipe_length (σ : St) : ∀ vs : List Nat, (wipe σ vs).length = σ.length
  | [] => rfl
  | v :: vs => by unfold wipe; rw [List.length_set, wipe_length σ vs]
theorem wipe_some {σ : St} {i : Nat} {x : V} : ∀ {vs : List Nat}, (wipe σ vs)[i]? = some (some x) → σ[i]? = some (some x) ∧ i ∉ vs
  | [], h => ⟨h, by simp⟩
  | v :: vs, h => by
    unfold wipe at h
    by_cases hi : v = i
    · subst hi
      by_cases hv : v < (wipe σ vs).length
      · rw [List.getElem?_set_self hv] at h; cases h
      · rw [List.getElem?_eq_none (by simpa using hv)] at h; cases h
    · rw [List.getElem?_set_ne hi] at h
      obtain ⟨h1, h2⟩ := wipe_some h
      exact ⟨h1, by simp only [List.mem_cons, not_or]; exact ⟨fun e => hi e.symm, h2⟩⟩
abbrev Cx.blk (X : Cx) (s : Shared) (H : Hp) (scope : Scope) (cenv : Env) (fp : List Addr) : Cx := { X with s_0 := s, H_0 := H, env := cenv, outer := X.stack, ex := fp, fn := fun x => scope.names.lookup x == some .cell, pn := [], xe := fun _ _ => False }
section
variable {X : Cx} {pins : List (Addr × Obj)} {σ : St} {H : Hp} {s : Shared}
theorem block_start {scope : Scope} {own : List (Str × Nat)} {fp : List Addr} (I : Inv X pins σ H s) (ok : BlkOk X.N X.env.scope scope own) (hN : X.N.Nodup) (hfp : ∀ b ∈ fp, FpOk X pins H b ∧ b < s.heap.objs.size) :
    Inv (X.blk s H scope (compEnvC scope (cellsFrom (s.heap.objs.size + 1) scope.names (cloFrom X.env.cells scope.names [])) s.heap.objs.size X.env) fp) [] (wipe σ (own.map (·.2))) H { s with heap := pushCells (s.heap.push { cls := .type "dict", data := .dict #[] }) scope.names } := by
  have hfree : ∀ y ∈ scope.names, y.2 = .free → ∃ c, X.env.cells.lookup y.1 = some c := fun y hy e => by
    rcases ok.free y hy e with k | k
    · exact I.ok.has _ (.inl k)
    · exact I.ok.has _ (.inr k)
  generalize hcenv : compEnvC scope (cellsFrom (s.heap.objs.size + 1) scope.names (cloFrom X.env.cells scope.names [])) s.heap.objs.size X.env = cenv
  have kp : ∀ b o, s.heap.get? b = some o → (pushCells (s.heap.push { cls := .type "dict", data := .dict #[] }) scope.names).get? b = some o := fun b o e => pushCells_keeps _ _ _ _ (Heap.get?_push_of_some _ e)
  have hL : cenv.locals = s.heap.objs.size := by rw [← hcenv]; rfl
  have hcl : cenv.cells = cellsFrom (s.heap.objs.size + 1) scope.names (cloFrom X.env.cells scope.names []) := by rw [← hcenv]; rfl
  have hsc : cenv.scope = relS scope X.env.scope := by rw [← hcenv]; rfl
  rw [← Heap.size_push s.heap { cls := .type "dict", data := .dict #[] }] at hcl
  have cm : ∀ {y c}, (y, c) ∈ cloFrom X.env.cells scope.names [] → X.env.cells.lookup y = some c ∧ c < s.heap.objs.size := fun {y c} hm => by
    rcases cloFrom_mem hm with hm | ⟨h1, rfl⟩
    · cases hm
    · obtain ⟨c, hc⟩ := hfree _ h1 rfl
      rw [hc]
      obtain ⟨w, z⟩ := I.cell _ _ hc
      exact ⟨rfl, z.lt⟩
  have mem : ∀ {y c}, cenv.cells.lookup y = some c → (X.env.cells.lookup y = some c ∧ c < s.heap.objs.size) ∨ (s.heap.objs.size + 1 ≤ c ∧ CellAt (pushCells (s.heap.push { cls := .type "dict", data := .dict #[] }) scope.names) c none) := fun {y c} e => by
    rw [hcl] at e
    rcases cells_mem (PySem.mem_of_lookup e) with hm | ⟨_, h2, h3⟩
    · exact .inl (cm hm)
    · rw [Heap.size_push] at h2; exact .inr ⟨h2, h3⟩
  have look : ∀ {y}, scope.names.lookup y = some .free → ∃ c, cenv.cells.lookup y = some c ∧ X.env.cells.lookup y = some c := fun {y} hl => by
    have hy : (y, NameKind.free) ∈ scope.names := PySem.mem_of_lookup hl
    obtain ⟨c', e'⟩ := mem_lookup (cells_acc (names := scope.names) (n := (s.heap.push { cls := .type "dict", data := .dict #[] }).objs.size) (cloFrom_has (cells := X.env.cells) (acc := []) hy))
    rw [← hcl] at e'
    refine ⟨c', e', ?_⟩
    rw [hcl] at e'
    rcases cells_mem (PySem.mem_of_lookup e') with hm | ⟨h1, _, _⟩
    · exact (cm hm).1
    · have := ok.uniq _ h1
      rw [hl] at this; cases this
  have okB : (X.blk s H scope cenv fp).Ok := by
    refine ⟨I.ok.mod, by show cenv.scope.kind = _; rw [hsc]; exact ok.kind, by show cenv.globals = _; rw [← hcenv]; exact I.ok.glob, by show cenv.builtins = _; rw [← hcenv]; exact I.ok.blt, by show s.heap.objs.size ≤ cenv.locals; rw [hL]; exact Nat.le_refl _,
      fun y z c e1 e2 => ?_, fun y hy => ?_, fun y c z e => ?_, I.ok.hd, I.ok.frames, .inl rfl, fun b hb => ⟨?_, fun y c e z => ?_⟩, I.bs, Nat.le_trans I.ok.bsz I.sz, fun b o e hb => ?_, fun b hb z => ?_, I.stack, I.stkFree⟩
    · have e1 : cenv.cells.lookup y = some c := e1
      have e2 : cenv.cells.lookup z = some c := e2
      rw [hcl] at e1 e2
      refine cells_inj (fun p hp => ?_) (fun y z c a b => I.ok.inj y z c (cm a).1 (cm b).1) (PySem.mem_of_lookup e1) (PySem.mem_of_lookup e2)
      rw [Heap.size_push]
      exact Nat.lt_succ_of_lt (cm (y := p.1) (c := p.2) hp).2
    · show ∃ c, cenv.cells.lookup y = some c
      have key : ∀ k, cenv.kindOf y = some k → (k = .cell ∨ k = .free) → ∃ c, cenv.cells.lookup y = some c := fun k hk hk' => by
        unfold Env.kindOf at hk
        rw [hsc] at hk
        obtain ⟨k', e, r⟩ := lookup_relS hk
        have : k' = .cell ∨ k' = .free := by
          rcases r with rfl | ⟨rfl, _⟩
          · exact hk'
          · exact .inr rfl
        rcases this with rfl | rfl
        · obtain ⟨c, hm⟩ := cells_has (n := (s.heap.push { cls := .type "dict", data := .dict #[] }).objs.size) (acc := cloFrom X.env.cells scope.names []) (PySem.mem_of_lookup e)
          obtain ⟨c', e'⟩ := mem_lookup hm
          exact ⟨c', by rw [hcl]; exact e'⟩
        · obtain ⟨c, h1, _⟩ := look e
          exact ⟨c, h1⟩
      rcases hy with hy | hy
      · exact key _ hy (.inl rfl)
      · exact key _ hy (.inr rfl)
    · have z : (scope.names.lookup y == some NameKind.cell) = true := z
      have z : scope.names.lookup y = some .cell := by simpa using z
      have e : cenv.cells.lookup y = some c := e
      rw [hcl] at e
      rcases cells_mem (PySem.mem_of_lookup e) with hm | ⟨_, h2, _⟩
      · rcases cloFrom_mem hm with hm | ⟨h1, _⟩
        · cases hm
        · have q := ok.uniq _ h1
          rw [z] at q; cases q
      · rw [Heap.size_push] at h2
        exact Nat.le_of_succ_le h2
    · show b ≠ cenv.locals
      rw [hL]; exact Nat.ne_of_lt (hfp b hb).2
    · have e : cenv.cells.lookup y = some c := e
      rcases mem e with ⟨h1, _⟩ | ⟨h1, _⟩
      · exact (hfp b hb).1.2.2.2.2.1 y c h1 z
      · have h2 : s.heap.objs.size + 1 ≤ b := by rw [← z]; exact h1
        exact absurd (Nat.lt_of_lt_of_le (hfp b hb).2 (Nat.le_of_succ_le h2)) (Nat.lt_irrefl _)
    · rcases (hfp b hb).1.2.2.2.1 with z | z
      · exact I.ok.noex b o e z
      · exact absurd (Nat.lt_of_lt_of_le (Heap.lt_size e) (Nat.le_trans I.ok.bsz z)) (Nat.lt_irrefl _)
    · rcases List.mem_cons.mp (I.stkSub b z) with z | z
      · exact (hfp b hb).1.2.1 z
      · exact (hfp b hb).1.2.2.1 z
  refine ⟨okB, rfl, I.bare, Un.kept kp, ⟨fun _ => none, ?_, fun i y av e1 e2 e3 => ?_⟩, fun y c e => ?_, ?_, fun y c e => ?_, fun p hp => ?_, I.hok.kept kp, by rw [wipe_length]; exact I.len⟩
  · show Heap.Ns _ cenv.locals _
    rw [hL]
    exact Heap.Ns.keeps (Heap.Ns.new ..) fun b o e => pushCells_keeps _ _ _ _ e
  · obtain ⟨e2, hne⟩ := wipe_some e2
    have hfr : scope.names.lookup y = some .free ∧ (cenv.kindOf y = some .cell ∨ cenv.kindOf y = some .free) := by
      have key : ∀ k, cenv.scope.names.lookup y = some k → k = .local ∨ k = .cell ∨ k = .free → scope.names.lookup y = some .free ∧ (cenv.kindOf y = some .cell ∨ cenv.kindOf y = some .free) := fun k hk hk' => by
        have hk0 := hk
        rw [hsc] at hk
        obtain ⟨k', e, r⟩ := lookup_relS hk
        have no : ¬ (k' = .local ∨ k' = .cell) := fun hh => by
          rcases ok.own _ (PySem.mem_of_lookup e) hh with e' | e'
          · obtain ⟨p, hp, hpy⟩ := List.mem_map.mp e'
            have e3 := ok.ix p hp
            have : p.1 = y := hpy
            rw [this] at e3
            exact hne (List.mem_map.mpr ⟨p, hp, nodup_ix hN e3 e1⟩)
          · exact e' (List.mem_of_getElem? e1)
        rcases r with rfl | ⟨rfl, rfl⟩
        · rcases hk' with rfl | rfl | rfl
          · exact absurd (.inl rfl) no
          · exact absurd (.inr rfl) no
          · exact ⟨e, .inr hk0⟩
        · exact ⟨e, .inl hk0⟩
      have e3 : Vis cenv.scope y := e3
      rcases e3 with e3 | e3 | e3
      · exact key _ e3 (.inl rfl)
      · exact key _ e3 (.inr (.inl rfl))
      · exact key _ e3 (.inr (.inr rfl))
    obtain ⟨m, hn, hl⟩ := I.loc
    have hvis : Vis X.env.scope y := (ok.free _ (PySem.mem_of_lookup hfr.1) rfl).elim (fun k => .inr (.inl k)) (fun k => .inr (.inr k))
    obtain ⟨w, r, q⟩ := hl i y av e1 e2 hvis
    refine ⟨w, r, .inr ⟨hfr.2, ?_⟩⟩
    obtain ⟨c, h1, h2⟩ := look hfr.1
    rcases q with ⟨k, _⟩ | ⟨_, c', e', z⟩
    · have k : X.env.scope.names.lookup y = some .local := k
      rcases ok.free _ (PySem.mem_of_lookup hfr.1) rfl with k' | k' <;> rw [show X.env.scope.names.lookup y = _ from k'] at k <;> cases k
    · rw [h2] at e'; cases e'
      exact ⟨c, h1, z.keeps kp⟩
  · have e : cenv.cells.lookup y = some c := e
    rcases mem e with ⟨h1, _⟩ | ⟨_, z⟩
    · obtain ⟨w, z⟩ := I.cell y c h1
      exact ⟨w, z.keeps kp⟩
    · exact ⟨_, z⟩
  · show H cenv.locals = none
    rw [hL]; exact I.hok.fresh (Nat.le_refl _)
  · have e : cenv.cells.lookup y = some c := e
    rcases mem e with ⟨h1, _⟩ | ⟨h1, _⟩
    · exact I.freeC y c h1
    · exact I.hok.fresh (Nat.le_of_succ_le h1)
  · exact absurd (show p ∈ ([] : List (Addr × Obj)) ++ [] from hp) (by simp)
theorem app_ok {E : Value → Shared → Prop} {D : Addr} {xs : List V} {y : V} {v : Value} {Q : Value → Shared → Prop} (I : Inv X pins σ H s) (hD : H D = some (.lst xs)) (hz : xs.length < sizeLine) (r : RelV y v)
    (h : ∀ s', Inv X pins σ (upd H D (.lst (xs ++ [y]))) s' → Q .none s') : wpAny (model X.prog X.w) X.A (call (.builtin "list.append") [.ref D, v]) Q E s := by
  obtain ⟨hz', its, n, ri, e⟩ := I.hok D _ hD
  have hl := ri.length
  refine append_at (hsz := by rw [List.size_toArray]; omega) e fun h' sb ho' => ?_
  refine h { s with heap := h' } (I.write (t' := s.toks) (by rw [hD]; trivial) (.inl rfl) (fun b u hb q => (sb.2 b hb).trans q) ⟨_, ho'⟩ ⟨by rw [List.length_append]; exact hz, its ++ [v], n + 1, ri.append (.cons r .nil), ?_⟩)
  rw [ho']
  simp
def PTs (X : Cx) (ifs : List Expr) (t : TT) : Prop :=
  ∀ (pins : List (Addr × Obj)) (s : Shared) (σ : St) (H : Hp) (Q : Bool → Hp → Prop), Inv X pins σ H s → t σ H Q →
    wpAny (model X.prog X.w) X.A (forIn ifs true fun c r => if r = true then do let ok ← isTrue c X.env (eval c X.env); pure (ForInStep.yield ok) else pure (ForInStep.yield r)) (TP X pins σ Q) X.xe s
def tYes : TT := fun _ H Q => Q true H
theorem pts_nil : PTs X [] tYes := fun _ _ _ H _ I h => wpAny_tests_nil ⟨H, I, h⟩
theorem pts_one {c : Expr} {t : TT} (h : PT X c t) : PTs X [c] t := fun pins s σ H Q I hw => wpAny_tests_one (h pins s σ H Q I hw)
end
theorem thnF {α : Type} {t : Sem α} {Q Q' : α → Shared → Prop} {M : Model} {A : Around} {E : Value → Shared → Prop} {s : Shared} (h : wpAny M A t Q (fun _ _ => False) s) (hQ : ∀ a s, Q a s → Q' a s) : wpAny M A t Q' E s := wpAny_mono h hQ fun _ _ z => False.elim z
theorem compLoop_any {prog : Program} {w : World} {A : Around} {R : Result → Shared → Prop} {s : Shared} {elt target iter : Expr} {ifs : List Expr} {scope : Scope} {pos : Pos} {it acc : Value} {env : Env} (I : Nat → Shared → Prop)
    (turn : ∀ n s, I n s → wpAny (model prog w) A (pyNext it) (fun r s₁ => match r with
      | none => R (.ok .next) s₁
      | some v => wpAny (model prog w) A (letOwnedTupleGo target it v) (fun _ s₁' => wpAny (model prog w) A (assign target env v) (fun _ s₂ =>
          wpAny (model prog w) A (forIn ifs true fun c r => if r = true then do let ok ← isTrue c env (eval c env); pure (ForInStep.yield ok) else pure (ForInStep.yield r)) (fun ok s₃ =>
            if ok = true then wpAny (model prog w) A (eval elt env) (fun x s₄ =>
              wpAny (model prog w) A (call (.builtin "list.append") [acc, x]) (fun _ s₅ => ∃ m, m < n ∧ I m s₅) (notedBy (model prog w) A env fun e s' => R (.error e) s') s₄) (notedBy (model prog w) A env fun e s' => R (.error e) s') s₃
            else ∃ m, m < n ∧ I m s₃) (notedBy (model prog w) A env fun e s' => R (.error e) s') s₂) (notedBy (model prog w) A env fun e s' => R (.error e) s') s₁') (notedBy (model prog w) A env fun e s' => R (.error e) s') s₁) (notedBy (model prog w) A env fun e s' => R (.error e) s') s)
    (n : Nat) (h : I n s) :
    codeAny (model prog w) A (.compLoop (.ListComp elt [⟨target, iter, ifs, 0⟩] scope pos) 0 it acc env) R s := by
  refine codeAny_loop rfl I (fun n s hI => ?_) n h
  show wpAny _ A ((compTurn (.ListComp elt [⟨target, iter, ifs, 0⟩] scope pos) 0 it acc env).onRaise (fun x => do noteFrame x env; theTreesLotGoes x)) _ _ s
  refine wpAny_noted ?_
  rw [compTurn_list]
  refine wpAny_bind (wpAny_standAt (wpAny_bind (wpAny_mono (turn n s hI) (fun r s₁ h₁ => ?_) fun _ _ h' => h')))
  cases r with
  | none => exact wpAny_pure h₁
  | some v =>
    refine wpAny_bind (wpAny_mono h₁ (fun _ s₁' h₁' => ?_) fun _ _ h' => h')
    refine wpAny_bind (wpAny_mono h₁' (fun _ s₂ h₂ => wpAny_bind (wpAny_mono h₂ (fun ok s₃ h₃ => ?_) fun _ _ h' => h')) fun _ _ h' => h')
    cases ok with
    | false => exact wpAny_pure ⟨rfl, h₃⟩
    | true =>
      exact wpAny_bind (wpAny_bind (wpAny_mono h₃ (fun x s₄ h₄ => wpAny_bind (wpAny_mono h₄ (fun _ s₅ h₅ => wpAny_pure (wpAny_pure ⟨rfl, h₅⟩)) fun _ _ h' => h')) fun _ _ h' => h'))
section
variable {X : Cx}
def tLc (wi : TI) (g : TG) (tt : TT) (te : TE) (vs : List Nat) : TE := fun σ H Q => wi σ H fun J H1 => ∀ D, H1 D = none → ∃ W : Nat → Nat → Hp → Prop, (∃ m, W 0 m (upd H1 D (.lst []))) ∧ ∀ i m H, W i m H →
  (J.stop i H ∧ Q (.ref D) H) ∨ (J.go i H ∧ ∃ Nx : Hp → Prop, (∀ H', Nx H' → ∃ m', m' < m ∧ W (i + 1) m' H') ∧ ∀ x H', J.yld i H x H' → g x (wipe σ vs) H' fun σ2 H2 => wipe σ2 vs = wipe σ vs ∧ tt σ2 H2 fun b H3 =>
    if b = true then te σ2 H3 fun y H4 => ∃ acc, H4 D = some (.lst acc) ∧ acc.length < sizeLine ∧ Nx (upd H4 D (.lst (acc ++ [y]))) else Nx H3)
theorem lc_core {pins : List (Addr × Obj)} {s : Shared} {σ : St} {H : Hp} {Q : VK} {elt tg iter : Expr} {ifs : List Expr} {scope : Scope} {own : List (Str × Nat)} {pos pos' : Pos} {wi : TI} {g : TG} {tt : TT} {te : TE} {use : Option (Value → Sem Unit)} {Qf : Value → Shared → Prop}
    (hc : X.calm = true) (hN : X.N.Nodup) (I : Inv X pins σ H s) (hi : PI X tg iter wi) (ok : BlkOk X.N X.env.scope scope own)
    (hg : ∀ (s : Shared) (H : Hp) (C : Addr) (cl : List (Str × Addr)) (fp : List Addr), PG (X.blk s H scope (compEnvC scope cl C X.env) fp) tg g) (ht : ∀ (s : Shared) (H : Hp) (C : Addr) (cl : List (Str × Addr)) (fp : List Addr), PTs (X.blk s H scope (compEnvC scope cl C X.env) fp) ifs tt)
    (he : ∀ (s : Shared) (H : Hp) (C : Addr) (cl : List (Str × Addr)) (fp : List Addr), PE (X.blk s H scope (compEnvC scope cl C X.env) fp) elt te) (hs : ∀ x, foldedSetIterable iter X.env x = pure x)
    (h : tLc wi g tt te (own.map (·.2)) σ H Q)
    (hRR : ∀ D C s' m H', Inv X pins σ H' s' → Q (.ref D) H' → s'.heap.Ns C m → FpOk X pins H' C → compPost (model X.prog X.w) X.A X.xe use Qf (.ref D) C (.ok .next) s') :
    wpAny (model X.prog X.w) X.A (comprehension (.ListComp elt [⟨tg, iter, ifs, 0⟩] scope pos) scope X.env pos' (newList []) false (eval iter X.env) use) Qf X.xe s := by
  have hfree : ∀ y ∈ scope.names, y.2 = .free → ∃ c, X.env.cells.lookup y.1 = some c := fun y hy e => by
    rcases ok.free y hy e with k | k
    · exact I.ok.has _ (.inl k)
    · exact I.ok.has _ (.inr k)
  refine wpAny_comprehension_free (use := use) rfl hs (closure_ok hfree) ok.kind (fun y hy e => by rw [ok.uniq y hy, e])
    (thn (hi pins s σ H _ I h) fun xv s1 hx => thn hx fun itv s2 h2 => ?_)
  obtain ⟨it, fp, tn, J, H2, e, I2, T, st2, f2, q⟩ := h2
  subst e
  refine wpAny_newObj_type (newEnv_comp ?_) (by show 0 ≤ sizeLine; decide)
  generalize hD : s2.heap.objs.size = D
  have hDn : H2 D = none := I2.hok.fresh (Nat.le_of_eq hD)
  obtain ⟨W, ⟨m0, w0⟩, turn⟩ := q D hDn
  -- the new list
  generalize hs3 : ({ s2 with heap := s2.heap.push { cls := .type "list", data := .seq ([] : List Value).toArray } } : Shared) = s3
  have I3 : Inv X pins σ (upd H2 D (.lst [])) s3 := by
    rw [← hs3]
    refine I2.laid (t' := s2.toks) (fun b o e => Heap.get?_push_of_some _ e) (Nat.le_of_eq hD) ⟨Nat.zero_le _, [], 0, .nil, ?_⟩
    rw [← hD]
    exact Heap.get?_push_size _ rfl
  have h3 : s3.heap = s2.heap.push { cls := .type "list", data := .seq ([] : List Value).toArray } := by rw [← hs3]
  have sz : ∀ b ∈ fp, b < s2.heap.objs.size := fun b hb => by
    obtain ⟨o, e, _⟩ := T.obj _ _ st2 b hb
    exact Heap.lt_size e
  have f3 : ∀ b ∈ fp, FpOk X pins (upd H2 D (.lst [])) b ∧ b < s3.heap.objs.size := fun b hb => by
    have hlt := sz b hb
    refine ⟨⟨?_, (f2 b hb).2⟩, by rw [h3, Heap.size_push]; exact Nat.lt_succ_of_lt hlt⟩
    rw [upd_ne (by rw [← hD]; exact Nat.ne_of_lt hlt)]
    exact (f2 b hb).1
  have st3 : tn 0 s3.heap := T.keep _ _ _ st2 fun b _ o e => by rw [h3]; exact Heap.get?_push_of_some _ e
  have I4 := block_start I3 ok hN f3
  have pg := hg s3 (upd H2 D (.lst [])) s3.heap.objs.size (cellsFrom (s3.heap.objs.size + 1) scope.names (cloFrom X.env.cells scope.names [])) fp
  have pt := ht s3 (upd H2 D (.lst [])) s3.heap.objs.size (cellsFrom (s3.heap.objs.size + 1) scope.names (cloFrom X.env.cells scope.names [])) fp
  have pe := he s3 (upd H2 D (.lst [])) s3.heap.objs.size (cellsFrom (s3.heap.objs.size + 1) scope.names (cloFrom X.env.cells scope.names [])) fp
  show codeAny _ _ (.compStart (.ListComp elt [⟨tg, iter, ifs, 0⟩] scope pos) 0 (.ref it) (.ref D) (compEnvC scope (cellsFrom (s3.heap.objs.size + 1) scope.names (cloFrom X.env.cells scope.names [])) s3.heap.objs.size X.env)) (compPost (model X.prog X.w) X.A X.xe use Qf (.ref D) s3.heap.objs.size) { s3 with heap := pushCells (s3.heap.push { cls := .type "dict", data := .dict #[] }) scope.names }
  have nfp : ∀ b ∈ fp, (upd H2 D (.lst [])) b = none := fun b hb => (f3 b hb).1.1
  generalize hce : compEnvC scope (cellsFrom (s3.heap.objs.size + 1) scope.names (cloFrom X.env.cells scope.names [])) s3.heap.objs.size X.env = ce at I4 pg pt pe ⊢
  have cL : ce.locals = s3.heap.objs.size := by subst hce; rfl
  generalize hH3 : upd H2 D (.lst []) = H3 at I3 I4 pg pt pe w0 nfp f3
  generalize hs4 : ({ s3 with heap := pushCells (s3.heap.push { cls := .type "dict", data := .dict #[] }) scope.names } : Shared) = s4 at I4 ⊢
  have st4 : tn 0 s4.heap := T.keep _ _ _ st3 fun b _ o e => by rw [← hs4]; exact pushCells_keeps _ _ _ _ (Heap.get?_push_of_some _ e)
  have stat : ∀ {σ' : St} {H' : Hp} {s' : Shared}, Inv (X.blk s3 H3 scope ce fp) [] σ' H' s' → (∀ b ∈ fp, H' b = none) → ∀ b ∈ fp, FpOk (X.blk s3 H3 scope ce fp) [] H' b := fun {σ' H' s'} I' hn b hb =>
    ⟨hn b hb, (I'.ok.exf b hb).1, I'.ok.exfs b hb, .inl hb, fun x c e => (I'.ok.exf b hb).2 x c e, fun p hp => absurd (show p ∈ ([] : List (Addr × Obj)) ++ [] from hp) (by simp)⟩
  have loop : codeAny (model X.prog X.w) X.A (.compLoop (.ListComp elt [⟨tg, iter, ifs, 0⟩] scope pos) 0 (.ref it) (.ref D) ce) (compPost (model X.prog X.w) X.A X.xe use Qf (.ref D) s3.heap.objs.size) s4 := by
    refine compLoop_any (fun n s' => ∃ i H', Inv (X.blk s3 H3 scope ce fp) [] (wipe σ (own.map (·.2))) H' s' ∧ tn i s'.heap ∧ (∀ b ∈ fp, H' b = none) ∧ W i n H') ?_ m0 ⟨0, H3, I4, st4, nfp, w0⟩
    rintro n s5 ⟨i, H5, I5, st5, n5, w5⟩
    rcases turn i n H5 w5 with ⟨stop, qq⟩ | ⟨go, Nx, hNx, step⟩
    · have td := T.done (X.blk s3 H3 scope ce fp) rfl rfl rfl hc i [] s5 _ H5 (fun _ _ => False) I5 (stat I5 n5) st5 stop
      refine thnF td fun r s6 ⟨hr, I6⟩ => ?_
      subst hr
      -- back in the def's context
      have I7 : Inv X pins σ H5 s6 := I3.call' (ch := fp) I6.os I6.base I6.hok I6.bare fun b hb => ⟨(f3 b hb).1.2.2.2.1, (f3 b hb).1.2.1, (f3 b hb).1.2.2.2.2.1, (f3 b hb).1.2.2.2.2.2⟩
      have nC : H5 s3.heap.objs.size = none := by
        have z : H5 ce.locals = none := I6.free
        rw [cL] at z
        exact z
      obtain ⟨m, hn, _⟩ := I6.loc
      have hn : s6.heap.Ns ce.locals m := hn
      rw [cL] at hn
      exact hRR D s3.heap.objs.size s6 m H5 I7 qq hn (I3.fpOk (Nat.le_refl _) nC)
    · have ti := T.item (X.blk s3 H3 scope ce fp) rfl rfl rfl hc i [] s5 _ H5 (fun _ _ => False) I5 (stat I5 n5) st5 go
      refine thnF ti fun r s6 ⟨u, hr, h6⟩ => ?_
      subst hr
      refine thnF h6 fun _ s7 ⟨x, H7, I7, r7, y7, st7, n7⟩ => ?_
      have I7' := I7.pinned (stat I7 n7) (T.obj _ _ st7)
      refine thnF (pg _ s7 _ H7 x u _ I7' r7 (step x H7 y7)) fun _ s8 ⟨σ8, H8, I8, hw8, q8⟩ => ?_
      refine thnF (pt _ s8 σ8 H8 _ I8 q8) fun b s9 ⟨H9, I9, q9⟩ => ?_
      -- the turn's end
      have fin : ∀ {s' : Shared} {H' : Hp}, Inv (X.blk s3 H3 scope ce fp) ([] ++ pinsAt fp s7.heap) σ8 H' s' → Nx H' → ∃ m, m < n ∧ ∃ i H', Inv (X.blk s3 H3 scope ce fp) [] (wipe σ (own.map (·.2))) H' s' ∧ tn i s'.heap ∧ (∀ b ∈ fp, H' b = none) ∧ W i m H' := fun {s' H'} I' nx => by
        obtain ⟨m', hm, w'⟩ := hNx H' nx
        have pin' : ∀ b ∈ fp, ∀ o, s7.heap.get? b = some o → s'.heap.get? b = some o ∧ H' b = none := fun b hb o e =>
          let z := I'.pin (b, o) (List.mem_append_right _ (List.mem_append_right _ (mem_pinsAt hb e)))
          ⟨z.1, z.2.1⟩
        have hl : (wipe σ (own.map (·.2))).length = σ8.length := by rw [← hw8, wipe_length]
        refine ⟨m', hm, i + 1, H', (I'.unpinned (pins := [])).weak hl (fun j v e => ?_), T.keep _ _ _ st7 fun b hb o e => (pin' b hb o e).1, fun b hb => ?_, w'⟩
        · rw [← hw8] at e
          exact (wipe_some e).1
        · obtain ⟨o, e, _⟩ := T.obj _ _ st7 b hb
          exact (pin' b hb o e).2
      cases b with
      | false =>
        simp only [Bool.false_eq_true, if_false] at q9 ⊢
        exact fin I9 q9
      | true =>
        simp only [if_true] at q9 ⊢
        refine thnF (pe _ s9 σ8 H9 _ I9 q9) fun z s10 ⟨yv, H10, I10, r10, acc, hD10, hz10, nx⟩ => ?_
        exact app_ok (X := X.blk s3 H3 scope ce fp) I10 hD10 hz10 r10 fun s11 I11 => fin I11 nx
  exact codeAny_compStart_list loop (T.self X.A 0 _ _ _ st4 loop)
theorem pe_lc {elt tg iter : Expr} {ifs : List Expr} {scope : Scope} {own : List (Str × Nat)} {pos : Pos} {wi : TI} {g : TG} {tt : TT} {te : TE} (hc : X.calm = true) (hN : X.N.Nodup) (hi : PI X tg iter wi) (ok : BlkOk X.N X.env.scope scope own)
    (hg : ∀ (s : Shared) (H : Hp) (C : Addr) (cl : List (Str × Addr)) (fp : List Addr), PG (X.blk s H scope (compEnvC scope cl C X.env) fp) tg g) (ht : ∀ (s : Shared) (H : Hp) (C : Addr) (cl : List (Str × Addr)) (fp : List Addr), PTs (X.blk s H scope (compEnvC scope cl C X.env) fp) ifs tt)
    (he : ∀ (s : Shared) (H : Hp) (C : Addr) (cl : List (Str × Addr)) (fp : List Addr), PE (X.blk s H scope (compEnvC scope cl C X.env) fp) elt te) (hs : ∀ x, foldedSetIterable iter X.env x = pure x := by intro _; rfl) :
    PE X (.ListComp elt [⟨tg, iter, ifs, 0⟩] scope pos) (tLc wi g tt te (own.map (·.2))) := by
  intro pins s σ H Q I h
  rw [eval_ListComp]
  refine lc_core hc hN I hi ok hg ht he hs h fun D C s' m H' I' q hn f => ⟨m, hn, fun h'' sb => ?_⟩
  obtain ⟨f0, f1, f2, f3, f4, f5⟩ := f
  exact ⟨.ref D, H', I'.turned (t' := s'.toks) (fun b o hb e => (sb.2 b hb).trans e) f0 f1 f3 f4 f5, rfl, q⟩
end
theorem lc_range {lo : Int} {n : Nat} {g : TG} {tt : TT} {te : TE} {vs : List Nat} {σ : St} {H1 : Hp} {D : Addr} {Qd : Hp → Prop} (Pv : Nat → Hp → Prop) (h0 : Pv 0 (upd H1 D (.lst [])))
    (hs : ∀ i H, i < n → Pv i H → g (.int (lo + i)) (wipe σ vs) H fun σ2 H2 => wipe σ2 vs = wipe σ vs ∧ tt σ2 H2 fun b H3 =>
      if b = true then te σ2 H3 fun y H4 => ∃ acc, H4 D = some (.lst acc) ∧ acc.length < sizeLine ∧ Pv (i + 1) (upd H4 D (.lst (acc ++ [y]))) else Pv (i + 1) H3) (hd : ∀ H, Pv n H → Qd H) :
    ∃ W : Nat → Nat → Hp → Prop, (∃ m, W 0 m (upd H1 D (.lst []))) ∧ ∀ i m H, W i m H →
      ((Itr lo n).stop i H ∧ Qd H) ∨ ((Itr lo n).go i H ∧ ∃ Nx : Hp → Prop, (∀ H', Nx H' → ∃ m', m' < m ∧ W (i + 1) m' H') ∧ ∀ x H', (Itr lo n).yld i H x H' → g x (wipe σ vs) H' fun σ2 H2 => wipe σ2 vs = wipe σ vs ∧ tt σ2 H2 fun b H3 =>
        if b = true then te σ2 H3 fun y H4 => ∃ acc, H4 D = some (.lst acc) ∧ acc.length < sizeLine ∧ Nx (upd H4 D (.lst (acc ++ [y]))) else Nx H3) := by
  refine ⟨fun i m H => m = n - i ∧ i ≤ n ∧ Pv i H, ⟨n, by simp, Nat.zero_le _, h0⟩, ?_⟩
  rintro i m H ⟨rfl, hi, p⟩
  by_cases hlt : i < n
  · refine .inr ⟨hlt, Pv (i + 1), fun H' p' => ⟨n - (i + 1), by omega, rfl, hlt, p'⟩, fun x H' y => ?_⟩
    obtain ⟨e, y⟩ := y
    subst e y
    exact hs i _ hlt p
  · have e : i = n := by omega
    subst e
    exact .inl ⟨Nat.le_refl _, hd H p⟩
theorem lc_list {K : PySem.W.Frag} {a : Addr} {xs : List V} {g : TG} {tt : TT} {te : TE} {vs : List Nat} {σ : St} {H1 : Hp} {D : Addr} {Qd : Hp → Prop} (Pv : Nat → Hp → Prop) (h0 : Pv 0 (upd H1 D (.lst []))) (hl : ∀ i H, i ≤ xs.length → Pv i H → SqL K H a xs)
    (hs : ∀ i x H, xs[i]? = some x → Pv i H → g x (wipe σ vs) H fun σ2 H2 => wipe σ2 vs = wipe σ vs ∧ tt σ2 H2 fun b H3 =>
      if b = true then te σ2 H3 fun y H4 => ∃ acc, H4 D = some (.lst acc) ∧ acc.length < sizeLine ∧ Pv (i + 1) (upd H4 D (.lst (acc ++ [y]))) else Pv (i + 1) H3) (hd : ∀ H, Pv xs.length H → Qd H) :
    ∃ W : Nat → Nat → Hp → Prop, (∃ m, W 0 m (upd H1 D (.lst []))) ∧ ∀ i m H, W i m H →
      ((Itl K a).stop i H ∧ Qd H) ∨ ((Itl K a).go i H ∧ ∃ Nx : Hp → Prop, (∀ H', Nx H' → ∃ m', m' < m ∧ W (i + 1) m' H') ∧ ∀ x H', (Itl K a).yld i H x H' → g x (wipe σ vs) H' fun σ2 H2 => wipe σ2 vs = wipe σ vs ∧ tt σ2 H2 fun b H3 =>
        if b = true then te σ2 H3 fun y H4 => ∃ acc, H4 D = some (.lst acc) ∧ acc.length < sizeLine ∧ Nx (upd H4 D (.lst (acc ++ [y]))) else Nx H3) := by
  refine ⟨fun i m H => m = xs.length - i ∧ i ≤ xs.length ∧ Pv i H, ⟨xs.length, by simp, Nat.zero_le _, h0⟩, ?_⟩
  rintro i m H ⟨rfl, hi, p⟩
  have q := hl i H hi p
  by_cases hlt : i < xs.length
  · refine .inr ⟨⟨xs, xs[i], q, by simp [hlt]⟩, Pv (i + 1), fun H' p' => ⟨xs.length - (i + 1), by omega, rfl, hlt, p'⟩, fun x H' y => ?_⟩
    obtain ⟨e, y⟩ := y
    subst e
    exact hs i x _ (y xs q) p
  · have e : i = xs.length := by omega
    subst e
    exact .inl ⟨⟨xs, q, Nat.le_refl _⟩, hd H p⟩
def blkC (N : List Str) (sc scope : Scope) (own : List (Str × Nat)) : Bool :=
  (match scope.kind with | .function => true | _ => false) && (scope.names.all fun y => decide (scope.names.lookup y.1 = some y.2)) && (own.all fun p => decide (N[p.2]? = some p.1)) &&
    (scope.names.all fun y => match y.2 with
      | .free => (match sc.names.lookup y.1 with | some .cell => true | some .free => true | _ => false)
      | .local => decide (y.1 ∈ own.map (·.1)) || decide (y.1 ∉ N)
      | .cell => decide (y.1 ∈ own.map (·.1)) || decide (y.1 ∉ N)
      | _ => true)
theorem blkOk_by {N : List Str} {sc scope : Scope} {own : List (Str × Nat)} (h : blkC N sc scope own = true) : BlkOk N sc scope own := by
  unfold blkC at h
  simp only [Bool.and_eq_true, List.all_eq_true, decide_eq_true_eq] at h
  obtain ⟨⟨⟨h1, h2⟩, h3⟩, h4⟩ := h
  refine ⟨?_, h2, h3, fun y hy e => ?_, fun y hy e => ?_⟩
  · split at h1
    · assumption
    · cases h1
  · have q := h4 y hy
    simp only [e] at q
    split at q <;> first | exact .inl (by assumption) | exact .inr (by assumption) | cases q
  · have q := h4 y hy
    rcases e with e | e <;> (simp only [e, Bool.or_eq_true, decide_eq_true_eq] at q; exact q)
end L2
namespace L2
open PySem PySem.Spec PyProof.Rows
section
variable {prog : Program} {w : World} {A : Around} {R : Result → Shared → Prop} {s : Shared} {elt t0 i0 t1 i1 : Expr} {ifs0 ifs1 : List Expr} {scope : Scope} {pos : Pos} {it acc : Value} {env : Env}
end
section
variable {X : Cx}
end
end L2
namespace L2
open PySem PySem.Spec PyProof.Rows
section
variable {κ : Type} [DecidableEq κ]
end
section
variable {P : Program} {w : World} {H : Hp} {h : Heap} {a : Addr}
end
section
variable {X : Cx} {pins : List (Addr × Obj)} {σ : St} {H : Hp} {s : Shared} {a : Addr} {y v : V} {u r : Value} {o : Option V} {A : Around} {E : Value → Shared → Prop}
end
section
variable {X : Cx} {pins : List (Addr × Obj)} {σ : St} {H : Hp} {s : Shared} {a : Addr} {kvs : List (Key × V)} {k : Key} {u : Value} {A : Around} {E : Value → Shared → Prop}
end
def NoSl (i : Expr) : Prop := ∀ ov iv, subscripted i false ov iv = operate [ov, iv] (getItem ov iv)
theorem subD_of {prog : Program} {w : World} {A : Around} {E : Value → Shared → Prop} {s : Shared} {env : Env} {value slice : Expr} {pos : Pos} {T id : String} {Q : Value → Shared → Prop}
    (hl : typeLookup (.type T) "__getitem__" = pure (some (.builtin id))) (hs : NoSl slice)
    (h : wpAny (model prog w) A (eval value env) (fun o s₁ => wpAny (model prog w) A (eval slice env) (fun i s₂ => s₂.TypeIs o T ∧ wpAny (model prog w) A (getItem o i) Q E s₂) E s₁) E s) :
    wpAny (model prog w) A (eval (.Subscript value slice pos) env) Q E s := by
  refine Subscript_ (wpAny_mono h (fun o s₁ h₁ => wpAny_mono h₁ (fun i s₂ h₂ => ?_) fun _ _ x => x) fun _ _ x => x)
  obtain ⟨hT, h₂⟩ := h₂
  unfold subscriptTail
  refine wpAny_bind ?_
  rw [getitemInPython_of_ne hT.not_modules]
  refine wpAny_bind (wpAny_specialOf hT hl ?_)
  have fin : wpAny (model prog w) A (subscripted slice false o i) (fun r s₃ => wpAny (model prog w) A (letTemporaryGo value o r >>= fun _ => pure r) Q E s₃) E s₂ := by
    rw [hs o i]
    exact wpAny_operating (wpAny_mono h₂ (fun r s₃ h₃ => wpAny_bind (wpAny_letTemporaryGo (wpAny_pure h₃))) fun _ _ x => x)
  first
    | exact wpAny_pure (wpAny_bind fin)
    | exact wpAny_bind (wpAny_pure (wpAny_bind fin))
    | exact wpAny_bind fin
section
variable {X : Cx} {o i e value : Expr} {pos pos' tpos : Pos} {td ty tv : TE}
end
section
variable {X : Cx} {pos : Pos}
end
section
variable {X : Cx} {pins : List (Addr × Obj)} {σ : St} {H : Hp} {s : Shared} {a : Addr} {y d : V} {u r : Value} {o : Option V} {A : Around} {E : Value → Shared → Prop}
end
section
variable {X : Cx} {o e f : Expr} {apos cpos : Pos} {td ty tx : TE}
end
section
variable {X : Cx} {pins : List (Addr × Obj)} {σ : St} {H : Hp} {s : Shared} {a : Addr} {kvs : List (Key × V)} {A : Around} {E : Value → Shared → Prop}
end
section
variable {X : Cx} {pins : List (Addr × Obj)} {σ : St} {H : Hp} {s : Shared} {a : Addr} {y : V} {u : Value} {A : Around} {E : Value → Shared → Prop}
end
end L2
namespace L2
open PySem PySem.Spec PyProof.Rows
section
variable {prog : Program} {w : World} {A : Around} {E : Value → Shared → Prop}
end
section
variable {X : Cx}
end
end L2
namespace L2
open PySem PySem.Spec PyProof.Rows
theorem boot_reversed5 : bootBuiltins "reversed" = some (.type "reversed") := by decide +kernel
section
variable {X : Cx} {pins : List (Addr × Obj)} {σ : St} {H : Hp} {s : Shared} {h' : Heap}
end
section
variable {X : Cx}
theorem pi_one {tg : Expr} {pins : List (Addr × Obj)} {σ : St} {H : Hp} {s : Shared} {R : It → Hp → Prop} {J : It} {tn : Nat → Heap → Prop} {tk : Nat} (I : Inv X pins σ H s) (o : Obj)
    (T : Turn X.prog X.w X.K tg J [s.heap.objs.size] s.heap.objs.size tn) (st : tn 0 (s.heap.push o)) (q : R J H) : PIE X pins σ tg R (.ref s.heap.objs.size) { s with heap := s.heap.push o, toks := tk } := by
  refine ⟨s.heap.objs.size, [s.heap.objs.size], tn, J, H, rfl, I.kept fun b ob e => Heap.get?_push_of_some _ e, T, st, fun b hb => ?_, q⟩
  have e : b = s.heap.objs.size := by simpa using hb
  subst e
  exact I.fpOk (Nat.le_refl _) (I.hok.fresh (Nat.le_refl _))
end
section
variable {X : Cx} {tg : Expr}
end
def Itv (K : PySem.W.Frag) (a : Addr) (n : Nat) : It :=
  ⟨fun i H => i < n ∧ ∃ (xs : List V) (x : V), SqL K H a xs ∧ xs[n - 1 - i]? = some x, fun i H x H' => H' = H ∧ ∀ xs, SqL K H a xs → xs[n - 1 - i]? = some x, fun i _ => n ≤ i⟩
theorem turn_rev {P : Program} {w : World} {K : PySem.W.Frag} {tg : Expr} (a it : Addr) (n : Nat) : Turn P w K tg (Itv K a n) [it] it (fun i h => i ≤ n ∧ h.IsRevIter it a ((n : Int) - 1 - (i : Nat))) where
  mem := by simp
  obj := fun i h st b hb => by
    have e : b = it := by simpa using hb
    subst e
    obtain ⟨_, o, e, c, d⟩ := st
    exact ⟨o, e, fun v z => by rw [d] at z; cases z⟩
  keep := fun i h h' st k => ⟨st.1, st.2.at fun o e => k it (by simp) o e⟩
  item := by
    intro X hP hw hK hc i pins s σ H E I hf st hg
    subst hP hw hK
    obtain ⟨hin, xs, x, hq, hx⟩ := hg
    obtain ⟨its, rv, p, hz⟩ := I.list hq
    obtain ⟨u, hu, ru⟩ := rv.get hx
    obtain ⟨f0, f1, f2, f3, f4, f5⟩ := hf it (by simp)
    obtain ⟨_, hit⟩ := st
    have e1 : (n : Int) - 1 - ((i : Nat) : Int) = ((n - 1 - i : Nat) : Int) := by omega
    rw [e1] at hit
    refine wpAny_pyNext_rev_item hit p.isList (x := u) (by simpa using hu) fun h' st' sb => ?_
    have e2 : ((n - 1 - i : Nat) : Int) - 1 = (n : Int) - 1 - ((i + 1 : Nat) : Int) := by omega
    rw [e2] at st'
    have I1 : Inv X pins σ H { s with heap := h' } := I.turned (t' := s.toks) (fun b o hb e => (sb.2 b hb).trans e) f0 f1 f3 f4 f5
    obtain ⟨o, e, c, d⟩ := id st'
    exact ⟨u, rfl, go_of (s := { s with heap := h' }) e c d (by decide) ⟨x, H, I1, ru, ⟨rfl, fun ys hy => by rw [I.list_inj hy hq]; exact hx⟩, ⟨hin, st'⟩, fun b hb => (hf b hb).1⟩⟩
  done := by
    intro X hP hw hK hc i pins s σ H E I hf st hg
    subst hP hw hK
    obtain ⟨f0, f1, f2, f3, f4, f5⟩ := hf it (by simp)
    obtain ⟨hin, hit⟩ := st
    have hge : n ≤ i := hg
    have e1 : (n : Int) - 1 - ((i : Nat) : Int) = -1 := by omega
    rw [e1] at hit
    exact wpAny_pyNext_rev_end (I.ok.hd hc) hit fun h' eb => ⟨rfl, I.turned (t' := s.toks) (fun b o hb e => eb b o hb e) f0 f1 f3 f4 f5⟩
  self := fun A i s Q E st h => wpAny_pyIter_revIter st.2 h
def iRev (K : PySem.W.Frag) (ta : TA) : TI := fun σ H R => ta σ H fun vs H1 => ∃ (a : Addr) (xs : List V), vs = [.ref a] ∧ SqL K H1 a xs ∧ R (Itv K a xs.length) H1
section
variable {X : Cx} {tg : Expr}
theorem pi_reversed {e : Expr} {ta : TA} {p pos : Pos} (hg : Gl X "reversed") (hm : X.mg "reversed" = none) (ha : PA X [e] ta) (hs : starEach [e] X.env = [(false, eval e X.env)] := by rfl) : PI X tg (.Call (.Name "reversed" p) [e] [] pos) (iRev X.K ta) := by
  intro pins s σ H R I h
  refine Call_ (ld_blt I hg hm boot_reversed5 (PyProof.Rows.callWith_type1 (thn (ha pos pins s σ H _ I h) fun us s1 ⟨vs, H1, I1, r1, q1⟩ => ?_) hs rfl))
  obtain ⟨a, xs, e, hq, q⟩ := q1
  subst e
  cases r1 with
  | cons r rr =>
    cases rr
    cases r
    obtain ⟨its, rv, p', hz⟩ := I1.list hq
    have hl := rv.length
    have e1 : ((its.toArray.size : Nat) : Int) - 1 = (xs.length : Int) - 1 - ((0 : Nat) : Int) := by simp only [List.size_toArray]; omega
    refine call_reversed_list p'.isList (wpAny_pyIter_revIter (l := a) (i := ((its.toArray.size : Nat) : Int) - 1) ⟨_, Heap.get?_push_size _ rfl, rfl, rfl⟩ ?_)
    refine pi_one (tk := s1.toks) I1 _ (turn_rev a _ xs.length) ⟨Nat.zero_le _, ?_⟩ q
    rw [← e1]
    exact ⟨_, Heap.get?_push_size _ rfl, rfl, rfl⟩
end
section
variable {prog : Program} {w : World} {A : Around} {E : Value → Shared → Prop} {s : Shared}
end
section
variable {X : Cx} {pins : List (Addr × Obj)} {σ : St} {H : Hp} {s : Shared} {d : Addr} {o : Obj}
end
section
variable {P : Program} {w : World} {K : PySem.W.Frag} {tg : Expr} {d : Addr} {o : Obj} {es : Array DictEntry} {ep : Nat}
end
section
variable {X : Cx} {tg e : Expr} {td : TE} {apos cpos : Pos}
end
end L2
section 
namespace Bits
open PySem PyProof.Rows
theorem nat_and_mul_pow (k : Nat) : ∀ a b : Nat, a < 2 ^ k → a &&& (b * 2 ^ k) = 0 := by
  induction k with
  | zero =>
    intro a b h
    have h0 : a = 0 := by
      rw [Nat.pow_zero] at h
      omega
    subst h0
    simp
  | succ k ih =>
    intro a b h
    have hm : (b * 2 ^ (k + 1)) = (b * 2 ^ k) * 2 := by rw [Nat.pow_succ, Nat.mul_assoc]
    have hlt : a / 2 < 2 ^ k := by
      rw [Nat.pow_succ] at h
      generalize 2 ^ k = m at h ⊢
      omega
    have i := ih (a / 2) b hlt
    rw [hm]
    generalize b * 2 ^ k = B at i ⊢
    have e : (a &&& (B * 2)) / 2 = a / 2 &&& (B * 2) / 2 := Nat.and_div_two
    have e2 : (B * 2) / 2 = B := by omega
    have o := @Nat.and_mod_two_eq_one a (B * 2)
    rw [e2, i] at e
    omega
theorem nat_xor_add_and (m : Nat) : ∀ n : Nat, (m ^^^ n) + 2 * (m &&& n) = m + n := by
  induction m using Nat.strongRecOn with
  | _ m ih =>
    intro n
    by_cases h0 : m = 0
    · subst h0
      simp
    · have ih' := ih (m / 2) (by omega) (n / 2)
      rw [← Nat.xor_div_two, ← Nat.and_div_two] at ih'
      have o1 := @Nat.xor_mod_two_eq_one m n
      have a1 := @Nat.and_mod_two_eq_one m n
      omega
theorem bitXor_pp {x y : Int} (hx : 0 ≤ x) (hy : 0 ≤ y) : Builtin.bitXor x y = ((x.toNat ^^^ y.toNat : Nat) : Int) := by
  have e := nat_xor_add_and x.toNat y.toNat
  rw [bitXor_and, bitAnd_pp hx hy]
  omega
end Bits
end 
section 
namespace TL
open PySem PySem.Builtin PySem.Builtin.Str PySem.StrLaws
end TL
end 
namespace L2
open PySem PySem.Spec PyProof.Rows
section
variable {X : Cx} {pins : List (Addr × Obj)} {σ : St} {H : Hp} {s : Shared} {Q : VK}
end
section
variable {X : Cx}
end
section
variable {X : Cx} {o e : Expr} {to te : TE}
end
end L2
namespace L2
open PySem PySem.Spec PyProof.Rows
section
variable {X : Cx}
end
end L2
namespace Att
open PySem PySem.W PySem.Calls PyProof.Rows
section
variable {prog : Program} {w : World} {A : Around} {E : Value → Shared → Prop} {s : Shared} {K : Frag}
end
end Att
namespace L2
open PySem PySem.Spec PyProof.Rows
end L2
namespace L2
open PySem PySem.Spec PyProof.Rows
end L2
namespace L2
open PySem PySem.Spec PyProof.Rows
def inClass (s : Stmt) (j : Nat) : Stmt := match s with
  | .ClassDef _ _ _ body _ _ _ _ _ _ _ => body.getD j (.Pass ⟨0, 0, 0, 0⟩)
  | _ => .Pass ⟨0, 0, 0, 0⟩
def defArgs (s : Stmt) : Arguments := match s with
  | .FunctionDef _ a _ _ _ _ _ _ _ _ => a
  | _ => { posonlyargs := [], args := [], vararg := none, kwonlyargs := [], kw_defaults := [], kwarg := none, defaults := [] }
def defBody (s : Stmt) : List Stmt := match s with
  | .FunctionDef _ _ b _ _ _ _ _ _ _ => b
  | _ => []
def defScope (s : Stmt) : Scope := match s with
  | .FunctionDef _ _ _ _ _ _ sc _ _ _ => sc
  | _ => { kind := .function, names := [], isGenerator := false, isCoroutine := false }
abbrev CX0 : CXT := fun _ _ _ _ _ _ => False
abbrev E0 : XK := fun _ _ _ => False
theorem pass0 {X : Cx} : Passes CX0 X E0 := fun _ _ _ _ _ _ _ h => h.elim
structure Fun (K : PySem.W.Frag) (x qual : Str) (st : Stmt) (f : Addr) (fd : FuncData) : Prop where
  ex : ∃ (oc : Value) (od : Option Addr) (kV doc pm : Value) (an : Option Addr) (cdv ct : Value) (osl : Array (Option Value)),
    fd = PySem.W.fnOf x qual (defArgs st) (defBody st) (defScope st) .none kV doc pm an cdv ct ∧ K.lookup f = some ⟨oc, od, .func fd, osl⟩ ∧ PySem.W.codeIn K cdv qual = true
  kp : PySem.W.keepIn K (.ref f) = true
section
variable {P : Program} {w : World} {K : PySem.W.Frag} {mg : Str → Option Value} {base : Heap}
theorem Fun.ok {x qual : Str} {st : Stmt} {f : Addr} {fd : FuncData} {N ps : List Str} {k : Nat} {sp : Sp} (F : Fun K x qual st f fd) (S : FnScope N ps (defScope st)) (len : ∀ vs H Q E, sp vs H Q E → vs.length = ps.length)
    (hbody : ∀ (cdv : Value) (A : Around) (outer : List Env) (s : Shared) (H : Hp) (vs : List V) (Q : VK) (E : XK), Room k (A.deeper (envOfC qual (defScope st) s.heap.objs.size f cdv)) → sp vs H Q E →
      ∃ t, PSs (cxOf CX0 P w K mg base N qual (defScope st) f cdv A outer s H E).nox (defBody st) t ∧ t { nx := fun _ H' => Q .non H', rt := Q } (start N vs) H) : FnOk P w K mg base CX0 (k + 1) f fd ps sp := by
  obtain ⟨oc, od, kV, doc, pm, an, cdv, ct, osl, rfl, lk, hcd⟩ := F.ex
  refine fn_of lk hcd S len fun A outer s H vs Q E hr hsp => ?_
  obtain ⟨t, h, q⟩ := hbody cdv A outer s H vs Q E hr hsp
  exact ⟨t, h.nox, q⟩
theorem Fun.binds {x qual : Str} {st : Stmt} {f : Addr} {fd : FuncData} {ps : List Str} (F : Fun K x qual st f fd)
    (h : ∀ (kV doc pm : Value) (an : Option Addr) (cdv ct : Value) (us : List Value), us.length = ps.length → bindArgs (PySem.W.fnOf x qual (defArgs st) (defBody st) (defScope st) .none kV doc pm an cdv ct) ⟨us, []⟩ = pure (ps.zip us)) : Binds K fd ps [] := by
  obtain ⟨oc, od, kV, doc, pm, an, cdv, ct, osl, rfl, lk, hcd⟩ := F.ex
  exact .all (h kV doc pm an cdv ct)
theorem fun_mk {x qual : Str} {st : Stmt} {f : Addr} {oc : Value} {od an : Option Addr} {osl : Array (Option Value)} {kV doc pm cdv ct : Value} (l : K.lookup f = some ⟨oc, od, .func (PySem.W.fnOf x qual (defArgs st) (defBody st) (defScope st) .none kV doc pm an cdv ct), osl⟩)
    (c : PySem.W.codeIn K cdv qual = true) (k : PySem.W.keepIn K (.ref f) = true) : Fun K x qual st f (PySem.W.fnOf x qual (defArgs st) (defBody st) (defScope st) .none kV doc pm an cdv ct) := ⟨⟨oc, od, kV, doc, pm, an, cdv, ct, osl, rfl, l, c⟩, k⟩
end
section
variable {X : Cx}
theorem pv (i : Nat) {x : Str} {pos : Pos} (hN : X.N[i]? = some x := by rfl) (hv : Vis X.env.scope x := by first | exact Or.inl rfl | exact Or.inr (Or.inl rfl) | exact Or.inr (Or.inr rfl)) (hd : (x == ("__debug__" : Str)) = false := by decide)
    (hcd : (x == ("__classdict__" : Str)) = false := by decide) : PE X (.Name x pos) (tVar i) := pe_var hN hv hd hcd
end
theorem iteF {A B : Prop} (h : B) : if false = true then A else B := by
  rw [if_neg Bool.false_ne_true]
  exact h
theorem iteT {A B : Prop} (h : A) : if true = true then A else B := by
  rw [if_pos rfl]
  exact h
def Same (H H' : Hp) : Prop := ∀ b o, H b = some o → H' b = some o
theorem Same.refl (H : Hp) : Same H H := fun _ _ h => h
theorem Same.trans {H H1 H2 : Hp} (a : Same H H1) (b : Same H1 H2) : Same H H2 := fun c o h => b c o (a c o h)
theorem Same.free {H H' : Hp} (e : Same H H') {l : Addr} (h : H' l = Option.none) : H l = Option.none := by
  cases q : H l with
  | none => rfl
  | some o =>
    rw [e l o q] at h
    cases h
theorem Same.seq {K : PySem.W.Frag} {H H' : Hp} {a : Addr} {xs : List V} (e : Same H H') (h : SqL K H a xs) : SqL K H' a xs := by
  rcases h with (h | ⟨o, h⟩) | h
  · exact .inl (.inl (e _ _ h))
  · exact .inl (.inr ⟨o, e _ _ h⟩)
  · exact .inr h
section
variable {κ : Type} [DecidableEq κ]
end
theorem at_of {xs : List V} {z : Int} {j : Nat} {v : V} (e : z = (j : Int)) (h : xs[j]? = some v) : atI xs z = some v := by
  rw [e]
  exact atI_nat h
theorem Same.made {H H1 : Hp} {x dx C : Addr} (nx : H x = Option.none) (nd : H dx = Option.none) (k : ∀ b o, (upd (upd H dx (.own x)) x (.ins C dx [])) b = some o → b ≠ x → H1 b = some o) : Same H H1 := fun b o e =>
  k b o (by rw [upd_ne (ne_of_none e nx), upd_ne (ne_of_none e nd)]; exact e) (ne_of_none e nx)
end L2
end
section
section
set_option Elab.async false
set_option linter.all false
set_option maxRecDepth 100000
set_option maxHeartbeats 2000000
namespace L2
open PySem PySem.Spec PyProof.Rows
open PySem.W (WData Codec OpenSpec Well WellAll ReadsW ReadsAllW)
mutual
inductive Dw (K : PySem.W.Frag) (H : Hp) : V → WData → Prop
  | non : Dw K H .non .none
  | bl (b : Bool) : Dw K H (.bl b) (.bool b)
  | int (i : Int) : Dw K H (.int i) (.int i)
  | str (x : Str) : Dw K H (.str x) (.str x)
  | byt (b : Array UInt8) : Dw K H (.byt b) (.bytes b.toList)
  | lst {a : Addr} {xs : List V} {ds : List WData} : SqL K H a xs → DwAll K H xs ds → Dw K H (.ref a) (.list ds)
  | tup {a : Addr} {xs : List V} {ds : List WData} : SqT K H a xs → DwAll K H xs ds → Dw K H (.ref a) (.tuple ds)
inductive DwAll (K : PySem.W.Frag) (H : Hp) : List V → List WData → Prop
  | nil : DwAll K H [] []
  | cons {v : V} {vs : List V} {d : WData} {ds : List WData} : Dw K H v d → DwAll K H vs ds → DwAll K H (v :: vs) (d :: ds)
end
theorem dw_ints {K : PySem.W.Frag} {H : Hp} : ∀ ns : List Int, DwAll K H (ns.map V.int) (ns.map WData.int)
  | [] => .nil
  | n :: r => .cons (.int n) (dw_ints r)
theorem ints_dw {K : PySem.W.Frag} {H : Hp} : ∀ (ns : List Int) (xs : List V), DwAll K H xs (ns.map WData.int) → xs = ns.map V.int
  | [], xs, h => by
    cases h
    rfl
  | n :: r, xs, h => by
    cases h with
    | cons h1 h2 =>
      cases h1
      rw [ints_dw r _ h2] <;> rfl
section
variable {P : Program} {w : World} {K : PySem.W.Frag} {H : Hp} {h : Heap} {R : PySem.W.WRecords} {cl : Str → Option Addr}
theorem sqL_at {a : Addr} {xs : List V} (hok : HOk P w H h) (KX : K.In h) (q : SqL K H a xs) : ∃ (its : List Value) (o : Obj) (n : Nat), Vals xs its ∧ h.get? a = some o ∧ o.cls = .type "list" ∧ o.data = .seq its.toArray n := by
  rcases q with q | ⟨o, its, n, e, hc, _, hd, _, hv⟩
  · obtain ⟨_, its, n, hv, e⟩ := (show ObjOk P w H h a (.lst xs) from q.ok hok)
    exact ⟨its, _, n, hv, e, rfl, rfl⟩
  · exact ⟨its.toList, o, n, hv, KX _ _ e, hc, by simp [hd]⟩
theorem sqT_at {a : Addr} {xs : List V} (hok : HOk P w H h) (KX : K.In h) (q : SqT K H a xs) : ∃ (its : List Value) (o : Obj) (n : Nat), Vals xs its ∧ h.get? a = some o ∧ o.cls = .type "tuple" ∧ o.data = .seq its.toArray n := by
  rcases q with q | ⟨o, its, n, e, hc, hd, _, hv⟩
  · obtain ⟨_, its, hv, o, e, hc, n, hd⟩ := (show ObjOk P w H h a (.tup xs) from q.ok hok)
    exact ⟨its, o, n, hv, e, hc, hd⟩
  · exact ⟨its.toList, o, n, hv, KX _ _ e, hc, by simp [hd]⟩
mutual
theorem Dw.reads (hok : HOk P w H h) (KX : K.In h) : ∀ (d : WData) (v : V) (u : Value), Dw K H v d → RelV v u → ∃ as, ReadsW R cl h u d as
  | .none, _, _, x, r => by
    cases x
    cases r
    exact ⟨_, ReadsW.none⟩
  | .bool b, _, _, x, r => by
    cases x
    cases r
    exact ⟨_, ReadsW.bool b⟩
  | .int i, _, _, x, r => by
    cases x
    obtain ⟨t, rfl⟩ := r
    exact ⟨_, ReadsW.int i t⟩
  | .str s, _, _, x, r => by
    cases x
    obtain ⟨t, rfl⟩ := r
    exact ⟨_, ReadsW.str s t⟩
  | .bytes b, _, _, x, r => by
    cases x
    obtain ⟨t, rfl⟩ := r
    exact ⟨_, ReadsW.bytes _ t⟩
  | .list ds, _, _, x, r => by
    cases x with
    | lst hs ha =>
      cases r
      obtain ⟨its, o, n, rv, ho, hc, hd⟩ := sqL_at hok KX hs
      obtain ⟨as, hr⟩ := Dw.readsAll hok KX ds _ its ha rv
      exact ⟨_, ReadsW.list ho hc hd hr⟩
  | .tuple ds, _, _, x, r => by
    cases x with
    | tup hs ha =>
      cases r
      obtain ⟨its, o, n, rv, ho, hc, hd⟩ := sqT_at hok KX hs
      obtain ⟨as, hr⟩ := Dw.readsAll hok KX ds _ its ha rv
      exact ⟨_, ReadsW.tuple ho hc hd hr⟩
  | .float _, _, _, x, _ => by cases x
  | .dict _, _, _, x, _ => by cases x
  | .bytearray _, _, _, x, _ => by cases x
  | .set _, _, _, x, _ => by cases x
  | .frozenset _, _, _, x, _ => by cases x
  | .obj _ _, _, _, x, _ => by cases x
theorem Dw.readsAll (hok : HOk P w H h) (KX : K.In h) : ∀ (ds : List WData) (vs : List V) (us : List Value), DwAll K H vs ds → Vals vs us → ∃ as, ReadsAllW R cl h us ds as
  | [], _, _, x, r => by
    cases x
    cases r
    exact ⟨_, ReadsAllW.nil⟩
  | d :: ds, _, _, x, r => by
    cases x with
    | cons h1 h2 =>
      cases r with
      | cons r1 r2 =>
        obtain ⟨as, q1⟩ := Dw.reads hok KX d _ _ h1 r1
        obtain ⟨bs, q2⟩ := Dw.readsAll hok KX ds _ _ h2 r2
        exact ⟨_, ReadsAllW.cons q1 q2⟩
end
end
mutual
def plW : WData → Bool
  | .none => true
  | .bool _ => true
  | .int _ => true
  | .str _ => true
  | .bytes _ => true
  | .list xs => plWs xs
  | .tuple xs => plWs xs
  | _ => false
def plWs : List WData → Bool
  | [] => true
  | x :: r => plW x && plWs r
end
theorem plWs_map {α : Type} {f : α → WData} (h : ∀ a, plW (f a) = true) : ∀ l : List α, plWs (l.map f) = true
  | [] => rfl
  | x :: r => by
    show (plW (f x) && plWs (r.map f)) = true
    rw [h x, plWs_map h r] <;> rfl
theorem pl_enc : ∀ (c : Codec) (a : c.denote), plW (c.enc a) = true
  | .unit, _ => rfl
  | .bool, _ => rfl
  | .int _ _, _ => rfl
  | .nat _ _, _ => rfl
  | .u8, _ => rfl
  | .bytes _ _, _ => rfl
  | .text _ _ _ _, _ => rfl
  | .list _ _ c, a => plWs_map (fun x => pl_enc c x) a
  | .pair c d, a => by
    show (plW (c.enc a.1) && (plW (d.enc a.2) && true)) = true
    rw [pl_enc c a.1, pl_enc d a.2] <;> rfl
  | .triple c d e, a => by
    show (plW (c.enc a.1) && (plW (d.enc a.2.1) && (plW (e.enc a.2.2) && true))) = true
    rw [pl_enc c a.1, pl_enc d a.2.1, pl_enc e a.2.2] <;> rfl
  | .option c, none => rfl
  | .option c, some x => pl_enc c x
theorem pl_encAll : ∀ (cs : List Codec) (a : Codec.denoteAll cs), plWs (Codec.encAll cs a) = true
  | [], _ => rfl
  | c :: cs, a => by
    show (plW (c.enc a.1) && plWs (Codec.encAll cs a.2)) = true
    rw [pl_enc c a.1, pl_encAll cs a.2] <;> rfl
theorem weight_mem : ∀ {xs : List WData} {d : WData}, d ∈ xs → d.weight ≤ WData.weightAll xs
  | [], d, h => absurd h (by simp)
  | x :: r, d, h => by
    show d.weight ≤ x.weight + 1 + WData.weightAll r
    rcases List.mem_cons.mp h with e | m
    · rw [e]
      omega
    · have z := weight_mem m
      omega
def toV : Value → V
  | .none => .non
  | .bool b => .bl b
  | .int i _ => .int i
  | .str x _ => .str x
  | .bytes b _ => .byt b
  | .ref a => .ref a
  | _ => .non
def OkU (A : List Addr) : Value → Prop
  | .none => True
  | .bool _ => True
  | .int _ _ => True
  | .str _ _ => True
  | .bytes _ _ => True
  | .ref a => a ∈ A
  | _ => False
theorem OkU.mono {A B : List Addr} (h : ∀ a ∈ A, a ∈ B) : ∀ {u : Value}, OkU A u → OkU B u := fun {u} x => by
  cases u with
  | ref a => exact h a x
  | none => trivial
  | bool b => trivial
  | int i t => trivial
  | str s t => trivial
  | bytes b t => trivial
  | _ => exact False.elim x
theorem relV_toV {A : List Addr} {u : Value} (x : OkU A u) : RelV (toV u) u := by
  cases u with
  | ref a => rfl
  | none => rfl
  | bool b => rfl
  | int i t => exact ⟨t, rfl⟩
  | str s t => exact ⟨t, rfl⟩
  | bytes b t => exact ⟨t, rfl⟩
  | _ => exact False.elim x
theorem vals_toV {A : List Addr} : ∀ {vs : List Value}, (∀ u ∈ vs, OkU A u) → Vals (vs.map toV) vs
  | [], _ => .nil
  | u :: r, h => .cons (relV_toV (h u (List.mem_cons_self ..))) (vals_toV fun x hx => h x (List.mem_cons_of_mem _ hx))
def ArgOb (h : Heap) (A : List Addr) (a : Addr) : Prop := ∃ vs : List Value, vs.length ≤ sizeLine ∧ (∀ u ∈ vs, OkU A u) ∧
  (h.get? a = some { cls := .type "list", data := .seq vs.toArray } ∨ h.get? a = some { cls := .type "tuple", data := .seq vs.toArray })
theorem ArgOb.mono {h : Heap} {A B : List Addr} {a : Addr} (k : ∀ a ∈ A, a ∈ B) (x : ArgOb h A a) : ArgOb h B a := by
  obtain ⟨vs, h1, h2, h3⟩ := x
  exact ⟨vs, h1, fun u hu => (h2 u hu).mono k, h3⟩
theorem wellAll_len {P : Params} {h : Heap} : ∀ {vs : List Value} {ds : List WData}, WellAll P h vs ds → vs.length = ds.length
  | _, _, .nil => rfl
  | _, _, .cons _ b => by
    show _ + 1 = _ + 1
    rw [wellAll_len b]
theorem well_list {P : Params} {h : Heap} {v : Value} {ds : List WData} (x : Well P h v (.list ds)) : ∃ (a : Addr) (vs : List Value), v = .ref a ∧ h.get? a = some { cls := .type "list", data := .seq vs.toArray } ∧ WellAll P h vs ds := by
  cases x with
  | list ho hall => exact ⟨_, _, rfl, ho, hall⟩
theorem well_tuple {P : Params} {h : Heap} {v : Value} {ds : List WData} (x : Well P h v (.tuple ds)) : ∃ (a : Addr) (vs : List Value), v = .ref a ∧ h.get? a = some { cls := .type "tuple", data := .seq vs.toArray } ∧ WellAll P h vs ds := by
  cases x with
  | tuple ho hall => exact ⟨_, _, rfl, ho, hall⟩
theorem well_cons {P : Params} {h : Heap} {us : List Value} {d : WData} {ds : List WData} (x : WellAll P h us (d :: ds)) : ∃ (v : Value) (vs : List Value), us = v :: vs ∧ Well P h v d ∧ WellAll P h vs ds := by
  cases x with
  | cons a b => exact ⟨_, _, rfl, a, b⟩
theorem line_of {n : Nat} (h : n ≤ 1048576) : n ≤ sizeLine := Nat.le_trans h (by decide)
section
variable {P : Params} {h : Heap}
mutual
theorem area_one : ∀ (d : WData) (v : Value), Well P h v d → plW d = true → d.weight ≤ 1048576 → ∃ A : List Addr, OkU A v ∧ ∀ a ∈ A, ArgOb h A a
  | .none, _, x, _, _ => by
    cases x
    exact ⟨[], trivial, fun a m => absurd m (by simp)⟩
  | .bool b, _, x, _, _ => by
    cases x
    exact ⟨[], trivial, fun a m => absurd m (by simp)⟩
  | .int i, _, x, _, _ => by
    cases x
    exact ⟨[], trivial, fun a m => absurd m (by simp)⟩
  | .str s, _, x, _, _ => by
    cases x
    exact ⟨[], trivial, fun a m => absurd m (by simp)⟩
  | .bytes b, _, x, _, _ => by
    cases x
    exact ⟨[], trivial, fun a m => absurd m (by simp)⟩
  | .list ds, _, x, p, z => by
    obtain ⟨a, vs, rfl, ho, hall⟩ := well_list x
    have z2 : WData.weightAll ds ≤ 1048576 := z
    obtain ⟨A, h1, h2⟩ := area_all ds _ hall p fun d hd => Nat.le_trans (weight_mem hd) z2
    have k : ∀ b ∈ A, b ∈ a :: A := fun b hb => List.mem_cons_of_mem _ hb
    refine ⟨a :: A, List.mem_cons_self .., fun b hb => ?_⟩
    rcases List.mem_cons.mp hb with e | m
    · rw [e]
      exact ⟨vs, line_of (by rw [wellAll_len hall]; exact Nat.le_trans (PySem.W.length_le_weightAllW ds) z2), fun u hu => (h1 u hu).mono k, .inl ho⟩
    · exact (h2 b m).mono k
  | .tuple ds, _, x, p, z => by
    obtain ⟨a, vs, rfl, ho, hall⟩ := well_tuple x
    have z2 : WData.weightAll ds ≤ 1048576 := z
    obtain ⟨A, h1, h2⟩ := area_all ds _ hall p fun d hd => Nat.le_trans (weight_mem hd) z2
    have k : ∀ b ∈ A, b ∈ a :: A := fun b hb => List.mem_cons_of_mem _ hb
    refine ⟨a :: A, List.mem_cons_self .., fun b hb => ?_⟩
    rcases List.mem_cons.mp hb with e | m
    · rw [e]
      exact ⟨vs, line_of (by rw [wellAll_len hall]; exact Nat.le_trans (PySem.W.length_le_weightAllW ds) z2), fun u hu => (h1 u hu).mono k, .inr ho⟩
    · exact (h2 b m).mono k
  | .float _, _, _, p, _ => Bool.noConfusion (show false = true from p)
  | .dict _, _, _, p, _ => Bool.noConfusion (show false = true from p)
  | .bytearray _, _, _, p, _ => Bool.noConfusion (show false = true from p)
  | .set _, _, _, p, _ => Bool.noConfusion (show false = true from p)
  | .frozenset _, _, _, p, _ => Bool.noConfusion (show false = true from p)
  | .obj _ _, _, _, p, _ => Bool.noConfusion (show false = true from p)
theorem area_all : ∀ (ds : List WData) (vs : List Value), WellAll P h vs ds → plWs ds = true → (∀ d ∈ ds, d.weight ≤ 1048576) → ∃ A : List Addr, (∀ u ∈ vs, OkU A u) ∧ ∀ a ∈ A, ArgOb h A a
  | [], _, x, _, _ => by
    cases x
    exact ⟨[], fun u m => absurd m (by simp), fun a m => absurd m (by simp)⟩
  | d :: ds, _, x, p, z => by
    obtain ⟨v, vs, rfl, x1, x2⟩ := well_cons x
    have q : plW d = true ∧ plWs ds = true := Bool.and_eq_true_iff.mp p
    obtain ⟨A, a1, a2⟩ := area_one d v x1 q.1 (z d (List.mem_cons_self ..))
    obtain ⟨B, b1, b2⟩ := area_all ds vs x2 q.2 fun e he => z e (List.mem_cons_of_mem _ he)
    have kA : ∀ b ∈ A, b ∈ A ++ B := fun b hb => List.mem_append.mpr (.inl hb)
    have kB : ∀ b ∈ B, b ∈ A ++ B := fun b hb => List.mem_append.mpr (.inr hb)
    refine ⟨A ++ B, fun u hu => ?_, fun b hb => ?_⟩
    · rcases List.mem_cons.mp hu with e | m
      · rw [e]
        exact a1.mono kA
      · exact (b1 u m).mono kB
    · rcases List.mem_append.mp hb with m | m
      · exact (a2 b m).mono kA
      · exact (b2 b m).mono kB
end
end
def hoOf (o : Obj) : Option HO := match o.data with
  | .seq vs _ => if (o.cls == Value.type "list") = true then some (.frz o (.lst (vs.toList.map toV))) else some (.frz o (.tup (vs.toList.map toV)))
  | _ => none
def argH (K : PySem.W.Frag) (h : Heap) (A : List Addr) : Hp := fun b => if b ∈ A then (if (K.lookup b).isNone = true then (h.get? b).bind hoOf else none) else none
def OnlyF (H : Hp) : Prop := ∀ b, H b = none ∨ ∃ o u, H b = some (.frz o u)
theorem hoOf_lst (vs : List Value) : hoOf { cls := .type "list", data := .seq vs.toArray } = some (.frz { cls := .type "list", data := .seq vs.toArray } (.lst (vs.map toV))) := by
  show (if (Value.type "list" == Value.type "list") = true then some (HO.frz { cls := .type "list", data := .seq vs.toArray } (.lst (vs.toArray.toList.map toV))) else some (HO.frz { cls := .type "list", data := .seq vs.toArray } (.tup (vs.toArray.toList.map toV)))) = _
  rw [if_pos (beq_self_eq_true _)]
theorem hoOf_tup (vs : List Value) : hoOf { cls := .type "tuple", data := .seq vs.toArray } = some (.frz { cls := .type "tuple", data := .seq vs.toArray } (.tup (vs.map toV))) := by
  show (if (Value.type "tuple" == Value.type "list") = true then some (HO.frz { cls := .type "tuple", data := .seq vs.toArray } (.lst (vs.toArray.toList.map toV))) else some (HO.frz { cls := .type "tuple", data := .seq vs.toArray } (.tup (vs.toArray.toList.map toV)))) = _
  rw [if_neg (by decide)]
section
variable {P : Program} {w : World} {K : PySem.W.Frag} {h : Heap} {A : List Addr}
theorem argH_at {b : Addr} {o : Obj} (hb : b ∈ A) (hk : K.lookup b = none) (e : h.get? b = some o) : argH K h A b = hoOf o := by
  unfold argH
  rw [if_pos hb, hk, if_pos (show (none : Option Obj).isNone = true from rfl), e] <;> rfl
theorem of_argH {b : Addr} {u : HO} (q : argH K h A b = some u) : b ∈ A ∧ K.lookup b = none := by
  unfold argH at q
  by_cases hb : b ∈ A
  · rw [if_pos hb] at q
    cases hk : K.lookup b with
    | none => exact ⟨hb, rfl⟩
    | some o =>
      rw [hk, if_neg (by simp)] at q
      cases q
  · rw [if_neg hb] at q
    cases q
theorem argH_is (ar : ∀ a ∈ A, ArgOb h A a) {b : Addr} {u : HO} (q : argH K h A b = some u) : K.lookup b = none ∧ ∃ vs : List Value, vs.length ≤ sizeLine ∧ (∀ u ∈ vs, OkU A u) ∧
    ((h.get? b = some { cls := .type "list", data := .seq vs.toArray } ∧ u = .frz { cls := .type "list", data := .seq vs.toArray } (.lst (vs.map toV))) ∨
     (h.get? b = some { cls := .type "tuple", data := .seq vs.toArray } ∧ u = .frz { cls := .type "tuple", data := .seq vs.toArray } (.tup (vs.map toV)))) := by
  obtain ⟨hb, hk⟩ := of_argH q
  obtain ⟨vs, h1, h2, h3⟩ := ar b hb
  refine ⟨hk, vs, h1, h2, ?_⟩
  rcases h3 with e | e
  · rw [argH_at hb hk e, hoOf_lst] at q
    exact .inl ⟨e, (Option.some.inj q).symm⟩
  · rw [argH_at hb hk e, hoOf_tup] at q
    exact .inr ⟨e, (Option.some.inj q).symm⟩
theorem argH_only (ar : ∀ a ∈ A, ArgOb h A a) : OnlyF (argH K h A) := fun b => by
  cases q : argH K h A b with
  | none => exact .inl rfl
  | some u =>
    obtain ⟨_, vs, _, _, ⟨_, e⟩ | ⟨_, e⟩⟩ := argH_is ar q
    · exact .inr ⟨_, _, by rw [e]⟩
    · exact .inr ⟨_, _, by rw [e]⟩
theorem argH_ok (ar : ∀ a ∈ A, ArgOb h A a) : HOk P w (argH K h A) h := fun b u q => by
  obtain ⟨_, vs, h1, h2, ⟨e, rfl⟩ | ⟨e, rfl⟩⟩ := argH_is ar q
  · exact ⟨e, by rw [List.length_map]; exact h1, vs, _, vals_toV h2, e⟩
  · exact ⟨e, by rw [List.length_map]; exact h1, vs, vals_toV h2, _, e, rfl, _, rfl⟩
theorem seq_inj {c c' : Value} {vs us : List Value} (e : (some { cls := c, data := .seq vs.toArray } : Option Obj) = some { cls := c', data := .seq us.toArray }) : c = c' ∧ vs = us := by
  have e1 := Option.some.inj e
  have e2 : c = c' := congrArg Obj.cls e1
  have e3 : Data.seq vs.toArray = Data.seq us.toArray := congrArg Obj.data e1
  injection e3 with e4
  refine ⟨e2, ?_⟩
  have e5 := congrArg Array.toList e4
  simpa using e5
theorem argL (KX : K.In h) (ar : ∀ a ∈ A, ArgOb h A a) {a : Addr} {vs : List Value} (ha : a ∈ A) (e : h.get? a = some { cls := .type "list", data := .seq vs.toArray }) : (∀ u ∈ vs, OkU A u) ∧ SqL K (argH K h A) a (vs.map toV) := by
  obtain ⟨us, h1, h2, h3⟩ := ar a ha
  have hu : us = vs := by
    rcases h3 with q | q
    · rw [e] at q
      exact (seq_inj q).2.symm
    · rw [e] at q
      exact absurd (Value.type.inj (seq_inj q).1) (by decide)
  subst hu
  refine ⟨h2, ?_⟩
  cases hk : K.lookup a with
  | none => exact .inl (.inr ⟨_, by rw [argH_at ha hk e, hoOf_lst]⟩)
  | some o =>
    have e2 := KX a o hk
    rw [e] at e2
    obtain rfl := Option.some.inj e2
    exact .inr ⟨_, us.toArray, _, hk, rfl, rfl, rfl, by rw [List.size_toArray]; exact h1, by simpa using vals_toV h2⟩
theorem argT (KX : K.In h) (ar : ∀ a ∈ A, ArgOb h A a) {a : Addr} {vs : List Value} (ha : a ∈ A) (e : h.get? a = some { cls := .type "tuple", data := .seq vs.toArray }) : (∀ u ∈ vs, OkU A u) ∧ SqT K (argH K h A) a (vs.map toV) := by
  obtain ⟨us, h1, h2, h3⟩ := ar a ha
  have hu : us = vs := by
    rcases h3 with q | q
    · rw [e] at q
      exact absurd (Value.type.inj (seq_inj q).1) (by decide)
    · rw [e] at q
      exact (seq_inj q).2.symm
  subst hu
  refine ⟨h2, ?_⟩
  cases hk : K.lookup a with
  | none => exact .inl (.inr ⟨_, by rw [argH_at ha hk e, hoOf_tup]⟩)
  | some o =>
    have e2 := KX a o hk
    rw [e] at e2
    obtain rfl := Option.some.inj e2
    exact .inr ⟨_, us.toArray, _, hk, rfl, rfl, by rw [List.size_toArray]; exact h1, by simpa using vals_toV h2⟩
mutual
theorem dw_one {Pm : Params} (KX : K.In h) (ar : ∀ a ∈ A, ArgOb h A a) : ∀ (d : WData) (v : Value), Well Pm h v d → plW d = true → OkU A v → Dw K (argH K h A) (toV v) d
  | .none, _, x, _, _ => by
    cases x
    exact .non
  | .bool b, _, x, _, _ => by
    cases x
    exact .bl b
  | .int i, _, x, _, _ => by
    cases x
    exact .int i
  | .str s, _, x, _, _ => by
    cases x
    exact .str s
  | .bytes b, _, x, _, _ => by
    cases x
    have z := Dw.byt (K := K) (H := argH K h A) b.toArray
    exact z
  | .list ds, _, x, p, hu => by
    obtain ⟨a, vs, rfl, ho, hall⟩ := well_list x
    obtain ⟨h2, hs⟩ := argL KX ar hu ho
    exact .lst hs (dw_all KX ar ds _ hall p h2)
  | .tuple ds, _, x, p, hu => by
    obtain ⟨a, vs, rfl, ho, hall⟩ := well_tuple x
    obtain ⟨h2, hs⟩ := argT KX ar hu ho
    exact .tup hs (dw_all KX ar ds _ hall p h2)
  | .float _, _, _, p, _ => Bool.noConfusion (show false = true from p)
  | .dict _, _, _, p, _ => Bool.noConfusion (show false = true from p)
  | .bytearray _, _, _, p, _ => Bool.noConfusion (show false = true from p)
  | .set _, _, _, p, _ => Bool.noConfusion (show false = true from p)
  | .frozenset _, _, _, p, _ => Bool.noConfusion (show false = true from p)
  | .obj _ _, _, _, p, _ => Bool.noConfusion (show false = true from p)
theorem dw_all {Pm : Params} (KX : K.In h) (ar : ∀ a ∈ A, ArgOb h A a) : ∀ (ds : List WData) (vs : List Value), WellAll Pm h vs ds → plWs ds = true → (∀ u ∈ vs, OkU A u) → DwAll K (argH K h A) (vs.map toV) ds
  | [], _, x, _, _ => by
    cases x
    exact .nil
  | d :: ds, _, x, p, hu => by
    obtain ⟨v, vs, rfl, x1, x2⟩ := well_cons x
    have q : plW d = true ∧ plWs ds = true := Bool.and_eq_true_iff.mp p
    exact .cons (dw_one KX ar d v x1 q.1 (hu _ (List.mem_cons_self ..))) (dw_all KX ar ds vs x2 q.2 fun u m => hu u (List.mem_cons_of_mem _ m))
end
end
theorem spec_call {P : Program} {w : World} {K : PySem.W.Frag} {mg mb : Str → Option Value} {CX : CXT} {k : Nat} {fa : Addr} {fd : FuncData} {ps : List Str} {sp : Sp} {s₁ : Shared} {vals : List Value} {ds : List WData} {R : PySem.W.WRecords} {cl : Str → Option Addr} {d0 : WData}
    (KX : K.In s₁.heap) (hns : s₁.heap.Ns mainGlobals mg) (hb : s₁.heap.Ns builtinsNs mb) (hbb : ∀ x : Str, x ≠ "__name__" → mb x = bootBuiltins x) (hlim : s₁.heap.NoLimit) (hg : s₁.gens = #[])
    (hwl : WellAll w.params s₁.heap vals ds) (hpl : plWs ds = true) (hwt : ∀ d ∈ ds, d.weight ≤ 1048576) (hr : Room k callerA)
    (F : ∀ base : Heap, K.In base → base.Ns mainGlobals mg → FnOk P w K mg base CX k fa fd ps sp) (hbind : ∀ (s : Shared) (us : List Value), us.length = ps.length → BindsTo s fd ⟨us, []⟩ (ps.zip us)) (hlen : ds.length = ps.length)
    (hsp : ∀ (H : Hp) (xs : List V), OnlyF H → DwAll K H xs ds → sp xs H (fun v H' => Dw K H' v d0) fun _ _ _ => False)
    (hCX : ∀ H e s', CX [] H s₁ (fun _ _ _ => False) e s' → False) :
    codeAny (model P w) callerA (.call (.ref fa) ⟨vals, []⟩) (fun r s' => ∃ u as, r = .ok (.ret u) ∧ ReadsW R cl s'.heap u d0 as ∧ OldK s₁.heap s'.heap ∧ s'.os = s₁.os ∧ AllBare s'.gens) s₁ := by
  obtain ⟨A, ho, ar⟩ := area_all ds vals hwl hpl hwt
  have hO : OnlyF (argH K s₁.heap A) := argH_only ar
  have hok : HOk P w (argH K s₁.heap A) s₁.heap := argH_ok ar
  have hS := dw_all KX ar ds vals hwl hpl ho
  have hV := vals_toV ho
  have hK : ∀ b u, argH K s₁.heap A b = some u → K.lookup b = none := fun b u q => (argH_is ar q).1
  have noA : ∀ {b : Addr} {o : Obj} {es : Array DictEntry} {ep : Nat}, s₁.heap.get? b = some o → o.data = .dict es ep → argH K s₁.heap A b = none := fun {b o es ep} e d => by
    cases q : argH K s₁.heap A b with
    | none => rfl
    | some u =>
      obtain ⟨_, vs, _, _, ⟨e2, _⟩ | ⟨e2, _⟩⟩ := argH_is ar q
      · rw [e2] at e
        cases e
        have d' : Data.seq vs.toArray _ = Data.dict es ep := d
        cases d'
      · rw [e2] at e
        cases e
        have d' : Data.seq vs.toArray _ = Data.dict es ep := d
        cases d'
  generalize argH K s₁.heap A = H at hO hok hS hK noA
  have base_of : ∀ {b : Addr} {o : Obj}, s₁.heap.get? b = some o → H b = none → (hidT s₁.heap H).get? b = some o := fun e n => hidT_get e n
  have nsK : ∀ {b : Addr} {m : Str → Option Value}, s₁.heap.Ns b m → (hidT s₁.heap H).Ns b m := fun {b m} ⟨o, es, ep, e, d, r⟩ => ⟨o, es, ep, base_of e (noA e d), d, r⟩
  have nK : ∀ b o, K.lookup b = some o → H b = none := fun b o e => by
    cases q : H b with
    | none => rfl
    | some u =>
      rw [hK b u q] at e
      cases e
  have hKb : K.In (hidT s₁.heap H) := fun b o e => base_of (KX b o e) (nK b o e)
  have hM : Mod K mg (hidT s₁.heap H) := ⟨hKb, nsK hns, ⟨mb, nsK hb, hbb⟩, let ⟨mc, h1, h2⟩ := hlim; ⟨mc, nsK h1, h2⟩⟩
  have e0 : Env0 P w K mg (hidT s₁.heap H) callerA [] s₁ H := ⟨rfl, hM, fun b o e => of_hidT e, Nat.le_of_eq (hidT_size _ _), trivial, fun b hb => absurd (show b ∈ ([] : List Addr) from hb) (by simp), hok, .of_eq hg⟩
  have hl : vals.length = ps.length := by rw [wellAll_len hwl]; exact hlen
  refine codeAny_mono ((F _ hKb (nsK hns)).run callerA [] s₁ H ⟨vals, []⟩ vals (vals.map toV) _ _ hr e0 (hbind s₁ vals hl) hV (hsp H _ hO hS)) fun r s' x => ?_
  cases r with
  | error e => exact (hCX H e s' x).elim
  | ok fl =>
    cases fl with
    | next => exact False.elim x
    | brk => exact False.elim x
    | cont => exact False.elim x
    | ret u =>
      obtain ⟨v, H', os, bare, un, hok', r', q⟩ := x
      have kept : ∀ b o, s₁.heap.get? b = some o → s'.heap.get? b = some o := fun b o e => by
        cases q2 : H b with
        | none => exact un.keep b o e q2 (by intro z; exact absurd (show b ∈ ([] : List Addr) from z) (by simp)) (by simp)
        | some u2 =>
          rcases hO b with z | ⟨ob, u3, z⟩
          · rw [q2] at z
            cases z
          · have z2 := un.frzs b ob _ z
            obtain ⟨e1, _⟩ := hok b _ z
            obtain ⟨e2, _⟩ := hok' b _ z2
            rw [e] at e1
            cases e1
            exact e2
      have KX' : K.In s'.heap := fun b o e => kept b o (KX b o e)
      obtain ⟨as, hrd⟩ := Dw.reads (R := R) (cl := cl) hok' KX' d0 v u q r'
      exact ⟨u, as, rfl, hrd, OldK.of_keep kept, os, bare⟩
theorem layable_weight {ds : List WData} (h : WData.layableAll ds = true) : ∀ d ∈ ds, d.weight ≤ 1048576 := fun d hd =>
  (PySem.W.layableW_iff.mp (List.all_eq_true.mp h d hd)).2.2
theorem encAll_len : ∀ (cs : List Codec) (a : Codec.denoteAll cs), (Codec.encAll cs a).length = cs.length
  | [], _ => rfl
  | c :: cs, a => by
    show (Codec.encAll cs a.2).length + 1 = cs.length + 1
    rw [encAll_len cs a.2]
theorem walk_spec {r : OpenSpec} {k : Nat} {q : Program} {loose : List Str} {XP : (Str → Option Value) → Heap → Prop} {YP : World → Heap → Prop} {d : DefRec} {K : Params → PySem.W.Frag} {CX : World → CXT} {ps : List Str} {sp : World → Sp}
    (hwell : r.wellSaid = true) (hdf : d.params.defaults = []) (hlen : r.args.length = ps.length) (hr : Room k callerA)
    (hY : ∀ (w : World) (h : Heap), YP w h → (K w.params).In h)
    (F : ∀ (w : World) (mg : Str → Option Value) (fa : Addr) (h : Heap), YP w h → (K w.params).In h → h.Ns mainGlobals mg → mg d.name = some (.ref fa) →
      ∃ fd : FuncData, (∀ (s : Shared) (us : List Value), us.length = ps.length → BindsTo s fd ⟨us, []⟩ (ps.zip us)) ∧
        ∀ base : Heap, (K w.params).In base → base.Ns mainGlobals mg → FnOk r.prog w (K w.params) mg base (CX w) k fa fd ps (sp w))
    (hsp : ∀ (w : World) (H : Hp) (xs : List V) (a : Codec.denoteAll r.args), OnlyF H → Codec.withinAll r.args a = true → Codec.app r.args r.asked a = true → DwAll (K w.params) H xs (Codec.encAll r.args a) →
      sp w xs H (fun v H' => Dw (K w.params) H' v (r.ret.enc (Codec.app r.args r.f a))) fun _ _ _ => False)
    (hCX : ∀ (w : World) (H : Hp) (s : Shared) (e : Value) (s' : Shared), CX w [] H s (fun _ _ _ => False) e s' → False) :
    PySem.W.WalkOS q loose XP YP r d [] (fun f vs => PySem.call f vs) := by
  intro w s_0 s₁ mg mb G Y fa o pm cd doc dV kV ho hd hcd hD hmg hg args vals as hpre hlay hrd hwl hlo
  obtain ⟨a, e1, e2⟩ := PySem.W.os_pre_some hpre
  obtain ⟨e3, hwi⟩ := Codec.encAll_of_decAll r.args args a e1
  subst e3
  have KX := hY w _ Y
  obtain ⟨fd, hb, hF⟩ := F w mg fa _ Y KX G.T.g hmg
  refine PySem.W.enter_call (codeAny_mono (spec_call (R := []) (cl := classAt s_0.heap) (d0 := r.ret.enc (Codec.app r.args r.f a)) KX G.T.g G.T.b G.T.builtins G.T.nolimit hg hwl (pl_encAll _ _) (layable_weight hlay) hr hF hb (by rw [encAll_len]; exact hlen)
    (fun H xs hO hS => hsp w H xs a hO hwi e2 hS) fun H e s' => hCX w H s₁ e s') fun r' s' hq => ?_)
  obtain ⟨u, as', rfl, h1, h2, h3, h4⟩ := hq
  exact ⟨.inl ⟨u, _, as', rfl, fun _ => rfl, h1, (OpenSpec.post_iff hwell hwi _ _).mpr rfl, fun z => Bool.noConfusion (show false = true from z)⟩, h2, h3, h4⟩
theorem walk_specK {r : OpenSpec} {k : Nat} {q : Program} {loose : List Str} {XP : (Str → Option Value) → Heap → Prop} {YP : World → Heap → Prop} {d : DefRec} {K : Params → PySem.W.Frag} {CX : CXT} {ps : List Str} {sp : PySem.W.Frag → Sp}
    (hwell : r.wellSaid = true) (hdf : d.params.defaults = []) (hlen : r.args.length = ps.length) (hr : Room k callerA)
    (hY : ∀ (w : World) (h : Heap), YP w h → (K w.params).In h)
    (F : ∀ (w : World) (mg : Str → Option Value) (fa : Addr) (h : Heap), YP w h → (K w.params).In h → h.Ns mainGlobals mg → mg d.name = some (.ref fa) →
      ∃ fd : FuncData, (∀ (s : Shared) (us : List Value), us.length = ps.length → BindsTo s fd ⟨us, []⟩ (ps.zip us)) ∧
        ∀ base : Heap, (K w.params).In base → base.Ns mainGlobals mg → FnOk r.prog w (K w.params) mg base CX k fa fd ps (sp (K w.params)))
    (hsp : ∀ (K : PySem.W.Frag) (H : Hp) (xs : List V) (a : Codec.denoteAll r.args), OnlyF H → Codec.withinAll r.args a = true → Codec.app r.args r.asked a = true → DwAll K H xs (Codec.encAll r.args a) →
      sp K xs H (fun v H' => Dw K H' v (r.ret.enc (Codec.app r.args r.f a))) fun _ _ _ => False)
    (hCX : ∀ (H : Hp) (s : Shared) (e : Value) (s' : Shared), CX [] H s (fun _ _ _ => False) e s' → False) :
    PySem.W.WalkOS q loose XP YP r d [] (fun f vs => PySem.call f vs) :=
  walk_spec (K := K) (CX := fun _ => CX) (sp := fun w => sp (K w.params)) hwell hdf hlen hr hY F (fun w H xs a h1 h2 h3 h4 => hsp (K w.params) H xs a h1 h2 h3 h4) fun _ H s e s' => hCX H s e s'
end L2
end
end
section
set_option linter.all false
namespace LpM
open Lace
def P32 : Nat := 0x04C11DB7
theorem sumBit_eq {c : Nat} (h : c < 2 ^ 32) : sumBit c = (2 * c % 2 ^ 32) ^^^ (if 2 ^ 31 ≤ c then P32 else 0) := by
  unfold sumBit P32
  split
  · rfl
  · rw [Nat.xor_zero, Nat.mod_eq_of_lt (by omega)]
theorem sumBit_lt {c : Nat} (h : c < 2 ^ 32) : sumBit c < 2 ^ 32 := by
  rw [sumBit_eq h]
  refine Nat.xor_lt_two_pow (Nat.mod_lt _ (by decide)) ?_
  split <;> decide
theorem top_bit {c : Nat} (h : c < 2 ^ 32) : decide (2 ^ 31 ≤ c) = c.testBit 31 := by
  rw [Nat.testBit_eq_decide_div_mod_eq]
  by_cases g : 2 ^ 31 ≤ c
  · have : c / 2 ^ 31 = 1 := by omega
    rw [this]; simp [g]
  · have : c / 2 ^ 31 = 0 := by omega
    rw [this]; simp [g]
theorem dbl_xor (x y : Nat) : 2 * (x ^^^ y) = (2 * x) ^^^ (2 * y) := by
  have e := @Nat.shiftLeft_xor_distrib 1 x y
  simp only [Nat.shiftLeft_eq, Nat.pow_one] at e
  rw [Nat.mul_comm, e, Nat.mul_comm x, Nat.mul_comm y]
theorem sumBit_xor {x y : Nat} (hx : x < 2 ^ 32) (hy : y < 2 ^ 32) : sumBit (x ^^^ y) = sumBit x ^^^ sumBit y := by
  have hxy : x ^^^ y < 2 ^ 32 := Nat.xor_lt_two_pow hx hy
  rw [sumBit_eq hx, sumBit_eq hy, sumBit_eq hxy, dbl_xor, Nat.xor_mod_two_pow]
  have t := Nat.testBit_xor x y 31
  rw [← top_bit hx, ← top_bit hy, ← top_bit hxy] at t
  by_cases a : 2 ^ 31 ≤ x <;> by_cases b : 2 ^ 31 ≤ y <;> by_cases c : 2 ^ 31 ≤ (x ^^^ y) <;> simp only [a, b, c, decide_true, decide_false, Bool.true_bne, Bool.false_bne, bne_self_eq_false, Bool.bne_true, Bool.bne_false, Bool.not_true, Bool.not_false, reduceCtorEq, Bool.true_xor, Bool.false_xor, Bool.xor_self] at t
  · simp only [a, b, c, if_true, if_false]
    rw [Nat.xor_zero]
    rw [show (2 * x % 2 ^ 32 ^^^ P32) ^^^ (2 * y % 2 ^ 32 ^^^ P32) = ((2 * x % 2 ^ 32) ^^^ (2 * y % 2 ^ 32)) ^^^ (P32 ^^^ P32) by ac_rfl, Nat.xor_self, Nat.xor_zero]
  · simp only [a, b, c, if_true, if_false, Nat.xor_zero]
    ac_rfl
  · simp only [a, b, c, if_true, if_false, Nat.xor_zero]
    ac_rfl
  · simp only [a, b, c, if_true, if_false, Nat.xor_zero]
def bits : Nat → Nat → Nat
  | 0, c => c
  | n + 1, c => sumBit (bits n c)
theorem bits_lt {c : Nat} (h : c < 2 ^ 32) : ∀ n, bits n c < 2 ^ 32
  | 0 => h
  | n + 1 => sumBit_lt (bits_lt h n)
theorem bits_xor {x y : Nat} (hx : x < 2 ^ 32) (hy : y < 2 ^ 32) : ∀ n, bits n (x ^^^ y) = bits n x ^^^ bits n y
  | 0 => rfl
  | n + 1 => by
    show sumBit (bits n (x ^^^ y)) = _
    rw [bits_xor hx hy n, sumBit_xor (bits_lt hx n) (bits_lt hy n)]
    rfl
theorem bits_low {l : Nat} : ∀ n, l * 2 ^ n < 2 ^ 32 → bits n l = l * 2 ^ n
  | 0, _ => by show l = l * 1; omega
  | n + 1, h => by
    have e : l * 2 ^ (n + 1) = 2 * (l * 2 ^ n) := by rw [Nat.pow_succ, ← Nat.mul_assoc, Nat.mul_comm]
    rw [e] at h
    show sumBit (bits n l) = _
    rw [bits_low n (by omega), e]
    unfold sumBit
    rw [if_neg (by omega)]
theorem sumByte_bits (c : Nat) (b : UInt8) : sumByte c b = bits 8 (c ^^^ (b.toNat * 2 ^ 24)) := rfl
theorem b_lt (b : UInt8) : b.toNat < 256 := b.toNat_lt
theorem sumByte_lt {c : Nat} (h : c < 2 ^ 32) (b : UInt8) : sumByte c b < 2 ^ 32 := by
  rw [sumByte_bits]
  exact bits_lt (Nat.xor_lt_two_pow h (by have := b_lt b; omega)) 8
theorem split_xor {l a b : Nat} (hl : l < 2 ^ 24) : (l + a * 2 ^ 24) ^^^ (b * 2 ^ 24) = l ^^^ ((a ^^^ b) * 2 ^ 24) := by
  have e : l + a * 2 ^ 24 = l ^^^ (a * 2 ^ 24) := by
    apply Nat.eq_of_testBit_eq
    intro i
    rw [Nat.testBit_xor, Nat.testBit_mul_two_pow, show l + a * 2 ^ 24 = 2 ^ 24 * a + l by omega, Nat.testBit_two_pow_mul_add _ hl]
    by_cases h : i < 24
    · simp [h, show ¬ 24 ≤ i by omega]
    · have : l.testBit i = false := Nat.testBit_lt_two_pow (Nat.lt_of_lt_of_le hl (Nat.pow_le_pow_right (by decide) (by omega)))
      simp [h, show 24 ≤ i by omega, this]
  have e2 := @Nat.shiftLeft_xor_distrib 24 a b
  simp only [Nat.shiftLeft_eq] at e2
  rw [e, e2]
  ac_rfl
@[irreducible] def tabAt (j : Nat) : Nat := bits 8 (j * 2 ^ 24)
theorem step_tab {c : Nat} (h : c < 2 ^ 32) (b : UInt8) : sumByte c b = (c * 256 % 2 ^ 32) ^^^ tabAt ((c / 2 ^ 24) ^^^ b.toNat) := by
  have hb := b_lt b
  have e0 : c = c % 2 ^ 24 + (c / 2 ^ 24) * 2 ^ 24 := by omega
  have hl : c % 2 ^ 24 < 2 ^ 24 := Nat.mod_lt _ (by decide)
  have ha : c / 2 ^ 24 < 256 := by omega
  have hx : (c / 2 ^ 24) ^^^ b.toNat < 2 ^ 8 := Nat.xor_lt_two_pow (by omega) (by omega)
  rw [sumByte_bits]
  generalize hL : c % 2 ^ 24 = L at e0 hl
  generalize hA : c / 2 ^ 24 = A at e0 ha hx
  have e1 : c ^^^ (b.toNat * 2 ^ 24) = L ^^^ ((A ^^^ b.toNat) * 2 ^ 24) := by rw [e0]; exact split_xor hl
  rw [e1, bits_xor (by omega) (by omega), bits_low 8 (by omega)]
  unfold tabAt
  rw [show c * 256 % 2 ^ 32 = L * 2 ^ 8 by omega]
theorem idx_lt {c : Nat} (h : c < 2 ^ 32) (b : UInt8) : (c / 2 ^ 24) ^^^ b.toNat < 256 := by
  have hb := b_lt b
  have : (c / 2 ^ 24) ^^^ b.toNat < 2 ^ 8 := Nat.xor_lt_two_pow (by omega) (by omega)
  omega
theorem fold_lt : ∀ (l : Bytes) {c : Nat}, c < 2 ^ 32 → l.foldl sumByte c < 2 ^ 32
  | [], _, h => h
  | b :: l, _, h => fold_lt l (sumByte_lt h b)
theorem sum_lt (l : Bytes) : Lace.sum l < 2 ^ 32 := fold_lt l (by decide)
@[irreducible] def tbl : List Nat := (List.range 256).map tabAt
theorem tbl_length : tbl.length = 256 := by
  unfold tbl
  rw [List.length_map, List.length_range]
theorem tbl_get {j : Nat} (h : j < 256) : tbl[j]? = some (tabAt j) := by
  unfold tbl
  rw [List.getElem?_map, List.getElem?_range h]
  rfl
theorem le_length : ∀ k n, (le k n).length = k
  | 0, _ => rfl
  | k + 1, n => by
    show (le k (n / 256)).length + 1 = k + 1
    rw [le_length k]
theorem le_get : ∀ k n i, i < k → (le k n)[i]? = some (UInt8.ofNat (n / 256 ^ i))
  | 0, _, _, h => absurd h (Nat.not_lt_zero _)
  | k + 1, n, 0, _ => by
    show some (UInt8.ofNat n) = _
    rw [Nat.pow_zero, Nat.div_one]
  | k + 1, n, i + 1, h => by
    show (le k (n / 256))[i]? = _
    rw [le_get k _ i (by omega), Nat.div_div_eq_div_mul, Nat.pow_succ, Nat.mul_comm]
theorem ofNat_toNat (n : Nat) : (UInt8.ofNat n).toNat = n % 256 := UInt8.toNat_ofNat'
theorem unle_cons (c : UInt8) (r : Bytes) : unle (c :: r) = c.toNat + 256 * unle r := rfl
theorem drop_at {α : Type} {l : List α} {i : Nat} {x : α} (h : l[i]? = some x) : l.drop i = x :: l.drop (i + 1) := by
  obtain ⟨h1, h2⟩ := List.getElem?_eq_some_iff.mp h
  rw [List.drop_eq_getElem_cons h1, h2]
theorem raw_zero (p : Page) : unsummed (raw p 0) = raw p 0 := by
  have e : raw p 0 = (MARK ++ [UInt8.ofNat p.flags] ++ le 8 p.position ++ le 4 p.stream ++ le 4 p.number) ++ ([0, 0, 0, 0] ++ ([UInt8.ofNat p.lacing.length] ++ p.lacing.map UInt8.ofNat ++ p.body)) := by
    unfold raw
    rw [show le 4 0 = [0, 0, 0, 0] by decide]
    simp only [List.append_assoc]
  have l : (MARK ++ [UInt8.ofNat p.flags] ++ le 8 p.position ++ le 4 p.stream ++ le 4 p.number).length = 22 := by
    simp only [List.length_append, le_length]
    rfl
  unfold unsummed
  rw [e]
  generalize MARK ++ [UInt8.ofNat p.flags] ++ le 8 p.position ++ le 4 p.stream ++ le 4 p.number = A at l
  generalize [UInt8.ofNat p.lacing.length] ++ p.lacing.map UInt8.ofNat ++ p.body = B
  rw [List.take_append_of_le_length (by omega), List.take_of_length_le (by omega), List.drop_append, List.drop_of_length_le (by omega), l]
  simp
theorem map_u8 : ∀ {l : List Nat}, (∀ v ∈ l, v < 256) → (l.map UInt8.ofNat).map (fun c => c.toNat) = l
  | [], _ => rfl
  | v :: l, h => by
    rw [List.map_cons, List.map_cons, map_u8 fun x hx => h x (List.mem_cons_of_mem _ hx), ofNat_toNat, Nat.mod_eq_of_lt (h v List.mem_cons_self)]
def jv : Verdict → Int
  | .wrong => -1
  | .short => 0
  | .page n => (n : Int)
theorem pre_no {c : Bytes} {i : Nat} {x y : UInt8} (h5 : i < 5) (hx : c[i]? = some x) (hy : MARK[i]? = some y) (ne : x ≠ y) : (c.take 5).isPrefixOf MARK = false := by
  rw [Bool.eq_false_iff]
  intro h
  rw [List.isPrefixOf_iff_prefix, List.prefix_iff_getElem?] at h
  have hl : i < (c.take 5).length := by
    obtain ⟨h1, _⟩ := List.getElem?_eq_some_iff.mp hx
    rw [List.length_take]
    omega
  have q := h i hl
  obtain ⟨h1, e1⟩ := List.getElem?_eq_some_iff.mp hx
  rw [hy, List.getElem_take, e1] at q
  exact ne (Option.some.inj q).symm
theorem pre_yes {c : Bytes} (h : ∀ i x y, i < 5 → c[i]? = some x → MARK[i]? = some y → x = y) : (c.take 5).isPrefixOf MARK = true := by
  rw [List.isPrefixOf_iff_prefix, List.prefix_iff_getElem?]
  intro i hl
  rw [List.length_take] at hl
  have h5 : i < 5 := by omega
  obtain ⟨y, hy⟩ : ∃ y, MARK[i]? = some y := ⟨_, List.getElem?_eq_getElem (show i < MARK.length from h5)⟩
  have hc : i < c.length := by omega
  rw [hy, List.getElem_take, h i _ y h5 (List.getElem?_eq_getElem hc) hy]
theorem byteAt_of {c : Bytes} {i : Nat} {x : UInt8} (h : c[i]? = some x) : byteAt c i = x.toNat := by
  unfold byteAt
  rw [List.getD_eq_getElem?_getD, h]
  rfl
theorem judge_mark {c : Bytes} (h : (c.take 5).isPrefixOf MARK = false) : judge c = .wrong := by
  unfold judge
  rw [if_pos (.inl h)]
theorem judge_flags {c : Bytes} {x : UInt8} (hx : c[5]? = some x) (h : 7 < x.toNat) : judge c = .wrong := by
  unfold judge
  rw [if_pos (.inr (.inl ⟨by obtain ⟨h1, _⟩ := List.getElem?_eq_some_iff.mp hx; omega, by rw [byteAt_of hx]; omega⟩))]
structure Fore (c : Bytes) : Prop where
  mark : (c.take 5).isPrefixOf MARK = true
  flags : ¬ (6 ≤ c.length ∧ 8 ≤ byteAt c 5)
theorem judge_few {c : Bytes} (f : Fore c) (h : c.length < 27) : judge c = .short := by
  unfold judge
  rw [if_neg (by rintro (q | q | q); · rw [f.mark] at q; cases q
                 · exact f.flags q
                 · omega), if_pos (.inl h)]
theorem judge_count {c : Bytes} {x : UInt8} (hx : c[26]? = some x) (h : 16 < x.toNat) : judge c = .wrong := by
  unfold judge
  rw [if_pos (.inr (.inr ⟨by obtain ⟨h1, _⟩ := List.getElem?_eq_some_iff.mp hx; omega, by rw [byteAt_of hx]; exact h⟩))]
theorem judge_rest {c : Bytes} (f : Fore c) (h : 27 ≤ c.length) (h2 : byteAt c 26 ≤ 16) : judge c = if c.length < headOf c ∨ c.length < lengthOf c then .short else if sum (unsummed (c.take (lengthOf c))) = unle ((c.drop 22).take 4) then .page (lengthOf c) else .wrong := by
  unfold judge
  rw [if_neg (by rintro (q | q | q); · rw [f.mark] at q; cases q
                 · exact f.flags q
                 · have : VALUES = 16 := rfl
                   omega)]
  by_cases q : c.length < headOf c ∨ c.length < lengthOf c
  · rw [if_pos (.inr q), if_pos q]
  · rw [if_neg (by rintro (a | a); · omega
                   · exact q a), if_neg q]
theorem head_le (c : Bytes) : headOf c ≤ lengthOf c := Nat.le_add_right _ _
theorem foldr_sum : ∀ l : Bytes, (((l.map fun c => c.toNat).foldr (fun x y => x + y) 0 : Nat) : Int) = (l.map fun c => (c.toNat : Int)).sum
  | [] => rfl
  | x :: l => by
    rw [List.map_cons, List.foldr_cons, List.map_cons, List.sum_cons, ← foldr_sum l]
    omega
theorem cut4 {c : Bytes} {L : Nat} (h : 27 ≤ L) : ((c.take L).drop 22).take 4 = (c.drop 22).take 4 := by
  rw [List.drop_take, List.take_take, Nat.min_eq_left (by omega)]
theorem foldr_le : ∀ l : List Nat, (∀ v ∈ l, v < 256) → l.foldr (fun x y => x + y) 0 ≤ 255 * l.length
  | [], _ => Nat.le_refl _
  | x :: l, h => by
    rw [List.foldr_cons, List.length_cons]
    have := foldr_le l fun v hv => h v (List.mem_cons_of_mem _ hv)
    have := h x List.mem_cons_self
    omega
theorem lacing_small (c : Bytes) : ∀ v ∈ lacingOf c, v < 256 := fun v hv => by
  unfold lacingOf at hv
  obtain ⟨x, _, rfl⟩ := List.mem_map.mp hv
  exact b_lt x
theorem length_bound {c : Bytes} (h : byteAt c 26 ≤ 16) : lengthOf c ≤ 5000 := by
  have h1 := foldr_le _ (lacing_small c)
  have h2 : (lacingOf c).length ≤ 16 := by
    unfold lacingOf
    rw [List.length_map, List.length_take]
    omega
  unfold lengthOf headOf
  omega
theorem cut_grow {α : Type} (b : List α) {s e : Nat} (v : Nat) (h : s ≤ e) : (b.drop s).take (e - s) ++ (b.drop e).take v = (b.drop s).take (e + v - s) := by
  rw [show e + v - s = (e - s) + v by omega, List.take_add, List.drop_drop, show s + (e - s) = e by omega]
theorem pieces_full (l : List Nat) (b so : Bytes) : pieces (255 :: l) b so = pieces l (b.drop 255) (so ++ b.take 255) := by
  show (if (255 : Nat) = 255 then _ else _) = _
  rw [if_pos rfl]
theorem pieces_end {v : Nat} (h : v ≠ 255) (l : List Nat) (b so : Bytes) : pieces (v :: l) b so = (so ++ b.take v, true) :: pieces l (b.drop v) [] := by
  show (if v = 255 then _ else _) = _
  rw [if_neg h]
theorem pieces_nil (b so : Bytes) : pieces [] b so = if so = [] then [] else [(so, false)] := rfl
structure PcInv (b : Bytes) (lac : List Nat) (i s e : Nat) (out : List (Bytes × Bool)) : Prop where
  se : s ≤ e
  all : e + (lac.drop i).foldr (fun x y => x + y) 0 = b.length
  eq : pieces lac (b.drop (headOf b)) [] = out ++ pieces (lac.drop i) (b.drop e) ((b.drop s).take (e - s))
theorem PcInv.full {b : Bytes} {lac : List Nat} {i s e : Nat} {out : List (Bytes × Bool)} (h : PcInv b lac i s e out) (hv : lac[i]? = some 255) : PcInv b lac (i + 1) s (e + 255) out := by
  have d := drop_at hv
  refine ⟨by have := h.se; omega, ?_, ?_⟩
  · have a := h.all
    rw [d, List.foldr_cons] at a
    omega
  · rw [h.eq, d, pieces_full, List.drop_drop, cut_grow b 255 h.se]
theorem PcInv.ends {b : Bytes} {lac : List Nat} {i s e v : Nat} {out : List (Bytes × Bool)} (h : PcInv b lac i s e out) (hv : lac[i]? = some v) (hn : v ≠ 255) : PcInv b lac (i + 1) (e + v) (e + v) (out ++ [((b.drop s).take (e + v - s), true)]) := by
  have d := drop_at hv
  refine ⟨Nat.le_refl _, ?_, ?_⟩
  · have a := h.all
    rw [d, List.foldr_cons] at a
    omega
  · rw [h.eq, d, pieces_end hn, List.drop_drop, cut_grow b v h.se, Nat.sub_self, List.take_zero, List.append_assoc]
    rfl
theorem PcInv.last {b : Bytes} {lac : List Nat} {s e : Nat} {out : List (Bytes × Bool)} (h : PcInv b lac lac.length s e out) : pieces lac (b.drop (headOf b)) [] = out ++ if s < e then [((b.drop s).take (e - s), false)] else [] := by
  have a := h.all
  rw [List.drop_length] at a
  have a : e = b.length := a
  rw [h.eq, List.drop_length, pieces_nil]
  by_cases q : s < e
  · rw [if_pos q, if_neg]
    intro z
    have l : ((b.drop s).take (e - s)).length = 0 := by rw [z]; rfl
    rw [List.length_take, List.length_drop] at l
    omega
  · rw [if_neg q, if_pos]
    rw [show e - s = 0 by omega, List.take_zero]
theorem PcInv.start {b : Bytes} (h : b.length = lengthOf b) : PcInv b (lacingOf b) 0 (headOf b) (headOf b) [] := by
  refine ⟨Nat.le_refl _, ?_, ?_⟩
  · rw [List.drop_zero, h]
    rfl
  · rw [List.drop_zero, Nat.sub_self, List.take_zero, List.nil_append]
end LpM
end
section
set_option linter.all false
namespace LpM
open Lace
structure RS where
  stream : Nat
  un : Bytes
  closed : Bool
  num : Option Nat
  over : Bool
  begun : Option Bytes
  hole : Bool
  waits : List Packet
  taken : Nat
  others : Nat
  strange : Nat
  passed : Nat
  dropped : Nat
def rsInit (stream : Nat) : RS := ⟨stream, [], false, none, false, none, false, [], 0, 0, 0, 0, 0⟩
def prt : Option Bytes → Part
  | none => .none
  | some b => if b.length ≤ LONGEST then .begun b else .long
def toRd (r : RS) (pend : Bytes) : Rd := ⟨r.stream, pend, r.num, prt r.begun, r.hole, r.over, r.waits, r.closed, r.taken, r.others, r.strange, r.passed, r.dropped⟩
theorem toRd_init (n : Nat) : toRd (rsInit n) [] = rdInit n := rfl
theorem prt_some (b : Bytes) : prt (some b) ≠ .none := by
  show (if b.length ≤ LONGEST then Part.begun b else .long) ≠ .none
  by_cases h : b.length ≤ LONGEST
  · rw [if_pos h]; intro e; cases e
  · rw [if_neg h]; intro e; cases e
def dropB (r : RS) : RS := match r.begun with
  | none => r
  | some _ => { r with begun := none, dropped := r.dropped + 1, hole := true }
theorem dropB_none {r : RS} (h : r.begun = none) : dropB r = r := by unfold dropB; rw [h]
theorem dropB_some {r : RS} {b : Bytes} (h : r.begun = some b) : dropB r = { r with begun := none, dropped := r.dropped + 1, hole := true } := by unfold dropB; rw [h]
theorem dropB_begun (r : RS) : (dropB r).begun = none := by
  cases h : r.begun with
  | none => rw [dropB_none h, h]
  | some b => rw [dropB_some h]
theorem dropB_twice (r : RS) : dropB (dropB r) = dropB r := dropB_none (dropB_begun r)
theorem toRd_drop (r : RS) (p : Bytes) : toRd (dropB r) p = (toRd r p).cut := by
  unfold Rd.cut
  cases h : r.begun with
  | none =>
    rw [dropB_none h, if_pos]
    show prt r.begun = .none
    rw [h]; rfl
  | some b =>
    rw [dropB_some h, if_neg]
    · rfl
    · show ¬ prt r.begun = .none
      rw [h]; exact prt_some b
def isOld : Option Nat → Nat → Bool
  | none, _ => false
  | some q, n => decide (((n : Int) - (q : Int)) % 4294967296 = 0) || decide (2147483648 ≤ ((n : Int) - (q : Int)) % 4294967296)
def follow1 (n fl : Nat) (r : RS) : RS := match r.num with
  | none => if fl / 2 % 2 = 1 then r else { r with hole := true }
  | some q => if n = (q + 1) % 4294967296 then r else dropB { r with hole := true }
def followN (n fl : Nat) (r : RS) : RS := { (if fl % 2 = 1 then follow1 n fl r else dropB (follow1 n fl r)) with num := some n }
def endP (pos : Nat) (lastp isLast : Bool) (r : RS) : RS := match r.begun with
  | none => r
  | some b => if LONGEST < b.length then dropB r else { r with waits := r.waits ++ [⟨b, if isLast = true then pos else NONE, r.hole, isLast && lastp⟩], begun := none, hole := false }
def grow (r : RS) (b : Bytes) : RS := { r with begun := some (r.begun.getD [] ++ b) }
def readP (pos : Nat) (lastp : Bool) : List (Bytes × Bool) → RS → RS
  | [], r => r
  | x :: l, r => readP pos lastp l (if x.2 = true then endP pos lastp (!(l.any fun y => y.2)) (grow r x.1) else grow r x.1)
def skips (p : Page) (ps : List (Bytes × Bool)) (r : RS) : Bool := p.midst && (r.begun.isNone && !ps.isEmpty)
def readA (p : Page) (r : RS) : RS :=
  let ps := pieces p.lacing p.body []
  if skips p ps r = true then readP p.position p.last (ps.drop 1) { r with hole := true } else readP p.position p.last ps r
def meet (p : Page) (r : RS) : RS :=
  if p.stream ≠ r.stream then { r with others := r.others + 1 }
  else if (r.over || isOld r.num p.number) = true then { r with strange := r.strange + 1 }
  else
    let u := readA p (followN p.number p.flags { r with taken := r.taken + 1 })
    if p.last = true then { dropB u with over := true } else u
inductive Shp : List (Bytes × Bool) → Prop
  | nil : Shp []
  | one (x : Bytes × Bool) (h : x.1.length ≤ LONGEST) : Shp [x]
  | cons (b : Bytes) (l : List (Bytes × Bool)) (h : b.length ≤ LONGEST) (t : Shp l) : Shp ((b, true) :: l)
def lsum (l : List Nat) : Nat := l.foldr (fun x y => x + y) 0
theorem lsum_cons (v : Nat) (l : List Nat) : lsum (v :: l) = v + lsum l := rfl
theorem pieces_shp : ∀ (l : List Nat) (b so : Bytes), so.length + lsum l ≤ LONGEST → Shp (pieces l b so)
  | [], b, so, h => by
    rw [pieces_nil]
    by_cases e : so = []
    · rw [if_pos e]; exact .nil
    · rw [if_neg e]; exact .one _ (by show so.length ≤ LONGEST; omega)
  | v :: l, b, so, h => by
    rw [lsum_cons] at h
    by_cases e : v = 255
    · subst e
      rw [pieces_full]
      refine pieces_shp l _ _ ?_
      have : (b.take 255).length ≤ 255 := by rw [List.length_take]; omega
      rw [List.length_append]
      omega
    · rw [pieces_end e]
      have : (b.take v).length ≤ v := by rw [List.length_take]; omega
      refine .cons _ _ ?_ (pieces_shp l _ _ ?_)
      · rw [List.length_append]; omega
      · show 0 + _ ≤ _; omega
def wgt : List (Bytes × Bool) → Nat
  | [] => 0
  | x :: l => x.1.length + 1 + wgt l
theorem pieces_wgt : ∀ (l : List Nat) (b so : Bytes), wgt (pieces l b so) ≤ so.length + lsum l + l.length + (if so = [] then 0 else 1)
  | [], b, so => by
    rw [pieces_nil]
    by_cases e : so = []
    · rw [if_pos e]; exact Nat.zero_le _
    · rw [if_neg e, if_neg e]
      show so.length + 1 + 0 ≤ so.length + 0 + 0 + 1
      omega
  | v :: l, b, so => by
    rw [lsum_cons, List.length_cons]
    by_cases e : v = 255
    · subst e
      rw [pieces_full]
      have h := pieces_wgt l (b.drop 255) (so ++ b.take 255)
      have : (b.take 255).length ≤ 255 := by rw [List.length_take]; omega
      rw [List.length_append] at h
      have h2 : (if (so ++ b.take 255) = [] then 0 else 1) ≤ 1 := by split <;> omega
      omega
    · rw [pieces_end e]
      have h := pieces_wgt l (b.drop v) []
      rw [if_pos rfl] at h
      have : (b.take v).length ≤ v := by rw [List.length_take]; omega
      show (so ++ b.take v).length + 1 + wgt _ ≤ _
      rw [List.length_append]
      have h0 : ([] : Bytes).length = 0 := rfl
      omega
theorem lac_len (b : Bytes) : (lacingOf b).length ≤ byteAt b 26 := by
  unfold lacingOf
  rw [List.length_map, List.length_take]
  omega
theorem page_wgt (b : Bytes) : wgt (pieces (pageOf b).lacing (pageOf b).body []) + 27 ≤ lengthOf b := by
  have h := pieces_wgt (lacingOf b) (pageOf b).body []
  have h2 := lac_len b
  rw [if_pos rfl] at h
  have e : lengthOf b = 27 + byteAt b 26 + lsum (lacingOf b) := rfl
  have h0 : ([] : Bytes).length = 0 := rfl
  show wgt (pieces (lacingOf b) _ []) + 27 ≤ _
  omega
theorem page_shp {b : Bytes} (h : byteAt b 26 ≤ 16) : Shp (pieces (pageOf b).lacing (pageOf b).body []) := by
  refine pieces_shp _ _ _ ?_
  have h1 := foldr_le _ (lacing_small b)
  have h2 := lac_len b
  show 0 + (lacingOf b).foldr (fun x y => x + y) 0 ≤ 8192
  omega
theorem readP_nil (pos : Nat) (lastp : Bool) (r : RS) : readP pos lastp [] r = r := rfl
theorem readP_cons (pos : Nat) (lastp : Bool) (x : Bytes × Bool) (l : List (Bytes × Bool)) (r : RS) : readP pos lastp (x :: l) r = readP pos lastp l (if x.2 = true then endP pos lastp (!(l.any fun y => y.2)) (grow r x.1) else grow r x.1) := rfl
theorem prt_le {b : Bytes} (h : b.length ≤ LONGEST) : prt (some b) = .begun b := by
  show (if b.length ≤ LONGEST then Part.begun b else .long) = _
  rw [if_pos h]
theorem prt_gt {b : Bytes} (h : LONGEST < b.length) : prt (some b) = .long := by
  show (if b.length ≤ LONGEST then Part.begun b else .long) = _
  rw [if_neg (by omega)]
theorem grown_prt (a b : Bytes) : grown (prt (some a)) b = prt (some (a ++ b)) := by
  by_cases h : a.length ≤ LONGEST
  · rw [prt_le h]
    show (if a.length + b.length ≤ LONGEST then Part.begun (a ++ b) else .long) = (if (a ++ b).length ≤ LONGEST then Part.begun (a ++ b) else .long)
    rw [List.length_append]
  · rw [prt_gt (by omega), prt_gt (by rw [List.length_append]; omega)]
    rfl
theorem neg_pick {α : Type} (b : Bool) (x y : α) : (if (!b) = true then x else y) = if b = true then y else x := by cases b <;> rfl
theorem step_of (p : Page) (pend : Bytes) (m : Bool) (x : Bytes × Bool) (l : List (Bytes × Bool)) (r : RS) (hp : (if m = true then grown (prt r.begun) x.1 else .begun x.1) = prt (grow r x.1).begun) (hh : (m && decide (prt r.begun = .none)) = false) :
    takePieces p m (x :: l) (toRd r pend) = takePieces p false l (toRd (if x.2 = true then endP p.position p.last (!(l.any fun y => y.2)) (grow r x.1) else grow r x.1) pend) := by
  obtain ⟨b, e⟩ := x
  rw [takePieces]
  congr 1
  have hpart : (toRd r pend).part = prt r.begun := rfl
  simp only [hpart, hh, hp, Bool.or_false]
  cases e with
  | false => rfl
  | true =>
    simp only [if_true]
    unfold endP
    show (match prt (grow r b).begun with | .begun b => _ | .long => _ | .none => _) = _
    have hg : (grow r b).begun = some (r.begun.getD [] ++ b) := rfl
    rw [hg]
    generalize r.begun.getD [] ++ b = c
    by_cases hc : LONGEST < c.length
    · rw [prt_gt hc]
      simp only []
      rw [if_pos hc]
      rfl
    · rw [prt_le (by omega)]
      simp only []
      rw [if_neg hc]
      simp only [neg_pick]
      rfl
theorem endP_begun {pos : Nat} {lastp isLast : Bool} {r : RS} : (endP pos lastp isLast r).begun = none := by
  unfold endP
  split
  · assumption
  · split
    · exact dropB_begun _
    · rfl
theorem takeA (p : Page) (pend : Bytes) {ps : List (Bytes × Bool)} (hs : Shp ps) : ∀ (r : RS), r.begun = none → takePieces p false ps (toRd r pend) = toRd (readP p.position p.last ps r) pend := by
  induction hs with
  | nil => intro r _; rfl
  | one x h =>
    intro r hb
    rw [step_of p pend false x [] r (by rw [if_neg Bool.false_ne_true]; unfold grow; rw [hb]; exact (prt_le h).symm) rfl]
    rfl
  | cons b l h t ih =>
    intro r hb
    rw [step_of p pend false (b, true) l r (by rw [if_neg Bool.false_ne_true]; unfold grow; rw [hb]; exact (prt_le h).symm) rfl, readP_cons]
    refine ih _ ?_
    rw [if_pos rfl]
    exact endP_begun
theorem takeB (p : Page) (pend : Bytes) {ps : List (Bytes × Bool)} (hs : Shp ps) (r : RS) {a : Bytes} (hb : r.begun = some a) : takePieces p true ps (toRd r pend) = toRd (readP p.position p.last ps r) pend := by
  have hp : ∀ x : Bytes × Bool, (if true = true then grown (prt r.begun) x.1 else .begun x.1) = prt (grow r x.1).begun := fun x => by
    rw [if_pos rfl, hb, grown_prt]
    unfold grow
    rw [hb]
    rfl
  have hh : (true && decide (prt r.begun = .none)) = false := by
    rw [hb, decide_eq_false (prt_some a)]
    rfl
  cases hs with
  | nil => rfl
  | one x h =>
    rw [step_of p pend true x [] r (hp x) hh]
    rfl
  | cons b l h t =>
    rw [step_of p pend true (b, true) l r (hp _) hh, readP_cons]
    refine takeA p pend t _ ?_
    rw [if_pos rfl]
    exact endP_begun
theorem takeC (p : Page) (pend : Bytes) {x : Bytes × Bool} {l : List (Bytes × Bool)} (hs : Shp l) (r : RS) (hb : r.begun = none) : takePieces p true (x :: l) (toRd r pend) = toRd (readP p.position p.last l { r with hole := true }) pend := by
  rw [← takeA p pend hs { r with hole := true } hb, takePieces]
  congr 1
  obtain ⟨b, e⟩ := x
  have hpart : (toRd r pend).part = .none := by
    show prt r.begun = .none
    rw [hb]; rfl
  simp only [hpart]
  cases e with
  | true =>
    show (_ : Rd) = _
    unfold toRd
    simp [grown, hb, prt]
  | false =>
    unfold toRd
    simp [grown, hb, prt]
theorem Shp.tail {x : Bytes × Bool} {l : List (Bytes × Bool)} (h : Shp (x :: l)) : Shp l := by
  cases h with
  | one => exact .nil
  | cons _ _ _ t => exact t
theorem readA_eq (p : Page) (pend : Bytes) (hs : Shp (pieces p.lacing p.body [])) (r : RS) (hm : p.midst = false → r.begun = none) : takePieces p p.midst (pieces p.lacing p.body []) (toRd r pend) = toRd (readA p r) pend := by
  unfold readA skips
  generalize pieces p.lacing p.body [] = ps at hs
  cases m : p.midst with
  | false =>
    simp only [Bool.false_and, Bool.false_eq_true, if_false]
    exact takeA p pend hs r (hm m)
  | true =>
    cases hb : r.begun with
    | some a =>
      simp only [Bool.true_and, Option.isNone_some, Bool.false_and, Bool.false_eq_true, if_false]
      exact takeB p pend hs r hb
    | none =>
      cases ps with
      | nil => rfl
      | cons x l =>
        simp only [Bool.true_and, Option.isNone_none, List.isEmpty_cons, Bool.not_false, if_true, List.drop_succ_cons, List.drop_zero]
        have q := takeC (x := x) p pend hs.tail r hb
        rw [hb] at q
        exact q
theorem old_eq {n q : Nat} (hn : n < 2 ^ 32) (hq : q < 2 ^ 32) : isOld (some q) n = decide ((n + 2 ^ 32 - q) % 2 ^ 32 = 0 ∨ 2 ^ 31 ≤ (n + 2 ^ 32 - q) % 2 ^ 32) := by
  have e : ((n : Int) - (q : Int)) % 4294967296 = (((n + 2 ^ 32 - q) % 2 ^ 32 : Nat) : Int) := by omega
  show (decide (((n : Int) - (q : Int)) % 4294967296 = 0) || decide (2147483648 ≤ ((n : Int) - (q : Int)) % 4294967296)) = _
  rw [e, ← Bool.decide_or]
  refine decide_eq_decide.mpr ⟨fun h => ?_, fun h => ?_⟩ <;> omega
theorem next_eq {n q : Nat} (hn : n < 2 ^ 32) (hq : q < 2 ^ 32) : (n = (q + 1) % 4294967296) ↔ (n + 2 ^ 32 - q) % 2 ^ 32 = 1 := by omega
structure RsOk (r : RS) : Prop where
  num : ∀ q, r.num = some q → q < 2 ^ 32
  pks : ∀ p ∈ r.waits, p.bytes.length ≤ 8192
  cls : r.closed = true → r.un = [] ∧ r.begun = none
theorem midst_iff (p : Page) : p.midst = false ↔ ¬ p.flags % 2 = 1 := by
  unfold Page.midst
  rw [beq_eq_false_iff_ne]
theorem first_iff (p : Page) : p.first = true ↔ p.flags / 2 % 2 = 1 := by
  unfold Page.first
  rw [beq_iff_eq]
theorem follow_begun {n fl : Nat} {r : RS} (h : ¬ fl % 2 = 1) : (followN n fl r).begun = none := by
  unfold followN
  rw [if_neg h]
  exact dropB_begun _
theorem toRd_num (r : RS) (n : Nat) (pend : Bytes) : toRd { r with num := some n } pend = { toRd r pend with number := some n } := rfl
theorem cut_num (s : Rd) (n : Nat) : Rd.cut { s with number := some n } = { s.cut with number := some n } := by
  unfold Rd.cut
  show (if s.part = .none then _ else _) = _
  by_cases h : s.part = .none
  · rw [if_pos h, if_pos h]
  · rw [if_neg h, if_neg h]; rfl
theorem follow_eq (p : Page) (pend : Bytes) (r : RS) (hn : p.number < 2 ^ 32) (hq : ∀ q, r.num = some q → q < 2 ^ 32) (d : Nat) (hd : d = match r.num with | some q => (p.number + 2 ^ 32 - q) % 2 ^ 32 | none => 1) :
    (if d ≠ 1 ∨ p.midst = false then Rd.cut { toRd r pend with number := some p.number, hole := r.hole || (r.num.isNone && !p.first) || decide (d ≠ 1) } else { toRd r pend with number := some p.number, hole := r.hole || (r.num.isNone && !p.first) || decide (d ≠ 1) })
      = toRd (followN p.number p.flags r) pend := by
  unfold followN
  rw [toRd_num]
  have key : ∀ x : RS, toRd (if p.flags % 2 = 1 then x else dropB x) pend = if p.midst = false then (toRd x pend).cut else toRd x pend := fun x => by
    by_cases h : p.flags % 2 = 1
    · rw [if_pos h, if_neg (fun z => (midst_iff p).mp z h)]
    · rw [if_neg h, if_pos ((midst_iff p).mpr h), toRd_drop]
  rw [key]
  cases hnum : r.num with
  | none =>
    rw [hnum] at hd
    simp only at hd
    subst hd
    have e1 : follow1 p.number p.flags r = { r with hole := r.hole || !p.first } := by
      unfold follow1
      rw [hnum]
      simp only []
      by_cases h : p.flags / 2 % 2 = 1
      · rw [if_pos h, (first_iff p).mpr h]
        simp
        rw [← hnum]
      · rw [if_neg h]
        have : p.first = false := by
          rw [Bool.eq_false_iff]
          exact fun z => h ((first_iff p).mp z)
        rw [this]
        simp
    rw [e1]
    have e2 : (1 ≠ 1 ∨ p.midst = false) ↔ p.midst = false := by simp
    by_cases hm : p.midst = false
    · rw [if_pos (e2.mpr hm), if_pos hm, ← cut_num]
      congr 1
      unfold toRd
      simp [hnum]
    · rw [if_neg (fun z => hm (e2.mp z)), if_neg hm]
      unfold toRd
      simp [hnum]
  | some q =>
    rw [hnum] at hd
    simp only at hd
    have nx := next_eq hn (hq q hnum)
    rw [← hd] at nx
    have e1 : follow1 p.number p.flags r = if d = 1 then r else dropB { r with hole := true } := by
      unfold follow1
      rw [hnum]
      simp only []
      by_cases h : d = 1
      · rw [if_pos h, if_pos (nx.mpr h)]
      · rw [if_neg h, if_neg (fun z => h (nx.mp z))]
    rw [e1]
    by_cases h : d = 1
    · rw [if_pos h]
      have e2 : (d ≠ 1 ∨ p.midst = false) ↔ p.midst = false := by simp [h]
      by_cases hm : p.midst = false
      · rw [if_pos (e2.mpr hm), if_pos hm, ← cut_num]
        congr 1
        unfold toRd
        simp [h]
      · rw [if_neg (fun z => hm (e2.mp z)), if_neg hm]
        unfold toRd
        simp [h]
    · rw [if_neg h, if_pos (.inl h)]
      have e3 : (if p.midst = false then (toRd (dropB { r with hole := true }) pend).cut else toRd (dropB { r with hole := true }) pend) = (toRd { r with hole := true } pend).cut := by
        by_cases hm : p.midst = false
        · rw [if_pos hm, ← toRd_drop, dropB_twice, toRd_drop]
        · rw [if_neg hm, toRd_drop]
      rw [e3, ← cut_num]
      congr 1
      unfold toRd
      simp [h]
def dist (n : Nat) : Option Nat → Nat
  | some q => (n + 2 ^ 32 - q) % 2 ^ 32
  | none => 1
theorem takePage_def (p : Page) (r : Rd) : takePage p r = if p.stream ≠ r.stream then { r with others := r.others + 1 }
  else if r.over = true ∨ dist p.number r.number = 0 ∨ 2 ^ 31 ≤ dist p.number r.number then { r with strange := r.strange + 1 }
  else if p.last = true then { (takePieces p p.midst (pieces p.lacing p.body []) (if dist p.number r.number ≠ 1 ∨ p.midst = false then Rd.cut { r with number := some p.number, taken := r.taken + 1, hole := r.hole || (r.number.isNone && !p.first) || decide (dist p.number r.number ≠ 1) } else { r with number := some p.number, taken := r.taken + 1, hole := r.hole || (r.number.isNone && !p.first) || decide (dist p.number r.number ≠ 1) })).cut with over := true }
  else takePieces p p.midst (pieces p.lacing p.body []) (if dist p.number r.number ≠ 1 ∨ p.midst = false then Rd.cut { r with number := some p.number, taken := r.taken + 1, hole := r.hole || (r.number.isNone && !p.first) || decide (dist p.number r.number ≠ 1) } else { r with number := some p.number, taken := r.taken + 1, hole := r.hole || (r.number.isNone && !p.first) || decide (dist p.number r.number ≠ 1) }) := rfl
theorem meet_eq (p : Page) (pend : Bytes) (r : RS) (hn : p.number < 2 ^ 32) (hq : ∀ q, r.num = some q → q < 2 ^ 32) (hs : Shp (pieces p.lacing p.body [])) : takePage p (toRd r pend) = toRd (meet p r) pend := by
  rw [takePage_def]
  unfold meet
  by_cases h1 : p.stream ≠ r.stream
  · rw [if_pos (show p.stream ≠ (toRd r pend).stream from h1), if_pos h1]
    rfl
  rw [if_neg (show ¬ p.stream ≠ (toRd r pend).stream from h1), if_neg h1]
  generalize hd : dist p.number (toRd r pend).number = d
  have hd' : d = match r.num with | some q => (p.number + 2 ^ 32 - q) % 2 ^ 32 | none => 1 := hd.symm
  have ho : ((toRd r pend).over = true ∨ d = 0 ∨ 2 ^ 31 ≤ d) ↔ (r.over || isOld r.num p.number) = true := by
    rw [Bool.or_eq_true]
    refine or_congr Iff.rfl ?_
    cases hnum : r.num with
    | none =>
      rw [hnum] at hd'
      simp only at hd'
      subst hd'
      show _ ↔ false = true
      simp
    | some q =>
      rw [hnum] at hd'
      simp only at hd'
      rw [old_eq hn (hq q hnum), ← hd', decide_eq_true_eq]
  simp only []
  by_cases h2 : (r.over || isOld r.num p.number) = true
  · rw [if_pos (ho.mpr h2), if_pos h2]
    rfl
  rw [if_neg (fun z => h2 (ho.mp z)), if_neg h2]
  have fe := follow_eq p pend { r with taken := r.taken + 1 } hn hq d hd'
  have fe' : (if d ≠ 1 ∨ p.midst = false then Rd.cut { toRd r pend with number := some p.number, taken := (toRd r pend).taken + 1, hole := (toRd r pend).hole || ((toRd r pend).number.isNone && !p.first) || decide (d ≠ 1) } else { toRd r pend with number := some p.number, taken := (toRd r pend).taken + 1, hole := (toRd r pend).hole || ((toRd r pend).number.isNone && !p.first) || decide (d ≠ 1) }) = toRd (followN p.number p.flags { r with taken := r.taken + 1 }) pend := fe
  rw [fe', readA_eq p pend hs _ fun z => follow_begun ((midst_iff p).mp z)]
  by_cases h3 : p.last = true
  · rw [if_pos h3, if_pos h3, ← toRd_drop]
    rfl
  · rw [if_neg h3, if_neg h3]
end LpM
end
section
set_option linter.all false
namespace LpM
open Lace
def blen (o : Option Bytes) : Nat := (o.getD []).length
def sz (r : RS) : Nat := blen r.begun + r.waits.length
theorem sz_drop (r : RS) : sz (dropB r) ≤ sz r := by
  cases h : r.begun with
  | none => rw [dropB_none h]; exact Nat.le_refl _
  | some b =>
    rw [dropB_some h]
    show 0 + r.waits.length ≤ _
    unfold sz
    omega
theorem dropB_waits (r : RS) : (dropB r).waits = r.waits := by
  cases h : r.begun with
  | none => rw [dropB_none h]
  | some b => rw [dropB_some h]
theorem dropB_un (r : RS) : (dropB r).un = r.un := by
  cases h : r.begun with
  | none => rw [dropB_none h]
  | some b => rw [dropB_some h]
theorem dropB_closed (r : RS) : (dropB r).closed = r.closed := by
  cases h : r.begun with
  | none => rw [dropB_none h]
  | some b => rw [dropB_some h]
theorem dropB_num (r : RS) : (dropB r).num = r.num := by
  cases h : r.begun with
  | none => rw [dropB_none h]
  | some b => rw [dropB_some h]
structure Keep (r r' : RS) : Prop where
  un : r'.un = r.un
  closed : r'.closed = r.closed
theorem Keep.refl (r : RS) : Keep r r := ⟨rfl, rfl⟩
theorem Keep.trans {a b c : RS} (x : Keep a b) (y : Keep b c) : Keep a c := ⟨y.un.trans x.un, y.closed.trans x.closed⟩
theorem keep_drop (r : RS) : Keep r (dropB r) := ⟨dropB_un r, dropB_closed r⟩
theorem follow1_props (n fl : Nat) (r : RS) : Keep r (follow1 n fl r) ∧ sz (follow1 n fl r) ≤ sz r ∧ (follow1 n fl r).waits = r.waits := by
  unfold follow1
  split
  · split
    · exact ⟨.refl r, Nat.le_refl _, rfl⟩
    · exact ⟨⟨rfl, rfl⟩, Nat.le_refl _, rfl⟩
  · split
    · exact ⟨.refl r, Nat.le_refl _, rfl⟩
    · exact ⟨(show Keep r { r with hole := true } from ⟨rfl, rfl⟩).trans (keep_drop _), sz_drop { r with hole := true }, dropB_waits { r with hole := true }⟩
theorem followN_props (n fl : Nat) (r : RS) : Keep r (followN n fl r) ∧ sz (followN n fl r) ≤ sz r ∧ (followN n fl r).waits = r.waits ∧ (followN n fl r).num = some n := by
  obtain ⟨k, s, w⟩ := follow1_props n fl r
  unfold followN
  by_cases h : fl % 2 = 1
  · rw [if_pos h]
    exact ⟨⟨k.un, k.closed⟩, s, w, rfl⟩
  · rw [if_neg h]
    have k2 := k.trans (keep_drop (follow1 n fl r))
    exact ⟨⟨k2.un, k2.closed⟩, Nat.le_trans (sz_drop _) s, (dropB_waits _).trans w, rfl⟩
theorem endP_props (pos : Nat) (lp il : Bool) (r : RS) : Keep r (endP pos lp il r) ∧ sz (endP pos lp il r) ≤ sz r + 1 ∧ (endP pos lp il r).num = r.num ∧ ((∀ p ∈ r.waits, p.bytes.length ≤ 8192) → ∀ p ∈ (endP pos lp il r).waits, p.bytes.length ≤ 8192) := by
  unfold endP
  split
  · exact ⟨.refl r, by omega, rfl, fun h => h⟩
  · rename_i b hb
    split
    · exact ⟨keep_drop r, by have := sz_drop r; omega, dropB_num r, fun h => by rw [dropB_waits]; exact h⟩
    · rename_i hl
      refine ⟨⟨rfl, rfl⟩, ?_, rfl, fun h p hp => ?_⟩
      · show 0 + (r.waits ++ [_]).length ≤ _
        rw [List.length_append]
        unfold sz
        show 0 + (_ + 1) ≤ _
        omega
      · rcases List.mem_append.mp hp with q | q
        · exact h p q
        · rw [List.mem_singleton.mp q]
          show b.length ≤ 8192
          have : LONGEST = 8192 := rfl
          omega
theorem sz_grow (r : RS) (b : Bytes) : sz (grow r b) = sz r + b.length := by
  show (r.begun.getD [] ++ b).length + r.waits.length = (r.begun.getD []).length + r.waits.length + b.length
  rw [List.length_append]
  omega
theorem readP_props (pos : Nat) (lp : Bool) : ∀ (ps : List (Bytes × Bool)) (r : RS), Keep r (readP pos lp ps r) ∧ sz (readP pos lp ps r) ≤ sz r + wgt ps ∧ (readP pos lp ps r).num = r.num ∧ ((∀ p ∈ r.waits, p.bytes.length ≤ 8192) → ∀ p ∈ (readP pos lp ps r).waits, p.bytes.length ≤ 8192)
  | [], r => ⟨.refl r, Nat.le_refl _, rfl, fun h => h⟩
  | x :: l, r => by
    rw [readP_cons]
    have hg := sz_grow r x.1
    have kg : Keep r (grow r x.1) := ⟨rfl, rfl⟩
    show _ ∧ _ ≤ sz r + (x.1.length + 1 + wgt l) ∧ _
    by_cases h : x.2 = true
    · rw [if_pos h]
      obtain ⟨k1, s1, n1, w1⟩ := endP_props pos lp (!(l.any fun y => y.2)) (grow r x.1)
      obtain ⟨k2, s2, n2, w2⟩ := readP_props pos lp l (endP pos lp (!(l.any fun y => y.2)) (grow r x.1))
      exact ⟨(kg.trans k1).trans k2, by omega, n2.trans n1, fun h => w2 (w1 h)⟩
    · rw [if_neg h]
      obtain ⟨k2, s2, n2, w2⟩ := readP_props pos lp l (grow r x.1)
      exact ⟨kg.trans k2, by omega, n2, w2⟩
theorem wgt_drop1 (ps : List (Bytes × Bool)) : wgt (ps.drop 1) ≤ wgt ps := by
  cases ps with
  | nil => exact Nat.le_refl _
  | cons x l => show wgt l ≤ x.1.length + 1 + wgt l; omega
theorem readA_props (p : Page) (r : RS) : Keep r (readA p r) ∧ sz (readA p r) ≤ sz r + wgt (pieces p.lacing p.body []) ∧ (readA p r).num = r.num ∧ ((∀ p ∈ r.waits, p.bytes.length ≤ 8192) → ∀ q ∈ (readA p r).waits, q.bytes.length ≤ 8192) := by
  unfold readA
  simp only []
  generalize pieces p.lacing p.body [] = ps
  split
  · obtain ⟨k, s, n, w⟩ := readP_props p.position p.last (ps.drop 1) { r with hole := true }
    have := wgt_drop1 ps
    have s : sz (readP p.position p.last (ps.drop 1) { r with hole := true }) ≤ sz r + wgt (ps.drop 1) := s
    exact ⟨⟨k.un, k.closed⟩, by omega, n, w⟩
  · exact readP_props p.position p.last ps r
theorem meet_props (p : Page) (r : RS) (hn : p.number < 2 ^ 32) : Keep r (meet p r) ∧ sz (meet p r) ≤ sz r + wgt (pieces p.lacing p.body []) ∧ ((∀ q, r.num = some q → q < 2 ^ 32) → ∀ q, (meet p r).num = some q → q < 2 ^ 32) ∧ ((∀ p ∈ r.waits, p.bytes.length ≤ 8192) → ∀ q ∈ (meet p r).waits, q.bytes.length ≤ 8192) := by
  unfold meet
  split
  · exact ⟨⟨rfl, rfl⟩, Nat.le_add_right _ _, fun h => h, fun h => h⟩
  · split
    · exact ⟨⟨rfl, rfl⟩, Nat.le_add_right _ _, fun h => h, fun h => h⟩
    · simp only []
      obtain ⟨k1, s1, w1, n1⟩ := followN_props p.number p.flags { r with taken := r.taken + 1 }
      generalize followN p.number p.flags { r with taken := r.taken + 1 } = u at k1 s1 w1 n1
      obtain ⟨k2, s2, n2, w2⟩ := readA_props p u
      generalize readA p u = v at k2 s2 n2 w2
      have s1 : sz u ≤ sz r := s1
      have k : Keep r v := (show Keep r u from ⟨k1.un, k1.closed⟩).trans k2
      have w : (∀ p ∈ r.waits, p.bytes.length ≤ 8192) → ∀ q ∈ v.waits, q.bytes.length ≤ 8192 := fun h => w2 (by rw [w1]; exact h)
      have hv : ∀ q, v.num = some q → q < 2 ^ 32 := fun q hq => by
        rw [n2, n1] at hq
        cases hq
        exact hn
      split
      · have k3 := k.trans (keep_drop v)
        refine ⟨⟨k3.un, k3.closed⟩, ?_, fun _ q hq => hv q (by rw [← dropB_num]; exact hq), fun h q hq => w h q (by rw [← dropB_waits]; exact hq)⟩
        have := sz_drop v
        show sz (dropB v) ≤ _
        omega
      · exact ⟨k, by omega, fun _ => hv, w⟩
theorem unle_lt : ∀ b : Bytes, unle b < 256 ^ b.length
  | [] => by show 0 < 1; decide
  | c :: r => by
    have h1 := unle_lt r
    have h2 := b_lt c
    rw [unle_cons, List.length_cons, Nat.pow_succ]
    omega
theorem unle4 (b : Bytes) (i : Nat) : unle ((b.drop i).take 4) < 2 ^ 32 := by
  have h := unle_lt ((b.drop i).take 4)
  have l : ((b.drop i).take 4).length ≤ 4 := by rw [List.length_take]; omega
  have : 256 ^ ((b.drop i).take 4).length ≤ 256 ^ 4 := Nat.pow_le_pow_right (by decide) l
  have e : (256 : Nat) ^ 4 = 2 ^ 32 := by decide
  omega
theorem page_num (b : Bytes) : (pageOf b).number < 2 ^ 32 := unle4 b 18
theorem judge_nil : judge [] = .short := by decide
theorem judge_page {c : Bytes} {k : Nat} (h : judge c = .page k) : k = lengthOf c ∧ 27 ≤ k ∧ k ≤ c.length ∧ byteAt c 26 ≤ 16 := by
  unfold judge at h
  split at h
  · cases h
  · rename_i h1
    split at h
    · cases h
    · rename_i h2
      split at h
      · injection h with h
        subst h
        have hh : 27 ≤ headOf c := Nat.le_add_right _ _
        have hl := head_le c
        have hv : VALUES = 16 := rfl
        refine ⟨rfl, by omega, by omega, ?_⟩
        by_cases g : byteAt c 26 ≤ 16
        · exact g
        · exact absurd (.inr (.inr ⟨by omega, by omega⟩)) h1
      · cases h
theorem take_get {c : Bytes} {k i : Nat} (h : i < k) : (c.take k)[i]? = c[i]? := by
  rw [List.getElem?_take_of_lt h]
theorem byteAt_take {c : Bytes} {k i : Nat} (h : i < k) : byteAt (c.take k) i = byteAt c i := by
  unfold byteAt
  rw [List.getD_eq_getElem?_getD, List.getD_eq_getElem?_getD, take_get h]
theorem cut_in {c : Bytes} {k i n : Nat} (h : i + n ≤ k) : ((c.take k).drop i).take n = (c.drop i).take n := by
  rw [List.drop_take, List.take_take, Nat.min_eq_left (by omega)]
theorem page_alone {c : Bytes} {k : Nat} (h : judge c = .page k) : lengthOf (c.take k) = k ∧ headOf (c.take k) = headOf c ∧ pageOf (c.take k) = pageOf c := by
  obtain ⟨e, h27, hk, h16⟩ := judge_page h
  have b26 : byteAt (c.take k) 26 = byteAt c 26 := byteAt_take (by omega)
  have hh : headOf (c.take k) = headOf c := by unfold headOf; rw [b26]
  have hle := head_le c
  have hl : lacingOf (c.take k) = lacingOf c := by
    unfold lacingOf
    rw [b26, cut_in]
    have : headOf c = 27 + byteAt c 26 := rfl
    omega
  have hL : lengthOf (c.take k) = lengthOf c := by unfold lengthOf; rw [hh, hl]
  refine ⟨by rw [hL, e], hh, ?_⟩
  unfold pageOf
  rw [byteAt_take (by omega), cut_in (by omega), cut_in (by omega), cut_in (by omega), hl, hL, hh, List.take_take, ← e, Nat.min_self]
theorem take_len {c : Bytes} {k : Nat} (h : judge c = .page k) : (c.take k).length = k := by
  obtain ⟨_, _, hk, _⟩ := judge_page h
  rw [List.length_take, Nat.min_eq_left hk]
def run : Nat → Bytes → Nat → RS → Nat × RS
  | 0, _, s, r => (s, r)
  | n + 1, U, s, r => match judge (U.drop s) with
    | .short => (s, r)
    | .wrong => run n U (s + 1) { r with passed := r.passed + 1 }
    | .page k => run n U (s + k) (meet (pageOf ((U.drop s).take k)) r)
theorem run_short {n : Nat} {U : Bytes} {s : Nat} {r : RS} (h : judge (U.drop s) = .short) : run (n + 1) U s r = (s, r) := by
  show (match judge (U.drop s) with | .short => (s, r) | .wrong => _ | .page k => _) = _
  rw [h]
theorem run_wrong {n : Nat} {U : Bytes} {s : Nat} {r : RS} (h : judge (U.drop s) = .wrong) : run (n + 1) U s r = run n U (s + 1) { r with passed := r.passed + 1 } := by
  show (match judge (U.drop s) with | .short => (s, r) | .wrong => run n U (s + 1) { r with passed := r.passed + 1 } | .page k => _) = _
  rw [h]
theorem run_page {n : Nat} {U : Bytes} {s k : Nat} {r : RS} (h : judge (U.drop s) = .page k) : run (n + 1) U s r = run n U (s + k) (meet (pageOf ((U.drop s).take k)) r) := by
  show (match judge (U.drop s) with | .short => (s, r) | .wrong => _ | .page k => run n U (s + k) (meet (pageOf ((U.drop s).take k)) r)) = _
  rw [h]
theorem judge_wrong_lt {U : Bytes} {s : Nat} (h : judge (U.drop s) = .wrong) : s < U.length := by
  by_cases g : s < U.length
  · exact g
  · rw [List.drop_of_length_le (by omega), judge_nil] at h
    cases h
theorem judge_page_le {U : Bytes} {s k : Nat} (h : judge (U.drop s) = .page k) : 27 ≤ k ∧ s + k ≤ U.length := by
  obtain ⟨_, h1, h2, _⟩ := judge_page h
  rw [List.length_drop] at h2
  omega
theorem settle_nil (n : Nat) {r : Rd} (h : r.pend = []) : settle n r = r := by
  cases n with
  | zero => rfl
  | succ n =>
    show (if r.pend = [] then r else _) = r
    rw [if_pos h]
theorem settle_run (U : Bytes) : ∀ (n m s : Nat) (r : RS), U.length < n + s → U.length < m + s → (∀ q, r.num = some q → q < 2 ^ 32) → settle m (toRd r (U.drop s)) = toRd (run n U s r).2 (U.drop (run n U s r).1)
  | 0, m, s, r, hn, hm, _ => by
    have e : U.drop s = [] := List.drop_of_length_le (by omega)
    rw [settle_nil m (show (toRd r (U.drop s)).pend = [] from e)]
    rfl
  | n + 1, 0, s, r, hn, hm, _ => by
    have e : U.drop s = [] := List.drop_of_length_le (by omega)
    rw [run_short (by rw [e]; exact judge_nil)]
    rfl
  | n + 1, m + 1, s, r, hn, hm, hq => by
    by_cases he : U.drop s = []
    · rw [settle_nil (m + 1) (show (toRd r (U.drop s)).pend = [] from he), run_short (by rw [he]; exact judge_nil)]
    · have st : settle (m + 1) (toRd r (U.drop s)) = match judge (U.drop s) with
          | .short => toRd r (U.drop s)
          | .wrong => settle m (toRd { r with passed := r.passed + 1 } ((U.drop s).drop 1))
          | .page k => settle m (takePage (pageOf (U.drop s)) (toRd r ((U.drop s).drop k))) := by
        show (if U.drop s = [] then _ else _) = _
        rw [if_neg he]
        rfl
      rw [st]
      cases hj : judge (U.drop s) with
      | short => rw [run_short hj]
      | wrong =>
        rw [run_wrong hj]
        simp only []
        rw [List.drop_drop]
        exact settle_run U n m (s + 1) { r with passed := r.passed + 1 } (by omega) (by omega) hq
      | page k =>
        obtain ⟨e, h27, hk, h16⟩ := judge_page hj
        rw [run_page hj]
        simp only []
        obtain ⟨p1, p2, p3⟩ := page_alone hj
        rw [p3, meet_eq _ _ r (page_num _) hq (page_shp h16), List.drop_drop]
        exact settle_run U n m (s + k) _ (by omega) (by omega) ((meet_props _ r (page_num _)).2.2.1 hq)
structure RunOk (r : RS) : Prop where
  num : ∀ q, r.num = some q → q < 2 ^ 32
  pks : ∀ p ∈ r.waits, p.bytes.length ≤ 8192
theorem run_props (U : Bytes) : ∀ (n s : Nat) (r : RS), s ≤ U.length → RunOk r → RunOk (run n U s r).2 ∧ Keep r (run n U s r).2 ∧ s ≤ (run n U s r).1 ∧ (run n U s r).1 ≤ U.length ∧ sz (run n U s r).2 + (U.length - (run n U s r).1) ≤ sz r + (U.length - s)
  | 0, s, r, hs, ok => ⟨ok, .refl r, Nat.le_refl _, hs, Nat.le_refl _⟩
  | n + 1, s, r, hs, ok => by
    cases hj : judge (U.drop s) with
    | short =>
      rw [run_short hj]
      exact ⟨ok, .refl r, Nat.le_refl _, hs, Nat.le_refl _⟩
    | wrong =>
      have hl := judge_wrong_lt hj
      rw [run_wrong hj]
      obtain ⟨a, b, c, d, e⟩ := run_props U n (s + 1) { r with passed := r.passed + 1 } (by omega) ⟨ok.num, ok.pks⟩
      have e : _ ≤ sz r + (U.length - (s + 1)) := e
      exact ⟨a, ⟨b.un, b.closed⟩, by omega, d, by omega⟩
    | page k =>
      obtain ⟨h27, hk⟩ := judge_page_le hj
      rw [run_page hj]
      obtain ⟨k1, s1, n1, w1⟩ := meet_props (pageOf ((U.drop s).take k)) r (page_num _)
      have hw := page_wgt ((U.drop s).take k)
      rw [(page_alone hj).1] at hw
      obtain ⟨a, b, c, d, e⟩ := run_props U n (s + k) (meet (pageOf ((U.drop s).take k)) r) hk ⟨n1 ok.num, w1 ok.pks⟩
      exact ⟨a, k1.trans b, by omega, d, by omega⟩
def judgeU (r : RS) : RS := { (run (r.un.length + 1) r.un 0 r).2 with un := r.un.drop (run (r.un.length + 1) r.un 0 r).1 }
theorem judgeU_eq (r : RS) (hq : ∀ q, r.num = some q → q < 2 ^ 32) (m : Nat) (hm : r.un.length < m) : settle m (toRd r r.un) = toRd (judgeU r) (judgeU r).un := by
  have h := settle_run r.un (r.un.length + 1) m 0 r (by omega) (by omega) hq
  rw [List.drop_zero] at h
  exact h
theorem judgeU_props (r : RS) (ok : RunOk r) : RunOk (judgeU r) ∧ (judgeU r).closed = r.closed ∧ (judgeU r).un.length ≤ r.un.length ∧ sz (judgeU r) + (judgeU r).un.length ≤ sz r + r.un.length := by
  obtain ⟨a, b, c, d, e⟩ := run_props r.un (r.un.length + 1) 0 r (Nat.zero_le _) ok
  have l : (judgeU r).un.length = r.un.length - (run (r.un.length + 1) r.un 0 r).1 := by
    show (r.un.drop _).length = _
    rw [List.length_drop]
  have s : sz (judgeU r) = sz (run (r.un.length + 1) r.un 0 r).2 := rfl
  exact ⟨⟨a.num, a.pks⟩, b.closed, by omega, by omega⟩
def feedB (r : RS) (c : UInt8) : RS := judgeU { r with un := r.un ++ [c] }
def feedC : RS → Bytes → Nat × RS
  | r, [] => (0, r)
  | r, c :: l => if r.waits ≠ [] ∨ r.closed = true then (0, r) else ((feedC (feedB r c) l).1 + 1, (feedC (feedB r c) l).2)
theorem feedB_props (r : RS) (c : UInt8) (ok : RunOk r) : RunOk (feedB r c) ∧ (feedB r c).closed = r.closed ∧ sz (feedB r c) + (feedB r c).un.length ≤ sz r + r.un.length + 1 := by
  obtain ⟨a, b, _, d⟩ := judgeU_props { r with un := r.un ++ [c] } ⟨ok.num, ok.pks⟩
  refine ⟨a, b, ?_⟩
  have d : _ ≤ sz r + (r.un ++ [c]).length := d
  rw [List.length_append] at d
  exact d
theorem feedOne_eq (r : RS) (c : UInt8) (ok : RunOk r) : feedOne (toRd r r.un) c = toRd (feedB r c) (feedB r c).un := by
  have h := judgeU_eq { r with un := r.un ++ [c] } ok.num (r.un.length + 2) (by show (r.un ++ [c]).length < _; rw [List.length_append]; show r.un.length + 1 < _; omega)
  exact h
theorem feed_eq : ∀ (l : Bytes) (r : RS), RunOk r → Lace.feed (toRd r r.un) l = ((feedC r l).1, toRd (feedC r l).2 (feedC r l).2.un)
  | [], r, _ => rfl
  | c :: l, r, ok => by
    show (if r.waits ≠ [] ∨ r.closed = true then _ else _) = _
    unfold feedC
    by_cases h : r.waits ≠ [] ∨ r.closed = true
    · rw [if_pos h, if_pos h]
    · rw [if_neg h, if_neg h, feedOne_eq r c ok, feed_eq l (feedB r c) (feedB_props r c ok).1]
theorem feedC_props : ∀ (l : Bytes) (r : RS), RunOk r → RunOk (feedC r l).2 ∧ (feedC r l).2.closed = r.closed ∧ (r.closed = true → (feedC r l).2 = r) ∧ sz (feedC r l).2 + (feedC r l).2.un.length ≤ sz r + r.un.length + l.length
  | [], r, ok => ⟨ok, rfl, fun _ => rfl, Nat.le_refl _⟩
  | c :: l, r, ok => by
    unfold feedC
    by_cases h : r.waits ≠ [] ∨ r.closed = true
    · rw [if_pos h]
      exact ⟨ok, rfl, fun _ => rfl, Nat.le_add_right _ _⟩
    · rw [if_neg h]
      obtain ⟨a, b, d⟩ := feedB_props r c ok
      obtain ⟨a2, b2, c2, d2⟩ := feedC_props l (feedB r c) a
      refine ⟨a2, b2.trans b, fun z => absurd (.inr z) h, ?_⟩
      rw [List.length_cons]
      show sz (feedC (feedB r c) l).2 + (feedC (feedB r c) l).2.un.length ≤ _
      omega
def tailB (r : RS) : RS := judgeU { r with un := r.un.drop 1, passed := r.passed + 1 }
def tailC : Nat → RS → RS
  | 0, r => r
  | n + 1, r => if r.un = [] then r else tailC n (tailB r)
def closeC (r : RS) : RS := dropB (tailC (r.un.length + 1) { r with closed := true })
theorem tailB_props (r : RS) (h : r.un ≠ []) (ok : RunOk r) : RunOk (tailB r) ∧ (tailB r).closed = r.closed ∧ (tailB r).un.length < r.un.length ∧ sz (tailB r) + (tailB r).un.length < sz r + r.un.length := by
  obtain ⟨a, b, c, d⟩ := judgeU_props { r with un := r.un.drop 1, passed := r.passed + 1 } ⟨ok.num, ok.pks⟩
  have hl : 0 < r.un.length := List.length_pos_iff.mpr h
  have c : (tailB r).un.length ≤ (r.un.drop 1).length := c
  have d : sz (tailB r) + (tailB r).un.length ≤ sz r + (r.un.drop 1).length := d
  rw [List.length_drop] at c d
  exact ⟨a, b, by omega, by omega⟩
theorem tail_eq : ∀ (n : Nat) (r : RS), RunOk r → tail n (toRd r r.un) = toRd (tailC n r) (tailC n r).un
  | 0, r, _ => rfl
  | n + 1, r, ok => by
    unfold tailC
    show (if r.un = [] then _ else _) = _
    by_cases h : r.un = []
    · rw [if_pos h, if_pos h]
    · rw [if_neg h, if_neg h]
      have e : settle ((toRd r r.un).pend.length + 1) { toRd r r.un with pend := (toRd r r.un).pend.drop 1, passed := (toRd r r.un).passed + 1 } = toRd (tailB r) (tailB r).un :=
        judgeU_eq { r with un := r.un.drop 1, passed := r.passed + 1 } ok.num (r.un.length + 1) (by show (r.un.drop 1).length < _; rw [List.length_drop]; omega)
      rw [e]
      exact tail_eq n (tailB r) (tailB_props r h ok).1
theorem tailC_props : ∀ (n : Nat) (r : RS), RunOk r → RunOk (tailC n r) ∧ (tailC n r).closed = r.closed ∧ sz (tailC n r) + (tailC n r).un.length ≤ sz r + r.un.length ∧ (r.un.length < n → (tailC n r).un = [])
  | 0, r, ok => ⟨ok, rfl, Nat.le_refl _, fun h => absurd h (Nat.not_lt_zero _)⟩
  | n + 1, r, ok => by
    unfold tailC
    by_cases h : r.un = []
    · rw [if_pos h]
      exact ⟨ok, rfl, Nat.le_refl _, fun _ => h⟩
    · rw [if_neg h]
      obtain ⟨a, b, c, d⟩ := tailB_props r h ok
      obtain ⟨a2, b2, c2, d2⟩ := tailC_props n (tailB r) a
      exact ⟨a2, b2.trans b, by omega, fun z => d2 (by omega)⟩
end LpM
end
section
set_option linter.all false
namespace LpM
open Lace
def cl (r : Rd) : Rd := { r with closed := true }
theorem cut_cl (r : Rd) : (cl r).cut = cl r.cut := by
  unfold Rd.cut
  show (if r.part = .none then _ else _) = _
  by_cases h : r.part = .none
  · rw [if_pos h, if_pos h]
  · rw [if_neg h, if_neg h]; rfl
theorem takePieces_cl (p : Page) : ∀ (l : List (Bytes × Bool)) (m : Bool) (r : Rd), takePieces p m l (cl r) = cl (takePieces p m l r)
  | [], m, r => rfl
  | x :: l, m, r => by
    rw [takePieces, takePieces, ← takePieces_cl p l]
    congr 1
    obtain ⟨b, e⟩ := x
    cases e with
    | false => rfl
    | true =>
      simp only [if_true]
      have hp : (cl r).part = r.part := rfl
      rw [hp]
      generalize (if m = true then grown r.part b else .begun b) = q
      cases q <;> rfl
def mid0 (p : Page) (r : Rd) : Rd := { r with number := some p.number, taken := r.taken + 1, hole := r.hole || (r.number.isNone && !p.first) || decide (dist p.number r.number ≠ 1) }
def mid (p : Page) (r : Rd) : Rd := if dist p.number r.number ≠ 1 ∨ p.midst = false then (mid0 p r).cut else mid0 p r
def fin (p : Page) (u : Rd) : Rd := if p.last = true then { u.cut with over := true } else u
theorem takePage_mid (p : Page) (r : Rd) : takePage p r = if p.stream ≠ r.stream then { r with others := r.others + 1 }
  else if r.over = true ∨ dist p.number r.number = 0 ∨ 2 ^ 31 ≤ dist p.number r.number then { r with strange := r.strange + 1 }
  else fin p (takePieces p p.midst (pieces p.lacing p.body []) (mid p r)) := rfl
theorem mid_cl (p : Page) (r : Rd) : mid p (cl r) = cl (mid p r) := by
  unfold mid
  show (if dist p.number r.number ≠ 1 ∨ p.midst = false then (cl (mid0 p r)).cut else cl (mid0 p r)) = _
  by_cases h : dist p.number r.number ≠ 1 ∨ p.midst = false
  · rw [if_pos h, if_pos h, ← cut_cl]
  · rw [if_neg h, if_neg h]
theorem fin_cl (p : Page) (r : Rd) : fin p (cl r) = cl (fin p r) := by
  unfold fin
  by_cases h : p.last = true
  · rw [if_pos h, if_pos h, cut_cl]; rfl
  · rw [if_neg h, if_neg h]
theorem takePage_cl (p : Page) (r : Rd) : takePage p (cl r) = cl (takePage p r) := by
  rw [takePage_mid, takePage_mid]
  by_cases h1 : p.stream ≠ r.stream
  · rw [if_pos (show p.stream ≠ (cl r).stream from h1), if_pos h1]; rfl
  rw [if_neg (show ¬ p.stream ≠ (cl r).stream from h1), if_neg h1]
  by_cases h2 : r.over = true ∨ dist p.number r.number = 0 ∨ 2 ^ 31 ≤ dist p.number r.number
  · rw [if_pos (show (cl r).over = true ∨ dist p.number (cl r).number = 0 ∨ 2 ^ 31 ≤ dist p.number (cl r).number from h2), if_pos h2]; rfl
  rw [if_neg (show ¬ ((cl r).over = true ∨ dist p.number (cl r).number = 0 ∨ 2 ^ 31 ≤ dist p.number (cl r).number) from h2), if_neg h2, mid_cl, takePieces_cl, fin_cl]
theorem settle_cl : ∀ (n : Nat) (r : Rd), settle n (cl r) = cl (settle n r)
  | 0, r => rfl
  | n + 1, r => by
    show (if r.pend = [] then cl r else match judge r.pend with | .short => cl r | .wrong => settle n (cl { r with pend := r.pend.drop 1, passed := r.passed + 1 }) | .page k => settle n (takePage (pageOf r.pend) (cl { r with pend := r.pend.drop k }))) = cl (if r.pend = [] then r else match judge r.pend with | .short => r | .wrong => settle n { r with pend := r.pend.drop 1, passed := r.passed + 1 } | .page k => settle n (takePage (pageOf r.pend) { r with pend := r.pend.drop k }))
    by_cases h : r.pend = []
    · rw [if_pos h, if_pos h]
    · rw [if_neg h, if_neg h]
      cases judge r.pend with
      | short => rfl
      | wrong => exact settle_cl n _
      | page k =>
        simp only []
        rw [takePage_cl, settle_cl n]
theorem tail_cl : ∀ (n : Nat) (r : Rd), tail n (cl r) = cl (tail n r)
  | 0, r => rfl
  | n + 1, r => by
    show (if r.pend = [] then cl r else tail n (settle (r.pend.length + 1) (cl { r with pend := r.pend.drop 1, passed := r.passed + 1 }))) = cl (if r.pend = [] then r else tail n (settle (r.pend.length + 1) { r with pend := r.pend.drop 1, passed := r.passed + 1 }))
    by_cases h : r.pend = []
    · rw [if_pos h, if_pos h]
    · rw [if_neg h, if_neg h, settle_cl, tail_cl n]
theorem RsOk.run {r : RS} (h : RsOk r) : RunOk r := ⟨h.num, h.pks⟩
theorem close_eq (r : RS) (ok : RsOk r) : Lace.close (toRd r r.un) = toRd (closeC r) (closeC r).un := by
  unfold Lace.close
  have e : toRd (closeC r) (closeC r).un = cl (tail (r.un.length + 1) (toRd r r.un)).cut := by
    have h1 : (closeC r).un = (tailC (r.un.length + 1) { r with closed := true }).un := dropB_un _
    have h2 := tail_eq (r.un.length + 1) { r with closed := true } ⟨ok.num, ok.pks⟩
    have h2 : tail (r.un.length + 1) (cl (toRd r r.un)) = _ := h2
    rw [h1]
    unfold closeC
    rw [toRd_drop, ← h2, tail_cl, cut_cl]
  by_cases hc : r.closed = true
  · rw [if_pos (show (toRd r r.un).closed = true from hc), e]
    obtain ⟨hu, hb⟩ := ok.cls hc
    have t : tail (r.un.length + 1) (toRd r r.un) = toRd r r.un := by
      show (if r.un = [] then toRd r r.un else _) = _
      rw [if_pos hu]
    rw [t]
    have c : (toRd r r.un).cut = toRd r r.un := by
      unfold Rd.cut
      rw [if_pos]
      show prt r.begun = .none
      rw [hb]; rfl
    rw [c]
    unfold cl toRd
    rw [hc]
  · rw [if_neg (show ¬ (toRd r r.un).closed = true from hc), e]
    rfl
theorem closeC_ok (r : RS) (ok : RsOk r) : RsOk (closeC r) ∧ sz (closeC r) + (closeC r).un.length ≤ sz r + r.un.length := by
  obtain ⟨a, b, c, d⟩ := tailC_props (r.un.length + 1) { r with closed := true } ⟨ok.num, ok.pks⟩
  have hu : (closeC r).un = [] := (dropB_un _).trans (d (Nat.lt_succ_self _))
  refine ⟨⟨fun q hq => a.num q (by rw [← dropB_num]; exact hq), fun p hp => a.pks p (by rw [← dropB_waits]; exact hp), fun _ => ⟨hu, dropB_begun _⟩⟩, ?_⟩
  have s := sz_drop (tailC (r.un.length + 1) { r with closed := true })
  have c : _ ≤ sz r + r.un.length := c
  show sz (dropB _) + (closeC r).un.length ≤ _
  rw [hu]
  show _ + 0 ≤ _
  omega
theorem feedC_ok (r : RS) (l : Bytes) (ok : RsOk r) : RsOk (feedC r l).2 ∧ sz (feedC r l).2 + (feedC r l).2.un.length ≤ sz r + r.un.length + l.length := by
  obtain ⟨a, b, c, d⟩ := feedC_props l r ok.run
  refine ⟨⟨a.num, a.pks, fun h => ?_⟩, d⟩
  rw [b] at h
  rw [c h]
  exact ok.cls h
theorem init_ok (n : Nat) : RsOk (rsInit n) := by
  refine ⟨fun q h => ?_, fun p h => ?_, fun h => ?_⟩
  · exact absurd h (by intro z; cases z)
  · exact absurd h (List.not_mem_nil)
  · exact absurd h (by intro z; cases z)
end LpM
end
section
set_option linter.all false
namespace LpM
open Lace
def layX (pos : Nat) (ends : Bool) (v : Nat) (c : Bytes) (w : Wr) : Wr := { w with lacing := w.lacing ++ [v], body := w.body ++ c, position := if ends = true then pos else w.position }
def layS (pos : Nat) (last ends : Bool) (v : Nat) (c : Bytes) (w : Wr) : Wr := if (layX pos ends v c w).lacing.length = VALUES ∨ (ends = true ∧ last = true) then (layX pos ends v c w).done (ends && last) (!ends) else layX pos ends v c w
theorem lay_cons (pos : Nat) (last : Bool) (w : Wr) (v : Nat) (l : List Nat) (b : Bytes) : lay pos last w (v :: l) b = lay pos last (layS pos last l.isEmpty v (b.take v) w) l (b.drop v) := by
  show (if (layX pos l.isEmpty v (b.take v) w).lacing.length = VALUES ∨ (l.isEmpty = true ∧ last = true) then lay pos last ((layX pos l.isEmpty v (b.take v) w).done (l.isEmpty && last) (!l.isEmpty)) l (b.drop v) else lay pos last (layX pos l.isEmpty v (b.take v) w) l (b.drop v)) = _
  unfold layS
  by_cases h : (layX pos l.isEmpty v (b.take v) w).lacing.length = VALUES ∨ (l.isEmpty = true ∧ last = true)
  · rw [if_pos h, if_pos h]
  · rw [if_neg h, if_neg h]
theorem layS_ended (pos : Nat) (last ends : Bool) (v : Nat) (c : Bytes) (w : Wr) (e : Bool) : layS pos last ends v c { w with ended := e } = { layS pos last ends v c w with ended := e } := by
  unfold layS
  show (if (layX pos ends v c w).lacing.length = VALUES ∨ (ends = true ∧ last = true) then _ else _) = _
  by_cases h : (layX pos ends v c w).lacing.length = VALUES ∨ (ends = true ∧ last = true)
  · rw [if_pos h, if_pos h]; rfl
  · rw [if_neg h, if_neg h]; rfl
theorem lay_ended (pos : Nat) (last : Bool) (e : Bool) : ∀ (vs : List Nat) (w : Wr) (b : Bytes), lay pos last { w with ended := e } vs b = { lay pos last w vs b with ended := e }
  | [], w, b => rfl
  | v :: l, w, b => by
    rw [lay_cons, lay_cons, layS_ended, lay_ended pos last e l]
theorem values_len (n : Nat) : (values n).length = n / 255 + 1 := by
  unfold values
  rw [List.length_append, List.length_replicate]
  rfl
theorem values_at {n i v : Nat} (h : (values n)[i]? = some v) : v ≤ 255 ∧ ((values n).drop (i + 1)).isEmpty = decide (v < 255) := by
  have hl := (List.getElem?_eq_some_iff.mp h).1
  rw [values_len] at hl
  by_cases g : i < n / 255
  · have e : v = 255 := by
      unfold values at h
      rw [List.getElem?_append_left (by rw [List.length_replicate]; exact g), List.getElem?_replicate, if_pos g] at h
      exact (Option.some.inj h).symm
    subst e
    refine ⟨Nat.le_refl _, ?_⟩
    rw [decide_eq_false (by omega), List.isEmpty_eq_false_iff]
    intro z
    have := congrArg List.length z
    rw [List.length_drop, values_len] at this
    have h0 : ([] : List Nat).length = 0 := rfl
    omega
  · have e : v = n % 255 := by
      unfold values at h
      rw [List.getElem?_append_right (by rw [List.length_replicate]; omega), List.length_replicate, show i - n / 255 = 0 by omega] at h
      exact (Option.some.inj h).symm
    have hv : v < 255 := by omega
    refine ⟨by omega, ?_⟩
    rw [decide_eq_true hv, List.isEmpty_iff]
    exact List.drop_of_length_le (by rw [values_len]; omega)
theorem raw_len (p : Page) (n : Nat) : (raw p n).length = 27 + p.lacing.length + p.body.length := by
  unfold raw
  simp only [List.length_append, le_length, List.length_map]
  show 5 + 1 + 8 + 4 + 4 + 4 + 1 + _ + _ = _
  omega
theorem encode_len (p : Page) : (encode p).length = 27 + p.lacing.length + p.body.length := raw_len p _
structure WrL (x : Wr) : Prop where
  small : ∀ v ∈ x.lacing, v < 256
  len : x.lacing.length < 16
  body : x.body.length ≤ 255 * x.lacing.length
structure WrX (x : Wr) : Prop where
  small : ∀ v ∈ x.lacing, v < 256
  len : x.lacing.length ≤ 16
  body : x.body.length ≤ 255 * x.lacing.length
theorem layX_ok {pos : Nat} {ends : Bool} {v : Nat} {c : Bytes} {w : Wr} (h : WrL w) (hv : v ≤ 255) (hc : c.length ≤ v) : WrX (layX pos ends v c w) := by
  have l : (layX pos ends v c w).lacing = w.lacing ++ [v] := rfl
  have b : (layX pos ends v c w).body = w.body ++ c := rfl
  refine ⟨fun x hx => ?_, ?_, ?_⟩
  · rw [l] at hx
    rcases List.mem_append.mp hx with q | q
    · exact h.small x q
    · rw [List.mem_singleton.mp q]; omega
  · rw [l, List.length_append]
    have := h.len
    show _ + 1 ≤ 16
    omega
  · rw [l, b, List.length_append, List.length_append]
    have := h.body
    show _ ≤ 255 * (_ + 1)
    omega
theorem done_ok (x : Wr) (a b : Bool) : WrL (x.done a b) := ⟨fun v h => absurd h List.not_mem_nil, by show 0 < 16; decide, Nat.le_refl _⟩
theorem done_pgs {x : Wr} {a b : Bool} (h : WrX x) (hp : ∀ c ∈ x.waits, c.length ≤ 5000) : ∀ c ∈ (x.done a b).waits, c.length ≤ 5000 := fun c hc => by
  have hc : c ∈ x.waits ++ [_] := hc
  rcases List.mem_append.mp hc with q | q
  · exact hp c q
  · rw [List.mem_singleton.mp q, encode_len]
    have h1 := h.len
    have h2 := h.body
    show 27 + x.lacing.length + x.body.length ≤ 5000
    omega
theorem layS_pgs {pos : Nat} {last ends : Bool} {v : Nat} {c : Bytes} {w : Wr} (h : WrL w) (hv : v ≤ 255) (hc : c.length ≤ v) (hp : ∀ c ∈ w.waits, c.length ≤ 5000) : ∀ d ∈ (layS pos last ends v c w).waits, d.length ≤ 5000 := by
  have hx := layX_ok (pos := pos) (ends := ends) h hv hc
  unfold layS
  split
  · exact done_pgs hx hp
  · exact hp
theorem layS_ok {pos : Nat} {last ends : Bool} {v : Nat} {c : Bytes} {w : Wr} (h : WrL w) (hv : v ≤ 255) (hc : c.length ≤ v) : WrL (layS pos last ends v c w) ∧ (layS pos last ends v c w).waits.length ≤ w.waits.length + 1 ∧ (layS pos last ends v c w).ended = w.ended ∧ (v ≠ 255 → ∀ l u, (layS pos last ends v c w).lacing = l ++ [u] → u ≠ 255) := by
  have hx := layX_ok (pos := pos) (ends := ends) h hv hc
  unfold layS
  by_cases g : (layX pos ends v c w).lacing.length = VALUES ∨ (ends = true ∧ last = true)
  · rw [if_pos g]
    refine ⟨done_ok _ _ _, ?_, rfl, fun _ l u z => ?_⟩
    · show (w.waits ++ [_]).length ≤ _
      rw [List.length_append]
      exact Nat.le_refl _
    · have z : ([] : List Nat) = l ++ [u] := z
      simp at z
  · rw [if_neg g]
    have hl := hx.len
    have hV : VALUES = 16 := rfl
    refine ⟨⟨hx.small, by omega, hx.body⟩, Nat.le_succ _, rfl, fun nv l u z => ?_⟩
    have z : w.lacing ++ [v] = l ++ [u] := z
    obtain ⟨_, e⟩ := List.append_inj' z rfl
    have e : v = u := by injection e
    rw [← e]; exact nv
structure PutInv (pos : Nat) (last : Bool) (w0 : Wr) (n : Nat) (b : Bytes) (i : Nat) (w : Wr) (st : Nat) : Prop where
  eq : lay pos last w0 (values n) b = lay pos last w ((values n).drop i) (b.drop st)
  ok : WrL w
  waits : w.waits.length ≤ w0.waits.length + i
  ended : w.ended = w0.ended
  pgs : ∀ c ∈ w.waits, c.length ≤ 5000
  fin : (values n).drop i = [] → ∀ l v, w.lacing = l ++ [v] → v ≠ 255
theorem PutInv.start {pos : Nat} {last : Bool} {w0 : Wr} {n : Nat} {b : Bytes} (ok : WrL w0) (hp : ∀ c ∈ w0.waits, c.length ≤ 5000) : PutInv pos last w0 n b 0 w0 0 := ⟨rfl, ok, Nat.le_refl _, rfl, hp, fun h => by
  have := congrArg List.length h
  rw [List.drop_zero, values_len] at this
  exact absurd this (Nat.succ_ne_zero _)⟩
theorem PutInv.step {pos : Nat} {last : Bool} {w0 : Wr} {n : Nat} {b : Bytes} {i : Nat} {w : Wr} {st v : Nat} (h : PutInv pos last w0 n b i w st) (hv : (values n)[i]? = some v) : PutInv pos last w0 n b (i + 1) (layS pos last (decide (v < 255)) v ((b.drop st).take v) w) (st + v) := by
  obtain ⟨h1, h2⟩ := values_at hv
  have hc : ((b.drop st).take v).length ≤ v := by rw [List.length_take]; omega
  obtain ⟨a1, a2, a3, a4⟩ := layS_ok (pos := pos) (last := last) (ends := decide (v < 255)) h.ok h1 hc
  refine ⟨?_, a1, by have := h.waits; omega, a3.trans h.ended, layS_pgs h.ok h1 hc h.pgs, fun z => ?_⟩
  · rw [h.eq, drop_at hv, lay_cons, h2, List.drop_drop]
  · rw [z] at h2
    have : v < 255 := of_decide_eq_true h2.symm
    exact a4 (by omega)
theorem PutInv.last_ {pos : Nat} {last : Bool} {w0 : Wr} {n : Nat} {b : Bytes} {w : Wr} {st : Nat} (h : PutInv pos last w0 n b (values n).length w st) : lay pos last w0 (values n) b = w ∧ ∀ l v, w.lacing = l ++ [v] → v ≠ 255 := by
  have e : (values n).drop (values n).length = [] := List.drop_length
  refine ⟨?_, h.fin e⟩
  rw [h.eq, e]
  rfl
end LpM
end
section
set_option Elab.async false
set_option linter.all false
set_option maxRecDepth 100000
set_option maxHeartbeats 2000000
namespace Lp
open PySem PySem.Spec PyProof.Rows L2
def top (i : Nat) : Stmt := PySem.Challenge.pw_lacedpages_s01_answers.main.body.getD i (.Pass ⟨0, 0, 0, 0⟩)
def Cst (mg : Str → Option Value) (x : Str) (i : Int) : Prop := ∃ u, mg x = some u ∧ RelV (.int i) u
structure Has (P : Program) (w : World) (K : PySem.W.Frag) (mg : Str → Option Value) (base : Heap) (k : Nat) (x : Str) (ps : List Str) (sp : Sp) : Prop where
  ex : ∃ (f : Addr) (fd : FuncData), mg x = some (.ref f) ∧ PySem.W.keepIn K (.ref f) = true ∧ Binds K fd ps [] ∧ FnOk P w K mg base CX0 k f fd ps sp
section
variable {X : Cx}
theorem pe_cst {x : Str} {i : Int} {pos : Pos} (h : Cst X.mg x i) (hg : Gl X x := by rfl) (hd : (x == ("__debug__" : Str)) = false := by decide) : PE X (.Name x pos) (tC (.int i)) := by
  obtain ⟨u, hm, r⟩ := h
  exact pe_glob hg hm r hd
theorem pe_has {k : Nat} {x : Str} {ps : List Str} {sp : Sp} {p pos : Pos} {e : Expr} {es : List Expr} {t : TA} (h : Has X.prog X.w X.K X.mg X.base k x ps sp) (hr : Room k X.A) (ha : PA X (e :: es) t) (hg : Gl X x := by rfl) (hdb : (x == ("__debug__" : Str)) = false := by decide)
    (he : starEach (e :: es) X.env = (false, eval e X.env) :: starEach es X.env := by rfl) (hpl : (backTo pos (starEach es X.env)).any (·.1) = false := by rfl) : PE X (.Call (.Name x p) (e :: es) [] pos) (tCall sp [] E0 t) := by
  obtain ⟨f, fd, hm, kp, b, F⟩ := h.ex
  exact pe_call F hr hg hm kp b .nil pass0 ha hdb he hpl
theorem pe_has0 {k : Nat} {x : Str} {ps : List Str} {sp : Sp} {p pos : Pos} (h : Has X.prog X.w X.K X.mg X.base k x ps sp) (hr : Room k X.A) (hg : Gl X x := by rfl) (hdb : (x == ("__debug__" : Str)) = false := by decide) :
    PE X (.Call (.Name x p) [] [] pos) (tCall sp [] E0 tNil) := by
  obtain ⟨f, fd, hm, kp, b, F⟩ := h.ex
  exact pe_call0 F hr hg hm kp b .nil pass0 hdb
end
abbrev Bytes := Lace.Bytes
def vb (b : Bytes) : List V := b.map fun c => V.int (c.toNat : Int)
def vn (l : List Nat) : List V := l.map fun (n : Nat) => V.int (n : Int)
def vi (l : List Int) : List V := l.map V.int
theorem vb_get {b : Bytes} {i : Nat} {x : V} (h : (vb b)[i]? = some x) : ∃ c, b[i]? = some c ∧ x = .int (c.toNat : Int) := by
  unfold vb at h
  rw [List.getElem?_map] at h
  cases e : b[i]? with
  | none => rw [e] at h; cases h
  | some c => rw [e] at h; exact ⟨c, rfl, (Option.some.inj h).symm⟩
theorem vb_at {b : Bytes} {i : Nat} {c : UInt8} (h : b[i]? = some c) : (vb b)[i]? = some (.int (c.toNat : Int)) := by
  unfold vb
  rw [List.getElem?_map, h]; rfl
theorem vn_at {b : List Nat} {i : Nat} {c : Nat} (h : b[i]? = some c) : (vn b)[i]? = some (.int (c : Int)) := by
  unfold vn
  rw [List.getElem?_map, h]; rfl
theorem vn_get {b : List Nat} {i : Nat} {x : V} (h : (vn b)[i]? = some x) : ∃ c : Nat, b[i]? = some c ∧ x = .int (c : Int) := by
  unfold vn at h
  rw [List.getElem?_map] at h
  cases e : b[i]? with
  | none => rw [e] at h; cases h
  | some c => rw [e] at h; exact ⟨c, rfl, (Option.some.inj h).symm⟩
theorem vb_length (b : Bytes) : (vb b).length = b.length := List.length_map ..
theorem vn_length (b : List Nat) : (vn b).length = b.length := List.length_map ..
theorem vb_append (a b : Bytes) : vb (a ++ b) = vb a ++ vb b := List.map_append ..
theorem vn_append (a b : List Nat) : vn (a ++ b) = vn a ++ vn b := List.map_append ..
theorem vb_take (b : Bytes) (n : Nat) : vb (b.take n) = (vb b).take n := List.map_take ..
theorem vb_drop (b : Bytes) (n : Nat) : vb (b.drop n) = (vb b).drop n := List.map_drop ..
theorem _root_.L2.Same.up {H : Hp} {p : Addr} {o : HO} (h : H p = none) : Same H (upd H p o) := fun b u e => by
  rw [upd_ne (ne_of_none e h)]
  exact e
theorem take_snoc {α : Type} {l : List α} {i : Nat} {x : α} (h : l[i]? = some x) : l.take (i + 1) = l.take i ++ [x] := by
  rw [List.take_add_one, h]; rfl
theorem iteB {b : Bool} {A B : Prop} (h1 : b = true → A) (h2 : b = false → B) : if b = true then A else B := by
  cases b with
  | true => rw [if_pos rfl]; exact h1 rfl
  | false => rw [if_neg Bool.false_ne_true]; exact h2 rfl
theorem bit_top {c : Nat} (h : c < 2 ^ 32) : (Builtin.bitAnd (c : Int) 2147483648 != 0) = decide (2 ^ 31 ≤ c) := by
  rw [bitAnd_pp (by omega) (by decide), Int.toNat_natCast, show (2147483648 : Int).toNat = 2 ^ 31 from rfl]
  by_cases g : 2 ^ 31 ≤ c
  · rw [decide_eq_true g]
    have t := LpM.top_bit h
    rw [decide_eq_true g] at t
    have n : ¬ (c &&& 2 ^ 31) = 0 := fun z => by
      have q := Nat.testBit_and c (2 ^ 31) 31
      rw [z, ← t, Nat.testBit_two_pow_self] at q
      simp at q
    exact bne_iff_ne.mpr fun z => n (by omega)
  · rw [decide_eq_false g]
    have z := Bits.nat_and_mul_pow 31 c 1 (by omega)
    rw [Nat.one_mul] at z
    rw [z]
    rfl
theorem bit_and32 (c : Nat) : Builtin.bitAnd (c : Int) 4294967295 = ((c % 2 ^ 32 : Nat) : Int) := by
  rw [bitAnd_m32]
  omega
theorem bit_xor (a b : Nat) : Builtin.bitXor (a : Int) (b : Int) = ((a ^^^ b : Nat) : Int) := by
  rw [Bits.bitXor_pp (by omega) (by omega), Int.toNat_natCast, Int.toNat_natCast]
theorem bit_and (a b : Nat) : Builtin.bitAnd (a : Int) (b : Int) = ((a &&& b : Nat) : Int) := by
  rw [bitAnd_pp (by omega) (by omega), Int.toNat_natCast, Int.toNat_natCast]
theorem step_hi {c : Nat} (h : c < 2 ^ 32) (g : 2 ^ 31 ≤ c) : Builtin.bitXor (Builtin.bitAnd ((c : Int) * 2 ^ 1) 4294967295) 79764919 = ((Lace.sumBit c : Nat) : Int) := by
  rw [show ((c : Int) * 2 ^ 1) = ((2 * c : Nat) : Int) by omega, bit_and32, show (79764919 : Int) = ((79764919 : Nat) : Int) from rfl, bit_xor]
  unfold Lace.sumBit
  rw [if_pos g]
theorem step_lo {c : Nat} (g : ¬ 2 ^ 31 ≤ c) : ((c : Int) * 2 ^ 1) = ((Lace.sumBit c : Nat) : Int) := by
  unfold Lace.sumBit
  rw [if_neg g]
  omega
theorem cut_nn (xs : List V) (i j : Nat) : cutV xs (some (i : Int)) (some (j : Int)) = (xs.drop i).take (j - i) := by
  unfold cutV
  rw [HT.sIx_nat, HT.sIx_nat]
  by_cases h : i ≤ xs.length
  · rw [Nat.min_eq_left h]
    by_cases g : j ≤ xs.length
    · rw [Nat.min_eq_left g]
    · rw [Nat.min_eq_right (by omega), List.take_of_length_le (by rw [List.length_drop]; omega), List.take_of_length_le (by rw [List.length_drop]; omega)]
  · rw [Nat.min_eq_right (show xs.length ≤ i by omega), List.drop_length, List.drop_of_length_le (show xs.length ≤ i by omega)]
    simp
theorem cut_0n (xs : List V) (j : Nat) : cutV xs none (some (j : Int)) = xs.take j := by
  unfold cutV
  rw [HT.sIx_nat, HT.sIx_none, List.drop_zero, Nat.sub_zero]
  by_cases g : j ≤ xs.length
  · rw [Nat.min_eq_left g]
  · rw [Nat.min_eq_right (by omega), List.take_length, List.take_of_length_le (by omega)]
theorem cut_n0 (xs : List V) (i : Nat) : cutV xs (some (i : Int)) none = xs.drop i := by
  unfold cutV
  rw [HT.sIx_nat, HT.sIx_none]
  by_cases h : i ≤ xs.length
  · rw [Nat.min_eq_left h, List.take_of_length_le (by rw [List.length_drop]; exact Nat.le_refl _)]
  · rw [Nat.min_eq_right (by omega), List.drop_length, List.drop_of_length_le (by omega)]
    simp
theorem cutb_nn (b : Bytes) {z y : Int} (i j : Nat) (h1 : z = (i : Int)) (h2 : y = (j : Int)) : cutV (vb b) (some z) (some y) = vb ((b.drop i).take (j - i)) := by
  rw [h1, h2, cut_nn, vb_take, vb_drop]
theorem cutb_0n (b : Bytes) {z : Int} (j : Nat) (h : z = (j : Int)) : cutV (vb b) none (some z) = vb (b.take j) := by
  rw [h, cut_0n, vb_take]
theorem cutb_n0 (b : Bytes) {z : Int} (i : Nat) (h : z = (i : Int)) : cutV (vb b) (some z) none = vb (b.drop i) := by
  rw [h, cut_n0, vb_drop]
theorem _root_.L2.Same.add {H H' : Hp} {p : Addr} {o : HO} (s : Same H H') (h : H' p = none) : Same H (upd H' p o) := s.trans (Same.up h)
theorem _root_.L2.Same.wr {H H' : Hp} {p : Addr} {o : HO} (s : Same H H') (h : H p = none) : Same H (upd H' p o) := fun b u e => by
  rw [upd_ne (ne_of_none e h)]
  exact s b u e
theorem for_rev {K : PySem.W.Frag} {a : Addr} {xs : List V} {g : TG} {tb : TS} {D : Ends} {σ : L2.St} {H : Hp} (Pv : Nat → L2.St → Hp → Prop) (h0 : Pv 0 σ H) (hl : ∀ i σ H, i ≤ xs.length → Pv i σ H → SqL K H a xs)
    (hs : ∀ i x σ H, i < xs.length → xs[xs.length - 1 - i]? = some x → Pv i σ H → g x σ H fun σ2 H2 => tb { D with nx := Pv (i + 1), ct := Pv (i + 1), bk := D.nx } σ2 H2) (hd : ∀ σ H, Pv xs.length σ H → D.nx σ H) :
    ∃ W : Nat → Nat → L2.St → Hp → Prop, (∃ m, W 0 m σ H) ∧ ∀ i m σ H, W i m σ H →
      ((Itv K a xs.length).stop i H ∧ D.nx σ H) ∨ ((Itv K a xs.length).go i H ∧ ∃ N : L2.St → Hp → Prop, (∀ σ' H', N σ' H' → ∃ m', m' < m ∧ W (i + 1) m' σ' H') ∧ ∀ x H', (Itv K a xs.length).yld i H x H' → g x σ H' fun σ2 H2 => tb { D with nx := N, ct := N, bk := D.nx } σ2 H2) := by
  refine ⟨fun i m σ H => m = xs.length - i ∧ i ≤ xs.length ∧ Pv i σ H, ⟨xs.length, by simp, Nat.zero_le _, h0⟩, ?_⟩
  rintro i m σ H ⟨rfl, hi, p⟩
  have q := hl i σ H hi p
  by_cases hlt : i < xs.length
  · refine .inr ⟨⟨hlt, xs, xs[xs.length - 1 - i], q, by rw [List.getElem?_eq_getElem (by omega)]⟩, Pv (i + 1), fun σ' H' p' => ⟨xs.length - (i + 1), by omega, rfl, hlt, p'⟩, fun x H' y => ?_⟩
    obtain ⟨e, y⟩ := y
    subst e
    exact hs i x σ _ hlt (y xs q) p
  · have e : i = xs.length := by omega
    subst e
    exact .inl ⟨Nat.le_refl _, hd σ H p⟩
theorem line_eq : sizeLine = 16777216 := sizeLine_eq
def New (H : Hp) (o : HO) (Q : VK) : Prop := ∀ (p : Addr) (H' : Hp), H p = none → Same H H' → H' p = some o → Q (.ref p) H'
theorem New.at_ {H : Hp} {o : HO} {Q : VK} (h : New H o Q) (p : Addr) (hp : H p = none) : Q (.ref p) (upd H p o) := h p _ hp (Same.up hp) upd_same
section
variable {X : Cx} {es : List Expr} {t : TA} {pos : Pos}
def tLstQ (t : TA) : TE := fun σ H Q => t σ H fun xs H1 => xs.length ≤ 1000000 ∧ New H1 (.lst xs) Q
def tTupQ (t : TA) : TE := fun σ H Q => t σ H fun xs H1 => xs.length ≤ 1000000 ∧ New H1 (.tup xs) Q
theorem pe_lstQ (h : PA X es t) : PE X (.List es pos) (tLstQ t) := by
  intro pins s σ H Q I hq
  refine wpAny_List_spliced (thn (h pos pins s σ H _ I hq) fun us s1 ⟨xs, H1, I1, r, z, q⟩ => ⟨by rw [← r.length, line_eq]; omega, ?_⟩)
  have hf : H1 s1.heap.objs.size = none := I1.hok.fresh (Nat.le_refl _)
  refine ⟨.ref s1.heap.objs.size, upd H1 s1.heap.objs.size (.lst xs), I1.laid (t' := s1.toks) (fun b u e => Heap.get?_push_of_some _ e) (Nat.le_refl _) ?_, rfl, q.at_ _ hf⟩
  exact ⟨by rw [line_eq]; omega, us, 0, r, Heap.get?_push_size _ rfl⟩
theorem pe_tupQ {x1} (h : PA X es t) : PE X (.Tuple es x1 pos) (tTupQ t) := by
  intro pins s σ H Q I hq
  refine wpAny_Tuple_spliced (thn (h pos pins s σ H _ I hq) fun us s1 ⟨xs, H1, I1, r, z, q⟩ => ⟨by rw [← r.length, line_eq]; omega, ?_⟩)
  have hf : H1 s1.heap.objs.size = none := I1.hok.fresh (Nat.le_refl _)
  refine ⟨.ref s1.heap.objs.size, upd H1 s1.heap.objs.size (.tup xs), I1.laid (t' := s1.toks) (fun b u e => Heap.get?_push_of_some _ e) (Nat.le_refl _) ?_, rfl, q.at_ _ hf⟩
  exact ⟨by rw [line_eq]; omega, us, r, ⟨_, Heap.get?_push_size _ rfl, rfl, _, rfl⟩⟩
def rCatQ : R2 := fun x y H Q => ∃ l b xs zs, x = .ref l ∧ y = .ref b ∧ H l = some (.lst xs) ∧ H b = some (.lst zs) ∧ xs.length + zs.length ≤ 1000000 ∧ New H (.lst (xs ++ zs)) Q
theorem op_catQ : OpR X (binaryOp .Add) rCatQ := fun pins s σ H x y v u Q I rx ry ⟨l, b, xs, zs, e1, e2, h1, h2, hz, k⟩ => op_cat pins s σ H x y v u Q I rx ry ⟨l, b, xs, zs, e1, e2, h1, h2, by rw [line_eq]; omega, k.at_⟩
def rCatB : R2 := fun x y H Q => ∃ (l b : Addr) (xs zs : Bytes), x = .ref l ∧ y = .ref b ∧ H l = some (.lst (vb xs)) ∧ H b = some (.lst (vb zs)) ∧ xs.length + zs.length ≤ 1000000 ∧ New H (.lst (vb (xs ++ zs))) Q
theorem op_catB : OpR X (binaryOp .Add) rCatB := fun pins s σ H x y v u Q I rx ry ⟨l, b, xs, zs, e1, e2, h1, h2, hz, k⟩ => op_catQ pins s σ H x y v u Q I rx ry ⟨l, b, vb xs, vb zs, e1, e2, h1, h2, by rw [vb_length, vb_length]; exact hz, by rw [← vb_append]; exact k⟩
def rSlQ (K : PySem.W.Frag) : V → Option Int → Option Int → Hp → VK → Prop := fun x lo hi H Q => ∃ a xs, x = .ref a ∧ SqL K H a xs ∧ New H (.lst (cutV xs lo hi)) Q
theorem sl_Q : SlR X (rSlQ X.K) := fun pins s σ H x v vl vu lo hi sl Q I rx hs pl pu ⟨a, xs, e, hx, k⟩ => sl_list pins s σ H x v vl vu lo hi sl Q I rx hs pl pu ⟨a, xs, e, hx, k.at_⟩
def rSlB (K : PySem.W.Frag) : V → Option Int → Option Int → Hp → VK → Prop := fun x lo hi H Q => ∃ (a : Addr) (b : Bytes) (i j : Nat), x = .ref a ∧ lo = some (i : Int) ∧ hi = some (j : Int) ∧ SqL K H a (vb b) ∧ New H (.lst (vb ((b.drop i).take (j - i)))) Q
theorem sl_B : SlR X (rSlB X.K) := fun pins s σ H x v vl vu lo hi sl Q I rx hs pl pu ⟨a, b, i, j, e, e1, e2, hx, k⟩ => sl_Q pins s σ H x v vl vu lo hi sl Q I rx hs pl pu ⟨a, vb b, e, hx, by rw [e1, e2, cutb_nn b i j rfl rfl]; exact k⟩
theorem call_listQ : CallR X (.type "list") (fun xs H Q => ∃ p ys, xs = [.ref p] ∧ (SqL X.K H p ys ∨ SqT X.K H p ys) ∧ New H (.lst ys) Q) := fun pins s σ H xs us Q I r ⟨p, ys, e, h, k⟩ => call_list_of pins s σ H xs us Q I r ⟨p, ys, e, h, k.at_⟩
end
theorem and_of {t u : TT} {σ : L2.St} {H : Hp} {Q : Bool → Hp → Prop} (ba bb : Bool) (h1 : ∀ R : Bool → Hp → Prop, R ba H → t σ H R) (h2 : ba = true → ∀ R : Bool → Hp → Prop, R bb H → u σ H R) (h : Q (ba && bb) H) : tAnd t u σ H Q := by
  refine h1 _ ?_
  cases ba with
  | true => exact h2 rfl Q h
  | false => exact h
theorem or_of {t u : TT} {σ : L2.St} {H : Hp} {Q : Bool → Hp → Prop} (ba bb : Bool) (h1 : ∀ R : Bool → Hp → Prop, R ba H → t σ H R) (h2 : ba = false → ∀ R : Bool → Hp → Prop, R bb H → u σ H R) (h : Q (ba || bb) H) : tOr t u σ H Q := by
  refine h1 _ ?_
  cases ba with
  | true => exact h
  | false => exact h2 rfl Q h
theorem seq_and {t u : TT} {a b r : TS} {D : Ends} {σ : L2.St} {H : Hp} (ba bb : Bool) (h1 : ∀ R : Bool → Hp → Prop, R ba H → t σ H R) (h2 : ba = true → ∀ R : Bool → Hp → Prop, R bb H → u σ H R) (h : if (ba && bb) = true then a { D with nx := r D } σ H else b { D with nx := r D } σ H) : tSeq (tIfS (tAnd t u) a b) r D σ H :=
  and_of (Q := fun c H1 => if c = true then a { D with nx := r D } σ H1 else b { D with nx := r D } σ H1) ba bb h1 h2 h
theorem if_and {t u : TT} {a b : TS} {D : Ends} {σ : L2.St} {H : Hp} (ba bb : Bool) (h1 : ∀ R : Bool → Hp → Prop, R ba H → t σ H R) (h2 : ba = true → ∀ R : Bool → Hp → Prop, R bb H → u σ H R) (h : if (ba && bb) = true then a D σ H else b D σ H) : tIfS (tAnd t u) a b D σ H :=
  and_of (Q := fun c H1 => if c = true then a D σ H1 else b D σ H1) ba bb h1 h2 h
theorem if_or {t u : TT} {a b : TS} {D : Ends} {σ : L2.St} {H : Hp} (ba bb : Bool) (h1 : ∀ R : Bool → Hp → Prop, R ba H → t σ H R) (h2 : ba = false → ∀ R : Bool → Hp → Prop, R bb H → u σ H R) (h : if (ba || bb) = true then a D σ H else b D σ H) : tIfS (tOr t u) a b D σ H :=
  or_of (Q := fun c H1 => if c = true then a D σ H1 else b D σ H1) ba bb h1 h2 h
theorem nx_of {f : L2.St → Hp → Prop} {rt : VK} {bk ct : L2.St → Hp → Prop} {σ : L2.St} {H : Hp} (h : f σ H) : ({ nx := f, rt := rt, bk := bk, ct := ct } : Ends).nx σ H := h
def Dom (H H' : Hp) : Prop := ∀ b, H' b = none → H b = none
theorem _root_.L2.Same.dom {H H' : Hp} (s : Same H H') : Dom H H' := fun _ h => s.free h
theorem Dom.refl (H : Hp) : Dom H H := fun _ h => h
theorem Dom.trans {H H1 H2 : Hp} (a : Dom H H1) (b : Dom H1 H2) : Dom H H2 := fun c h => a c (b c h)
theorem upd_none {H : Hp} {q b : Addr} {o : HO} (h : upd H q o b = none) : b ≠ q ∧ H b = none := by
  have n : b ≠ q := fun z => by subst z; rw [upd_same] at h; cases h
  rw [upd_ne n] at h
  exact ⟨n, h⟩
theorem Dom.up {H H' : Hp} {q : Addr} {o : HO} (a : Dom H H') : Dom H (upd H' q o) := fun b h => a b (upd_none h).2
end Lp
end
section
set_option Elab.async false
set_option linter.all false
set_option maxRecDepth 100000
set_option maxHeartbeats 2000000
namespace Lp
open PySem PySem.Spec PyProof.Rows L2
section
variable {P : Program} {w : World} {K : PySem.W.Frag} {mg : Str → Option Value} {base : Heap}
abbrev sRem : Stmt := top 4
def spRem : Sp := fun vs H Q _ => ∃ j : Nat, j < 256 ∧ vs = [.int (j : Int)] ∧ Q (.int (LpM.tabAt j : Nat)) H
theorem scRem : FnScope ["value", "rest", "step"] ["value"] (defScope sRem) := ⟨rfl, rfl, rfl, by decide +kernel, rfl, by decide +kernel, by decide +kernel⟩
theorem ok_rem {f : Addr} {fd : FuncData} (F : Fun K "remainder_of_byte" "remainder_of_byte" sRem f fd) (hR : mg "range" = none) (cT : Cst mg "TOP_BIT" 2147483648) (cL : Cst mg "LOW_BITS" 4294967295) (cP : Cst mg "POLYNOMIAL" 79764919) :
    FnOk P w K mg base CX0 1 f fd ["value"] spRem := by
  refine F.ok scRem (fun vs H Q E h => ?_) (fun cdv A outer s H vs Q E hr h => ?_)
  · obtain ⟨j, _, rfl, _⟩ := h
    rfl
  · obtain ⟨j, hj, rfl, k⟩ := h
    refine ⟨_, pss_cons (ps_set (i := 1) scRem.nd rfl (Or.inl rfl) (pe_op op_shl (pv 0) pe_int))
      (pss_cons (ps_for PassesOwn.never rfl (pi_range1 rfl hR (pa_cons pe_int pa_nil)) (pg_name (i := 2) scRem.nd rfl (Or.inl rfl))
        (pss_one (ps_if (pt_truth (pe_op op_and (pv 1) (pe_cst cT)) (fun _ => rfl))
          (pss_one (ps_set (i := 1) scRem.nd rfl (Or.inl rfl) (pe_op op_xor (pe_op op_and (pe_op op_shl (pv 1) pe_int) (pe_cst cL)) (pe_cst cP))))
          (pss_one (ps_set (i := 1) scRem.nd rfl (Or.inl rfl) (pe_op op_shl (pv 1) pe_int))))))
      (pss_one (ps_ret (pv 1)))), ?_⟩
    refine ⟨_, rfl, _, _, rfl, rfl, ⟨by decide, by decide, by omega⟩, ?_⟩
    refine ⟨8, rfl, by decide, by decide, for_range (n := 8) (fun i σ H' => ∃ v : Option V, H' = H ∧ σ = [some (.int (j : Int)), some (.int (LpM.bits i (j * 2 ^ 24) : Nat)), v]) ⟨none, rfl, ?_⟩ ?_ ?_⟩
    · show [some (V.int (j : Int)), some (V.int ((j : Int) * 2 ^ 24)), none] = _
      rw [show ((j : Int) * 2 ^ 24) = ((LpM.bits 0 (j * 2 ^ 24) : Nat) : Int) by show _ = ((j * 2 ^ 24 : Nat) : Int); omega]
    · rintro i σ H' hi ⟨v, rfl, rfl⟩
      have hlt : LpM.bits i (j * 2 ^ 24) < 2 ^ 32 := LpM.bits_lt (by omega) i
      generalize hc : LpM.bits i (j * 2 ^ 24) = c at hlt
      have e0 : LpM.bits (i + 1) (j * 2 ^ 24) = Lace.sumBit c := by rw [← hc]; rfl
      refine ⟨_, rfl, _, _, rfl, rfl, _, rfl, iteB (fun hb => ?_) fun hb => ?_⟩
      · rw [bit_top hlt, decide_eq_true_eq] at hb
        refine ⟨_, rfl, _, _, rfl, rfl, ⟨by decide, by decide, by omega⟩, _, _, rfl, rfl, _, _, rfl, rfl, some (.int (0 + i)), rfl, ?_⟩
        show [some (V.int (j : Int)), some (V.int (Builtin.bitXor (Builtin.bitAnd ((c : Int) * 2 ^ 1) 4294967295) 79764919)), _] = _
        rw [step_hi hlt hb, e0]
      · rw [bit_top hlt, decide_eq_false_iff_not] at hb
        refine ⟨_, rfl, _, _, rfl, rfl, ⟨by decide, by decide, by omega⟩, some (.int (0 + i)), rfl, ?_⟩
        show [some (V.int (j : Int)), some (V.int ((c : Int) * 2 ^ 1)), _] = _
        rw [step_lo hb, e0]
    · rintro σ H' ⟨v, rfl, rfl⟩
      refine ⟨_, rfl, ?_⟩
      unfold LpM.tabAt at k
      exact k
abbrev sMk : Stmt := top 5
def spMk : Sp := fun vs H Q _ => vs = [] ∧ ∀ (H' : Hp) (p : Addr), Same H H' → H p = none → H' p = some (.lst (vn LpM.tbl)) → Q (.ref p) H'
theorem scMk : FnScope ["value"] [] (defScope sMk) := ⟨rfl, rfl, rfl, by decide +kernel, rfl, by decide +kernel, by decide +kernel⟩
theorem ok_mk {f : Addr} {fd : FuncData} (F : Fun K "make_table" "make_table" sMk f fd) (hR : mg "range" = none) (fR : Has P w K mg base 1 "remainder_of_byte" ["value"] spRem) : FnOk P w K mg base CX0 2 f fd [] spMk := by
  refine F.ok scMk (fun vs H Q E h => ?_) (fun cdv A outer s H vs Q E hr h => ?_)
  · obtain ⟨rfl, _⟩ := h
    rfl
  · obtain ⟨rfl, k⟩ := h
    refine ⟨_, pss_one (ps_ret (pe_lc (own := [("value", 0)]) rfl scMk.nd (pi_range1 rfl hR (pa_cons pe_int pa_nil)) (blkOk_by (by show blkC ["value"] (defScope sMk) _ _ = true; decide +kernel)) (fun _ _ _ _ _ => pg_name (i := 0) scMk.nd rfl (Or.inl rfl)) (fun _ _ _ _ _ => pts_nil) (fun _ _ _ _ _ => pe_has fR hr (pa_cons (pv 0) pa_nil)))), ?_⟩
    refine ⟨256, rfl, by decide, by decide, fun D hD => lc_range (n := 256) (fun i H' => Same H H' ∧ H' D = some (.lst (vn (LpM.tbl.take i)))) ⟨Same.up hD, upd_same⟩ (fun i H' hi ⟨s1, hl⟩ => ?_) fun H' ⟨s1, hl⟩ => ?_⟩
    · refine ⟨rfl, _, rfl, i, hi, ?_, _, hl, ?_, ?_, ?_⟩
      · show [V.int (0 + (i : Int))] = _
        rw [Int.zero_add]
      · rw [vn_length, List.length_take]
        exact Nat.lt_of_le_of_lt (Nat.min_le_left _ _) (by show i < 16777216; omega)
      · exact fun b o e => by rw [upd_ne (ne_of_none e hD)]; exact s1 b o e
      · rw [upd_same, take_snoc (LpM.tbl_get hi), vn_append]
        rfl
    · rw [List.take_of_length_le (by rw [LpM.tbl_length]; exact Nat.le_refl _)] at hl
      exact k H' D s1 hD hl
abbrev sSum : Stmt := top 6
def spSum (K : PySem.W.Frag) : Sp := fun vs H Q _ => ∃ (t d : Addr) (b : Bytes), vs = [.ref t, .ref d] ∧ SqL K H t (vn LpM.tbl) ∧ SqL K H d (vb b) ∧ Q (.int (Lace.sum b : Nat)) H
theorem scSum : FnScope ["table", "data", "rest", "value"] ["table", "data"] (defScope sSum) := ⟨rfl, rfl, rfl, by decide +kernel, rfl, by decide +kernel, by decide +kernel⟩
theorem ok_sum {f : Addr} {fd : FuncData} (F : Fun K "sum_of_bytes" "sum_of_bytes" sSum f fd) (cL : Cst mg "LOW_BITS" 4294967295) : FnOk P w K mg base CX0 1 f fd ["table", "data"] (spSum K) := by
  refine F.ok scSum (fun vs H Q E h => ?_) (fun cdv A outer s H vs Q E hr h => ?_)
  · obtain ⟨t, d, b, rfl, _⟩ := h
    rfl
  · obtain ⟨t, d, b, rfl, ht, hd, k⟩ := h
    refine ⟨_, pss_cons (ps_set (i := 2) scSum.nd rfl (Or.inl rfl) pe_int)
      (pss_cons (ps_for PassesOwn.never rfl (pi_list (pv 1)) (pg_name (i := 3) scSum.nd rfl (Or.inl rfl))
        (pss_one (ps_set (i := 2) scSum.nd rfl (Or.inl rfl) (pe_op op_xor (pe_op op_and (pe_op op_shl (pv 2) pe_int) (pe_cst cL)) (pe_ix ix_list (pv 0) (pe_op op_xor (pe_op op_shr (pv 2) pe_int) (pv 3)) (fun _ _ => rfl))))))
      (pss_one (ps_ret (pv 2)))), ?_⟩
    refine ⟨_, rfl, d, rfl, ⟨_, hd⟩, for_list (K := K) (a := d) (xs := vb b) (fun i σ H' => ∃ v : Option V, H' = H ∧ σ = [some (.ref t), some (.ref d), some (.int (Lace.sum (b.take i) : Nat)), v]) ⟨none, rfl, rfl⟩ ?_ ?_ ?_⟩
    · rintro i σ H' _ ⟨_, rfl, _⟩
      exact hd
    · rintro i y σ H' hi ⟨v, rfl, rfl⟩
      obtain ⟨c, hc, rfl⟩ := vb_get hi
      have hlt := LpM.sum_lt (b.take i)
      have e0 : Lace.sum (b.take (i + 1)) = Lace.sumByte (Lace.sum (b.take i)) c := by
        rw [take_snoc hc]
        unfold Lace.sum
        rw [List.foldl_append, List.foldl_cons, List.foldl_nil]
      generalize Lace.sum (b.take i) = r at hlt e0
      have ei : Builtin.bitXor ((r : Int) / 2 ^ 24) (c.toNat : Int) = (((r / 2 ^ 24) ^^^ c.toNat : Nat) : Int) := by
        rw [show ((r : Int) / 2 ^ 24) = ((r / 2 ^ 24 : Nat) : Int) by omega, bit_xor]
      refine ⟨_, rfl, _, _, rfl, rfl, ⟨by decide, by decide, by omega⟩, _, _, rfl, rfl, _, rfl, _, rfl, _, _, rfl, rfl, (by show (0 : Int) ≤ 24; decide), _, rfl, _, _, rfl, rfl, t, _, _, _, rfl, rfl, ht, at_of (j := (r / 2 ^ 24) ^^^ c.toNat) ei (vn_at (LpM.tbl_get (LpM.idx_lt hlt c))), _, _, rfl, rfl, some (.int c.toNat), rfl, ?_⟩
      show [some (V.ref t), some (V.ref d), some (V.int (Builtin.bitXor (Builtin.bitAnd ((r : Int) * 2 ^ 8) 4294967295) (LpM.tabAt ((r / 2 ^ 24) ^^^ c.toNat) : Nat))), _] = _
      rw [show ((r : Int) * 2 ^ 8) = ((r * 256 : Nat) : Int) by omega, bit_and32, bit_xor, ← LpM.step_tab hlt, e0]
    · rintro σ H' ⟨v, rfl, rfl⟩
      refine ⟨_, rfl, ?_⟩
      rw [vb_length, List.take_length]
      exact k
end
end Lp
end
section
set_option Elab.async false
set_option linter.all false
set_option maxRecDepth 100000
set_option maxHeartbeats 2000000
namespace Lp
open PySem PySem.Spec PyProof.Rows L2
section
variable {P : Program} {w : World} {K : PySem.W.Frag} {mg : Str → Option Value} {base : Heap}
abbrev sLow : Stmt := top 27
def spLow : Sp := fun vs H Q _ => ∃ n k : Nat, k ≤ 100 ∧ vs = [.int (n : Int), .int (k : Int)] ∧ ∀ (H' : Hp) (p : Addr), Same H H' → H p = none → H' p = some (.lst (vb (Lace.le k n))) → Q (.ref p) H'
theorem scLow : FnScope ["number", "count", "place"] ["number", "count"] (defScope sLow) := ⟨rfl, rfl, rfl, by decide +kernel, rfl, by decide +kernel, by decide +kernel⟩
theorem low_at (n i : Nat) : Builtin.bitAnd ((n : Int) / 2 ^ ((8 : Int) * (i : Int)).toNat) 255 = ((UInt8.ofNat (n / 256 ^ i)).toNat : Int) := by
  rw [show ((8 : Int) * (i : Int)).toNat = 8 * i by omega, LpM.ofNat_toNat, show (256 : Nat) ^ i = 2 ^ (8 * i) by rw [Nat.pow_mul]]
  rw [bitAnd_m8]
  have e : ((n : Int) / 2 ^ (8 * i)) = ((n / 2 ^ (8 * i) : Nat) : Int) := by
    rw [Int.natCast_ediv]
    congr 1
  rw [e]
  omega
theorem ok_low {f : Addr} {fd : FuncData} (F : Fun K "low_byte_first" "low_byte_first" sLow f fd) (hR : mg "range" = none) : FnOk P w K mg base CX0 1 f fd ["number", "count"] spLow := by
  refine F.ok scLow (fun vs H Q E h => ?_) (fun cdv A outer s H vs Q E hr h => ?_)
  · obtain ⟨n, k, _, rfl, _⟩ := h
    rfl
  · obtain ⟨n, c, hc, rfl, k⟩ := h
    refine ⟨_, pss_one (ps_ret (pe_lc (own := [("place", 2)]) rfl scLow.nd (pi_range1 rfl hR (pa_cons (pv 1) pa_nil)) (blkOk_by (by show blkC ["number", "count", "place"] (defScope sLow) _ _ = true; decide +kernel)) (fun _ _ _ _ _ => pg_name (i := 2) scLow.nd rfl (Or.inl rfl)) (fun _ _ _ _ _ => pts_nil)
      (fun _ _ _ _ _ => pe_op op_and (pe_op op_shr (pv 0) (pe_op op_mul pe_int (pv 2))) pe_int))), ?_⟩
    refine ⟨_, rfl, c, rfl, by omega, by omega, fun D hD => ?_⟩
    rw [Int.toNat_natCast]
    refine lc_range (n := c) (fun i H' => Same H H' ∧ H' D = some (.lst (vb ((Lace.le c n).take i)))) ⟨Same.up hD, upd_same⟩ (fun i H' hi ⟨s1, hl⟩ => ?_) fun H' ⟨s1, hl⟩ => ?_
    · refine ⟨rfl, _, rfl, _, rfl, _, _, rfl, rfl, .inl ⟨by decide, by decide⟩, _, _, rfl, rfl, ?_, _, _, rfl, rfl, _, hl, ?_, s1.wr hD, ?_⟩
      · show (0 : Int) ≤ 8 * (0 + (i : Int))
        omega
      · rw [vb_length, List.length_take, LpM.le_length, line_eq]
        omega
      · rw [upd_same, take_snoc (LpM.le_get c n i hi), vb_append, Int.zero_add]
        show some (HO.lst (_ ++ [V.int (Builtin.bitAnd ((n : Int) / 2 ^ ((8 : Int) * (i : Int)).toNat) 255)])) = some (HO.lst (_ ++ [V.int ((UInt8.ofNat (n / 256 ^ i)).toNat : Int)]))
        rw [low_at]
    · rw [List.take_of_length_le (by rw [LpM.le_length]; exact Nat.le_refl _)] at hl
      exact k H' D s1 hD hl
abbrev sNum : Stmt := top 28
def spNum (K : PySem.W.Frag) : Sp := fun vs H Q _ => ∃ (d : Addr) (b : Bytes) (i c : Nat), vs = [.ref d, .int (i : Int), .int (c : Int)] ∧ SqL K H d (vb b) ∧ ∀ H' : Hp, Same H H' → Q (.int (Lace.unle ((b.drop i).take c) : Nat)) H'
theorem scNum : FnScope ["data", "start", "count", "number", "value"] ["data", "start", "count"] (defScope sNum) := ⟨rfl, rfl, rfl, by decide +kernel, rfl, by decide +kernel, by decide +kernel⟩
theorem ok_num {f : Addr} {fd : FuncData} (F : Fun K "number_at" "number_at" sNum f fd) (hR : mg "reversed" = none) : FnOk P w K mg base CX0 1 f fd ["data", "start", "count"] (spNum K) := by
  refine F.ok scNum (fun vs H Q E h => ?_) (fun cdv A outer s H vs Q E hr h => ?_)
  · obtain ⟨d, b, i, c, rfl, _⟩ := h
    rfl
  · obtain ⟨d, b, st, c, rfl, hd, k⟩ := h
    refine ⟨_, pss_cons (ps_set (i := 3) scNum.nd rfl (Or.inl rfl) pe_int)
      (pss_cons (ps_for PassesOwn.never rfl (pi_reversed rfl hR (pa_cons (pe_slice sl_list (pv 0) (po_some (pv 1)) (po_some (pe_op op_add (pv 1) (pv 2)))) pa_nil)) (pg_name (i := 4) scNum.nd rfl (Or.inl rfl))
        (pss_one (ps_set (i := 3) scNum.nd rfl (Or.inl rfl) (pe_op op_add (pe_op op_mul (pv 3) pe_int) (pv 4)))))
      (pss_one (ps_ret (pv 3)))), ?_⟩
    refine ⟨_, rfl, _, rfl, _, rfl, _, rfl, _, rfl, _, _, rfl, rfl, _, rfl, d, _, rfl, hd, fun p hp => ?_⟩
    have ec : cutV (vb b) (some (st : Int)) (some ((st : Int) + (c : Int))) = vb ((b.drop st).take c) := by
      rw [cutb_nn b st (st + c) rfl (by omega), show st + c - st = c by omega]
    generalize hB : (b.drop st).take c = B at ec k
    have hu : upd H p (.lst (cutV (vb b) (some (st : Int)) (some ((st : Int) + (c : Int))))) p = some (.lst (vb B)) := by rw [upd_same, ec]
    have s1 : Same H (upd H p (.lst (cutV (vb b) (some (st : Int)) (some ((st : Int) + (c : Int)))))) := Same.up hp
    refine ⟨p, vb B, rfl, SqL.of hu, for_rev (K := K) (a := p) (xs := vb B) (fun i σ H' => ∃ v : Option V, Same H H' ∧ H' p = some (.lst (vb B)) ∧ σ = [some (.ref d), some (.int (st : Int)), some (.int (c : Int)), some (.int (Lace.unle (B.drop (B.length - i)) : Nat)), v]) ⟨none, s1, hu, ?_⟩ ?_ ?_ ?_⟩
    · rw [Nat.sub_zero, List.drop_length]
      rfl
    · rintro i σ H' _ ⟨_, _, h2, _⟩
      exact SqL.of h2
    · rintro i y σ H' hi hy ⟨v, s2, h2, rfl⟩
      rw [vb_length] at hi hy
      obtain ⟨x, hx, rfl⟩ := vb_get hy
      have e0 := LpM.drop_at hx
      rw [show B.length - 1 - i + 1 = B.length - i by omega, show B.length - 1 - i = B.length - (i + 1) by omega] at e0
      refine ⟨_, rfl, _, _, rfl, rfl, .inr ⟨by decide, by decide⟩, _, rfl, _, _, rfl, rfl, some (V.int x.toNat), s2, h2, ?_⟩
      show [some (V.ref d), some (V.int (st : Int)), some (V.int (c : Int)), some (V.int (((Lace.unle (B.drop (B.length - i)) : Nat) : Int) * 256 + (x.toNat : Int))), _] = _
      rw [e0, LpM.unle_cons, show ((Lace.unle (B.drop (B.length - i)) : Nat) : Int) * 256 + (x.toNat : Int) = ((x.toNat + 256 * Lace.unle (B.drop (B.length - i)) : Nat) : Int) by omega]
    · rintro σ H' ⟨v, s2, h2, rfl⟩
      refine ⟨_, rfl, ?_⟩
      rw [vb_length, Nat.sub_self, List.drop_zero]
      exact k H' s2
end
end Lp
end
section
set_option Elab.async false
set_option linter.all false
set_option maxRecDepth 100000
set_option maxHeartbeats 2000000
namespace Lp
open PySem PySem.Spec PyProof.Rows L2
section
variable {P : Program} {w : World} {K : PySem.W.Frag} {mg : Str → Option Value} {base : Heap}
abbrev sLac : Stmt := top 29
def spLac : Sp := fun vs H Q _ => ∃ n : Nat, n ≤ 100000 ∧ vs = [.int (n : Int)] ∧ ∀ (H' : Hp) (p : Addr), Same H H' → H p = none → H' p = some (.lst (vn (Lace.values n))) → Q (.ref p) H'
theorem scLac : FnScope ["length"] ["length"] (defScope sLac) := ⟨rfl, rfl, rfl, by decide +kernel, rfl, by decide +kernel, by decide +kernel⟩
theorem rep_vn : ∀ k : Nat, (List.replicate k [V.int 255]).flatten = vn (List.replicate k 255)
  | 0 => rfl
  | k + 1 => by
    rw [List.replicate_succ, List.flatten_cons, rep_vn k, List.replicate_succ]
    rfl
theorem ok_lac {f : Addr} {fd : FuncData} (F : Fun K "lacing_of" "lacing_of" sLac f fd) (cF : Cst mg "FULL_VALUE" 255) : FnOk P w K mg base CX0 1 f fd ["length"] spLac := by
  refine F.ok scLac (fun vs H Q E h => ?_) (fun cdv A outer s H vs Q E hr h => ?_)
  · obtain ⟨n, _, rfl, _⟩ := h
    rfl
  · obtain ⟨n, hn, rfl, k⟩ := h
    refine ⟨_, pss_one (ps_ret (pe_op op_cat (pe_op op_rep (pe_lst (pa_cons (pe_cst cF) pa_nil)) (pe_op op_fdiv (pv 0) (pe_cst cF))) (pe_lst (pa_cons (pe_op op_mod (pv 0) (pe_cst cF)) pa_nil)))), ?_⟩
    refine ⟨by show 1 ≤ sizeLine; decide, fun p1 h1 => ?_⟩
    refine ⟨_, rfl, _, _, rfl, rfl, ⟨by decide, by decide⟩, p1, _, _, rfl, rfl, upd_same, by omega, by omega, ?_, fun p2 h2 => ?_⟩
    · rw [line_eq]
      show 1 * ((n : Int) / 255).toNat ≤ _
      omega
    refine ⟨_, rfl, _, _, rfl, rfl, (by show (0 : Int) < 255; decide), (by show 1 ≤ sizeLine; decide), fun p3 h3 => ?_⟩
    refine ⟨p2, p3, _, _, rfl, rfl, (by rw [upd_ne (ne_of_none upd_same h3)]; exact upd_same), upd_same, ?_, fun p4 h4 => ?_⟩
    · rw [line_eq, len_rep]
      show ((n : Int) / 255).toNat * 1 + 1 ≤ _
      omega
    have s1 := (((Same.refl H).add (o := .lst [V.int 255]) h1).add (o := .lst (List.replicate ((n : Int) / 255).toNat [V.int 255]).flatten) h2).add (o := .lst [V.int ((n : Int) % 255)]) h3
    refine k _ p4 (s1.add h4) (s1.free h4) ?_
    rw [upd_same, rep_vn]
    show some (HO.lst (vn (List.replicate ((n : Int) / 255).toNat 255) ++ [V.int ((n : Int) % 255)])) = some (HO.lst (vn (List.replicate (n / 255) 255 ++ [n % 255])))
    rw [vn_append, show ((n : Int) / 255).toNat = n / 255 by omega]
    show _ = some (HO.lst (_ ++ [V.int ((n % 255 : Nat) : Int)]))
    rw [show ((n : Int) % 255) = ((n % 255 : Nat) : Int) by omega]
abbrev sSop : Stmt := top 30
def spSop (K : PySem.W.Frag) : Sp := fun vs H Q _ => ∃ (t d : Addr) (b : Bytes), b.length ≤ 100000 ∧ vs = [.ref t, .ref d] ∧ SqL K H t (vn LpM.tbl) ∧ SqL K H d (vb b) ∧ ∀ H', Same H H' → Q (.int (Lace.sum (Lace.unsummed b) : Nat)) H'
theorem scSop : FnScope ["table", "page"] ["table", "page"] (defScope sSop) := ⟨rfl, rfl, rfl, by decide +kernel, rfl, by decide +kernel, by decide +kernel⟩
theorem ok_sop {f : Addr} {fd : FuncData} (F : Fun K "sum_of_page" "sum_of_page" sSop f fd) (c22 : Cst mg "SUM_AT" 22) (c26 : Cst mg "COUNT_AT" 26) (fS : Has P w K mg base 1 "sum_of_bytes" ["table", "data"] (spSum K)) : FnOk P w K mg base CX0 2 f fd ["table", "page"] (spSop K) := by
  refine F.ok scSop (fun vs H Q E h => ?_) (fun cdv A outer s H vs Q E hr h => ?_)
  · obtain ⟨t, d, b, _, rfl, _⟩ := h
    rfl
  · obtain ⟨t, d, b, hb, rfl, ht, hd, k⟩ := h
    refine ⟨_, pss_one (ps_ret (pe_has fS hr (pa_cons (pv 0) (pa_cons (pe_op op_cat (pe_op op_cat (pe_slice sl_list (pv 1) po_none (po_some (pe_cst c22))) (pe_lst (pa_cons pe_int (pa_cons pe_int (pa_cons pe_int (pa_cons pe_int pa_nil))))))
      (pe_slice sl_list (pv 1) (po_some (pe_cst c26)) po_none)) pa_nil)))), ?_⟩
    refine ⟨_, rfl, _, rfl, _, rfl, d, _, rfl, hd, fun p1 h1 => ?_⟩
    refine ⟨by show 4 ≤ sizeLine; decide, fun p2 h2 => ?_⟩
    rw [cutb_0n b (z := 22) 22 rfl] at h2 ⊢
    refine ⟨p1, p2, vb (b.take 22), vb [0, 0, 0, 0], rfl, rfl, (by rw [upd_ne (ne_of_none upd_same h2)]; exact upd_same), upd_same, ?_, fun p3 h3 => ?_⟩
    · rw [line_eq, vb_length, vb_length, List.length_take]
      show _ + 4 ≤ _
      omega
    have s3 := (((Same.refl H).add (o := .lst (vb (b.take 22))) h1).add (o := .lst (vb [0, 0, 0, 0])) h2).add (o := .lst (vb (b.take 22) ++ vb [0, 0, 0, 0])) h3
    refine ⟨_, rfl, _, rfl, d, _, rfl, s3.seq hd, fun p4 h4 => ?_⟩
    rw [cutb_n0 b (z := 26) 26 rfl] at *
    refine ⟨p3, p4, vb (b.take 22) ++ vb [0, 0, 0, 0], vb (b.drop 26), rfl, rfl, (by rw [upd_ne (ne_of_none upd_same h4)]; exact upd_same), upd_same, ?_, fun p5 h5 => ?_⟩
    · rw [line_eq, List.length_append, vb_length, vb_length, vb_length, List.length_take, List.length_drop]
      show _ + 4 + _ ≤ _
      omega
    have s5 := (s3.add (o := .lst (vb (b.drop 26))) h4).add (o := .lst (vb (b.take 22) ++ vb [0, 0, 0, 0] ++ vb (b.drop 26))) h5
    refine ⟨t, p5, b.take 22 ++ [0, 0, 0, 0] ++ b.drop 26, rfl, s5.seq ht, SqL.of ?_, k _ s5⟩
    rw [upd_same, vb_append, vb_append]
end
end Lp
end
section
set_option Elab.async false
set_option linter.all false
set_option maxRecDepth 100000
set_option maxHeartbeats 2000000
namespace Lp
open PySem PySem.Spec PyProof.Rows L2
section
variable {P : Program} {w : World} {K : PySem.W.Frag} {mg : Str → Option Value} {base : Heap}
def Mrk (K : PySem.W.Frag) (mg : Str → Option Value) : Prop := ∃ a : Addr, mg "MARK" = some (.ref a) ∧ ∀ H : Hp, SqT K H a (vb Lace.MARK)
abbrev sPg : Stmt := top 31
structure PgPre (K : PySem.W.Frag) (H : Hp) (t la bo : Addr) (p : Lace.Page) : Prop where
  tab : SqL K H t (vn LpM.tbl)
  lac : H la = some (.lst (vn p.lacing))
  bod : H bo = some (.lst (vb p.body))
  small : ∀ v ∈ p.lacing, v < 256
  flags : p.flags < 256
  len : p.lacing.length < 256
  blen : p.body.length ≤ 50000
def spPg (K : PySem.W.Frag) : Sp := fun vs H Q _ => ∃ (t la bo : Addr) (p : Lace.Page), vs = [.ref t, .int (p.flags : Nat), .int (p.position : Nat), .int (p.stream : Nat), .int (p.number : Nat), .ref la, .ref bo] ∧ PgPre K H t la bo p ∧
  ∀ (H' : Hp) (q : Addr), Same H H' → H q = none → H' q = some (.lst (vb (Lace.encode p))) → Q (.ref q) H'
theorem scPg : FnScope ["table", "flags", "position", "stream", "number", "lacing", "body", "head", "tail", "total"] ["table", "flags", "position", "stream", "number", "lacing", "body"] (defScope sPg) := ⟨rfl, rfl, rfl, by decide +kernel, rfl, by decide +kernel, by decide +kernel⟩
theorem vn_vb {l : List Nat} (h : ∀ v ∈ l, v < 256) : vn l = vb (l.map UInt8.ofNat) := by
  conv => lhs; rw [← LpM.map_u8 h]
  unfold vn vb
  rw [List.map_map]
  rfl
theorem ok_pg {f : Addr} {fd : FuncData} (F : Fun K "make_page" "make_page" sPg f fd) (hM : Mrk K mg) (hl : mg "list" = none) (hn : mg "len" = none) (fL : Has P w K mg base 1 "low_byte_first" ["number", "count"] spLow) (fS : Has P w K mg base 2 "sum_of_page" ["table", "page"] (spSop K)) :
    FnOk P w K mg base CX0 3 f fd ["table", "flags", "position", "stream", "number", "lacing", "body"] (spPg K) := by
  refine F.ok scPg (fun vs H Q E h => ?_) (fun cdv A outer s H vs Q E hr h => ?_)
  · obtain ⟨t, la, bo, p, rfl, _⟩ := h
    rfl
  · obtain ⟨t, la, bo, p, rfl, pre, k⟩ := h
    obtain ⟨mk, hmk, hmT⟩ := hM
    have hr1 : Room 1 _ := hr.mono (by decide)
    refine ⟨_, pss_cons (ps_set (i := 7) scPg.nd rfl (Or.inl rfl) (pe_op op_catB (pe_op op_catB (pe_op op_catB (pe_op op_catB (pe_callTy call_listQ rfl hl PyProof.Rows.boot_list (pa_cons (pe_glob (v := .ref mk) rfl hmk rfl) pa_nil)) (pe_lstQ (pa_cons (pv 1) pa_nil)))
        (pe_has fL hr1 (pa_cons (pv 2) (pa_cons pe_int pa_nil)))) (pe_has fL hr1 (pa_cons (pv 3) (pa_cons pe_int pa_nil)))) (pe_has fL hr1 (pa_cons (pv 4) (pa_cons pe_int pa_nil)))))
      (pss_cons (ps_set (i := 8) scPg.nd rfl (Or.inl rfl) (pe_op op_catB (pe_op op_catB (pe_lstQ (pa_cons (pe_callB call_len_seq rfl hn PySem.boot_len (pa_cons (pv 5) pa_nil)) pa_nil)) (pv 5)) (pv 6)))
      (pss_cons (ps_set (i := 9) scPg.nd rfl (Or.inl rfl) (pe_has fS hr (pa_cons (pv 0) (pa_cons (pe_op op_catB (pe_op op_catB (pv 7) (pe_lstQ (pa_cons pe_int (pa_cons pe_int (pa_cons pe_int (pa_cons pe_int pa_nil)))))) (pv 8)) pa_nil))))
      (pss_one (ps_ret (pe_op op_catB (pe_op op_catB (pv 7) (pe_has fL hr1 (pa_cons (pv 9) (pa_cons pe_int pa_nil)))) (pv 8)))))), ?_⟩
    have lM : Lace.MARK.length = 5 := rfl
    have hlen := pre.len
    have hblen := pre.blen
    -- head
    refine ⟨mk, _, rfl, .inr (hmT _), fun p1 H1 n1 s1 e1 => ?_⟩
    refine ⟨_, rfl, by show 1 ≤ 1000000; decide, fun p2 H2 n2 s2 e2 => ?_⟩
    have ef : ([V.int (p.flags : Nat)] : List V) = vb [UInt8.ofNat p.flags] := by
      show _ = [V.int ((UInt8.ofNat p.flags).toNat : Int)]
      rw [LpM.ofNat_toNat, Nat.mod_eq_of_lt pre.flags]
    rw [ef] at e2
    refine ⟨_, _, _, _, rfl, rfl, s2 _ _ e1, e2, by rw [lM]; show 5 + 1 ≤ 1000000; decide, fun p3 H3 n3 s3 e3 => ?_⟩
    refine ⟨_, rfl, p.position, 8, by decide, rfl, fun H4 p4 s4 n4 e4 => ⟨_, _, _, _, rfl, rfl, s4 _ _ e3, e4, ?_, fun p5 H5 n5 s5 e5 => ?_⟩⟩
    · rw [List.length_append, lM, LpM.le_length]; show 5 + 1 + 8 ≤ 1000000; decide
    refine ⟨_, rfl, p.stream, 4, by decide, rfl, fun H6 p6 s6 n6 e6 => ⟨_, _, _, _, rfl, rfl, s6 _ _ e5, e6, ?_, fun p7 H7 n7 s7 e7 => ?_⟩⟩
    · rw [List.length_append, List.length_append, lM, LpM.le_length, LpM.le_length]; show 5 + 1 + 8 + 4 ≤ 1000000; decide
    refine ⟨_, rfl, p.number, 4, by decide, rfl, fun H8 p8 s8 n8 e8 => ⟨_, _, _, _, rfl, rfl, s8 _ _ e7, e8, ?_, fun p9 H9 n9 s9 e9 => ?_⟩⟩
    · rw [List.length_append, List.length_append, List.length_append, lM, LpM.le_length, LpM.le_length, LpM.le_length]; show 5 + 1 + 8 + 4 + 4 ≤ 1000000; decide
    have t9 : Same H H9 := ((((((((s1.trans s2).trans s3).trans s4).trans s5).trans s6).trans s7).trans s8).trans s9)
    have lh : (Lace.MARK ++ [UInt8.ofNat p.flags] ++ Lace.le 8 p.position ++ Lace.le 4 p.stream ++ Lace.le 4 p.number).length = 22 := by
      simp only [List.length_append, LpM.le_length]
      rfl
    generalize hh : Lace.MARK ++ [UInt8.ofNat p.flags] ++ Lace.le 8 p.position ++ Lace.le 4 p.stream ++ Lace.le 4 p.number = head at e9 lh
    clear e1 e2 e3 e4 e5 e6 e7 e8 s1 s2 s3 s4 s5 s6 s7 s8 s9 ef
    -- tail
    refine ⟨_, rfl, la, _, rfl, .inl (SqL.of (t9 _ _ pre.lac)), by show 1 ≤ 1000000; decide, fun q1 G1 m1 r1 g1 => ?_⟩
    have el : ([V.int ((vn p.lacing).length : Nat)] : List V) = vb [UInt8.ofNat p.lacing.length] := by
      show _ = [V.int ((UInt8.ofNat p.lacing.length).toNat : Int)]
      rw [LpM.ofNat_toNat, vn_length, Nat.mod_eq_of_lt pre.len]
    rw [el] at g1
    have lac : H9 la = some (.lst (vb (p.lacing.map UInt8.ofNat))) := by rw [← vn_vb pre.small]; exact t9 _ _ pre.lac
    refine ⟨_, rfl, _, _, _, _, rfl, rfl, g1, r1 _ _ lac, (by rw [List.length_map]; show 1 + _ ≤ _; omega), fun q2 G2 m2 r2 g2 => ?_⟩
    refine ⟨_, rfl, _, _, _, _, rfl, rfl, g2, r2 _ _ (r1 _ _ (t9 _ _ pre.bod)), (by rw [List.length_append, List.length_map]; show 1 + _ + _ ≤ _; omega), fun q3 G3 m3 r3 g3 => ?_⟩
    have t3 : Same H9 G3 := (r1.trans r2).trans r3
    have lt : ([UInt8.ofNat p.lacing.length] ++ p.lacing.map UInt8.ofNat ++ p.body).length ≤ 60000 := by
      rw [List.length_append, List.length_append, List.length_map]; show 1 + _ + _ ≤ _; omega
    generalize ht : [UInt8.ofNat p.lacing.length] ++ p.lacing.map UInt8.ofNat ++ p.body = tail at g3 lt
    -- total
    refine ⟨_, rfl, _, rfl, by show 4 ≤ 1000000; decide, fun q4 G4 m4 r4 g4 => ?_⟩
    have g4 : G4 q4 = some (.lst (vb [0, 0, 0, 0])) := g4
    refine ⟨_, _, _, _, rfl, rfl, r4 _ _ (t3 _ _ e9), g4, (by rw [lh]; decide), fun q5 G5 m5 r5 g5 => ?_⟩
    refine ⟨_, rfl, _, _, _, _, rfl, rfl, g5, r5 _ _ (r4 _ _ g3), (by rw [List.length_append, lh]; show 22 + 4 + _ ≤ _; omega), fun q6 G6 m6 r6 g6 => ?_⟩
    have t6 : Same G3 G6 := (r4.trans r5).trans r6
    have er : head ++ [0, 0, 0, 0] ++ tail = Lace.raw p 0 := by
      rw [← hh, ← ht]
      unfold Lace.raw
      rw [show Lace.le 4 0 = [0, 0, 0, 0] by decide]
      simp only [List.append_assoc]
    rw [er] at g6
    refine ⟨t, q6, Lace.raw p 0, ?_, rfl, (t9.trans (t3.trans t6)).seq pre.tab, SqL.of g6, fun G7 r7 => ?_⟩
    · rw [← er, List.length_append, List.length_append, lh]; show 22 + 4 + _ ≤ _; omega
    rw [LpM.raw_zero]
    -- the page
    refine ⟨_, rfl, _, rfl, Lace.sum (Lace.raw p 0), 4, by decide, rfl, fun G8 q8 r8 m8 g8 => ?_⟩
    refine ⟨_, _, _, _, rfl, rfl, r8 _ _ (r7 _ _ (t6 _ _ (t3 _ _ e9))), g8, (by rw [lh, LpM.le_length]; decide), fun q9 G9 m9 r9 g9 => ?_⟩
    refine ⟨_, rfl, _, _, _, _, rfl, rfl, g9, r9 _ _ (r8 _ _ (r7 _ _ (t6 _ _ g3))), (by rw [List.length_append, lh, LpM.le_length]; omega), fun q10 G10 m10 r10 g10 => ?_⟩
    have t10 : Same H G9 := (t9.trans (t3.trans t6)).trans ((r7.trans r8).trans r9)
    refine k G10 q10 (t10.trans r10) (t10.free m10) ?_
    rw [g10, ← hh, ← ht]
    unfold Lace.encode
    generalize Lace.sum (Lace.raw p 0) = S
    unfold Lace.raw
    simp only [List.append_assoc]
end
end Lp
end
section
set_option Elab.async false
set_option linter.all false
set_option maxRecDepth 100000
set_option maxHeartbeats 2000000
namespace Lp
open PySem PySem.Spec PyProof.Rows L2
section
variable {P : Program} {w : World} {K : PySem.W.Frag} {mg : Str → Option Value} {base : Heap}
abbrev sJud : Stmt := top 32
def spJud (K : PySem.W.Frag) : Sp := fun vs H Q _ => ∃ (t d : Addr) (b : Bytes) (st : Nat), vs = [.ref t, .ref d, .int (st : Int)] ∧ SqL K H t (vn LpM.tbl) ∧ SqL K H d (vb b) ∧ st ≤ b.length ∧ b.length ≤ 100000 ∧ ∀ H', Same H H' → Q (.int (LpM.jv (Lace.judge (b.drop st)))) H'
theorem scJud : FnScope ["table", "data", "start", "there", "place", "count", "length", "page"] ["table", "data", "start"] (defScope sJud) := ⟨rfl, rfl, rfl, by decide +kernel, rfl, by decide +kernel, by decide +kernel⟩
structure JudC (mg : Str → Option Value) : Prop where
  no : Cst mg "NO_PAGE" (-1)
  wt : Cst mg "WAITS_FOR_MORE" 0
  fl : Cst mg "FLAGS_AT" 5
  tf : Cst mg "TOP_FLAGS" 7
  ct : Cst mg "COUNT_AT" 26
  mv : Cst mg "MOST_VALUES" 16
  va : Cst mg "VALUES_AT" 27
  su : Cst mg "SUM_AT" 22
  len : mg "len" = none
  min : mg "min" = none
  rng : mg "range" = none
  sum : mg "sum" = none
theorem vb_ints (b : Bytes) : vb b = (b.map fun c => (c.toNat : Int)).map V.int := by
  unfold vb
  rw [List.map_map]
  rfl
theorem ok_jud {f : Addr} {fd : FuncData} (F : Fun K "judge" "judge" sJud f fd) (hM : Mrk K mg) (C : JudC mg) (fS : Has P w K mg base 2 "sum_of_page" ["table", "page"] (spSop K)) (fN : Has P w K mg base 1 "number_at" ["data", "start", "count"] (spNum K)) :
    FnOk P w K mg base CX0 3 f fd ["table", "data", "start"] (spJud K) := by
  refine F.ok scJud (fun vs H Q E h => ?_) (fun cdv A outer s H vs Q E hr h => ?_)
  · obtain ⟨t, d, b, st, rfl, _⟩ := h
    rfl
  · obtain ⟨t, d, b, st, rfl, hT, hD, hst, hlen, k⟩ := h
    obtain ⟨mk, hmk, hmT⟩ := hM
    have hr1 : Room 1 _ := hr.mono (by decide)
    refine ⟨_, pss_cons (ps_set (i := 3) scJud.nd rfl (Or.inl rfl) (pe_op op_sub (pe_callB call_len_seq rfl C.len PySem.boot_len (pa_cons (pv 1) pa_nil)) (pv 2)))
      (pss_cons (ps_for PassesOwn.never rfl (pi_range1 rfl C.rng (pa_cons (pe_callB (call_min2 rfl) rfl C.min PyProof.Rows.boot_min (pa_cons (pv 3) (pa_cons (pe_callB call_len_seq rfl C.len PySem.boot_len (pa_cons (pe_glob (v := .ref mk) rfl hmk rfl) pa_nil)) pa_nil))) pa_nil)) (pg_name (i := 4) scJud.nd rfl (Or.inl rfl))
        (pss_one (ps_if (pt_cmpR op_ne (pe_ix ix_list (pv 1) (pe_op op_add (pv 2) (pv 4)) (fun _ _ => rfl)) (pe_ix ix_tup (pe_glob (v := .ref mk) rfl hmk rfl) (pv 4) (fun _ _ => rfl)) (nomark _)) (pss_one (ps_ret (pe_cst C.no))) pss_nil)))
      (pss_cons (ps_if (PW.pt (pw_and (pt_cmpR op_gt (pv 3) (pe_cst C.fl) (nomark _)) (pw_and1 (pt_cmpR op_gt (pe_ix ix_list (pv 1) (pe_op op_add (pv 2) (pe_cst C.fl)) (fun _ _ => rfl)) (pe_cst C.tf) (nomark _))))) (pss_one (ps_ret (pe_cst C.no))) pss_nil)
      (pss_cons (ps_if (pt_cmpR op_le (pv 3) (pe_cst C.ct) (nomark _)) (pss_one (ps_ret (pe_cst C.wt))) pss_nil)
      (pss_cons (ps_set (i := 5) scJud.nd rfl (Or.inl rfl) (pe_ix ix_list (pv 1) (pe_op op_add (pv 2) (pe_cst C.ct)) (fun _ _ => rfl)))
      (pss_cons (ps_if (pt_cmpR op_gt (pv 5) (pe_cst C.mv) (nomark _)) (pss_one (ps_ret (pe_cst C.no))) pss_nil)
      (pss_cons (ps_if (pt_cmpR op_lt (pv 3) (pe_op op_add (pe_cst C.va) (pv 5)) (nomark _)) (pss_one (ps_ret (pe_cst C.wt))) pss_nil)
      (pss_cons (ps_set (i := 6) scJud.nd rfl (Or.inl rfl) (pe_op op_add (pe_op op_add (pe_cst C.va) (pv 5)) (pe_callB (cr_sum rfl) rfl C.sum PyProof.Rows.boot_sum (pa_cons (pe_slice sl_B (pv 1) (po_some (pe_op op_add (pv 2) (pe_cst C.va))) (po_some (pe_op op_add (pe_op op_add (pv 2) (pe_cst C.va)) (pv 5)))) pa_nil))))
      (pss_cons (ps_if (pt_cmpR op_lt (pv 3) (pv 6) (nomark _)) (pss_one (ps_ret (pe_cst C.wt))) pss_nil)
      (pss_cons (ps_set (i := 7) scJud.nd rfl (Or.inl rfl) (pe_slice sl_B (pv 1) (po_some (pv 2)) (po_some (pe_op op_add (pv 2) (pv 6)))))
      (pss_cons (ps_if (pt_cmpR op_ne (pe_has fS hr (pa_cons (pv 0) (pa_cons (pv 7) pa_nil))) (pe_has fN hr1 (pa_cons (pv 7) (pa_cons (pe_cst C.su) (pa_cons pe_int pa_nil)))) (nomark _)) (pss_one (ps_ret (pe_cst C.no))) pss_nil)
      (pss_one (ps_ret (pv 6))))))))))))), ?_⟩
    have hcl : (b.drop st).length = b.length - st := List.length_drop
    have hcx : ∀ i : Nat, (b.drop st)[i]? = b[st + i]? := fun i => List.getElem?_drop
    have ctk : ∀ n : Nat, (b.drop st).take n = (b.drop st).take (st + n - st) := fun n => by rw [Nat.add_sub_cancel_left]
    have eth : (((vb b).length : Nat) : Int) - (st : Int) = (((b.drop st).length : Nat) : Int) := by rw [hcl, vb_length]; omega
    refine ⟨_, rfl, d, _, rfl, .inl hD, _, rfl, _, _, rfl, rfl, ?_⟩
    generalize hc : b.drop st = c at *
    have emin : (if (((vb Lace.MARK).length : Nat) : Int) < (((vb b).length : Nat) : Int) - (st : Int) then (((vb Lace.MARK).length : Nat) : Int) else (((vb b).length : Nat) : Int) - (st : Int)) = ((min c.length 5 : Nat) : Int) := by
      rw [eth]
      show (if (5 : Int) < _ then (5 : Int) else _) = _
      split <;> omega
    refine ⟨_, rfl, mk, _, rfl, .inr (hmT _), _, _, rfl, ((min c.length 5 : Nat) : Int), congrArg (fun z => [V.int z]) emin, by omega, by omega, ?_⟩
    rw [Int.toNat_natCast]
    refine for_range (n := min c.length 5) (fun i σ H' => ∃ v : Option V, H' = H ∧ (∀ j x y, j < i → c[j]? = some x → Lace.MARK[j]? = some y → x = y) ∧ σ = [some (.ref t), some (.ref d), some (.int (st : Int)), some (.int ((((vb b).length : Nat) : Int) - (st : Int))), v, none, none, none]) ⟨none, rfl, fun j x y hj => absurd hj (Nat.not_lt_zero _), rfl⟩ ?_ ?_
    · rintro i σ H' hi ⟨v, rfl, hinv, rfl⟩
      obtain ⟨x, hx⟩ : ∃ x, c[i]? = some x := ⟨_, List.getElem?_eq_getElem (show i < c.length by omega)⟩
      obtain ⟨y, hy⟩ : ∃ y, Lace.MARK[i]? = some y := ⟨_, List.getElem?_eq_getElem (show i < Lace.MARK.length by show i < 5; omega)⟩
      refine ⟨_, rfl, _, rfl, _, rfl, _, _, rfl, rfl, d, _, _, _, rfl, rfl, hD, at_of (j := st + i) (by omega) (vb_at (by rw [← hcx]; exact hx)), _, rfl, mk, _, _, _, rfl, rfl, hmT _, at_of (j := i) (by omega) (vb_at hy), rfl, _, rfl, iteB (fun hb => ?_) fun hb => ?_⟩
      · have ne : x ≠ y := fun e => by subst e; simp at hb
        have q := k H' (Same.refl H')
        rw [LpM.judge_mark (LpM.pre_no (by omega) hx hy ne)] at q
        exact q
      · have e : x = y := by
          have hb' : V.int (x.toNat : Int) = V.int (y.toNat : Int) := by simpa using hb
          injection hb' with h1
          exact UInt8.toNat_inj.mp (by omega)
        refine ⟨some (.int (0 + i)), rfl, fun j x' y' hj h1 h2 => ?_, rfl⟩
        by_cases hji : j = i
        · subst hji
          rw [hx] at h1
          rw [hy] at h2
          cases h1
          cases h2
          exact e
        · exact hinv j x' y' (by omega) h1 h2
    · rintro σ H' ⟨v, rfl, hinv, rfl⟩
      have mark : (c.take 5).isPrefixOf Lace.MARK = true := LpM.pre_yes fun i x y h5 hx hy => hinv i x y (by obtain ⟨h1, _⟩ := List.getElem?_eq_some_iff.mp hx; omega) hx hy
      have fin : ∀ (v : Int) (H1 : Hp), Same H' H1 → LpM.jv (Lace.judge c) = v → Q (.int v) H1 := fun v H1 h1 h2 => by rw [← h2]; exact k H1 h1
      have eth' : (((vb b).length : Nat) : Int) - (st : Int) = ((c.length : Nat) : Int) := eth
      refine nx_of (seq_and (decide ((5 : Int) < (((vb b).length : Nat) : Int) - (st : Int))) (decide ((7 : Int) < ((Lace.byteAt c 5 : Nat) : Int))) ?_ ?_ ?_)
      · exact fun R hR => ⟨_, rfl, _, _, rfl, rfl, _, rfl, hR⟩
      · intro hb R hR
        have h5 : 5 < c.length := by have := of_decide_eq_true hb; omega
        obtain ⟨x, hx⟩ : ∃ x, c[5]? = some x := ⟨_, List.getElem?_eq_getElem h5⟩
        rw [LpM.byteAt_of hx] at hR
        exact ⟨_, rfl, _, rfl, _, _, rfl, rfl, d, _, _, _, rfl, rfl, hD, at_of (j := st + 5) (by omega) (vb_at (by rw [← hcx]; exact hx)), _, _, rfl, rfl, _, rfl, hR⟩
      refine iteB (fun hb => ?_) fun hb => ?_
      · rw [Bool.and_eq_true, decide_eq_true_eq, decide_eq_true_eq] at hb
        obtain ⟨x, hx⟩ : ∃ x, c[5]? = some x := ⟨_, List.getElem?_eq_getElem (show 5 < c.length by omega)⟩
        rw [LpM.byteAt_of hx] at hb
        exact fin _ H' (Same.refl _) (by rw [LpM.judge_flags hx (by omega)]; rfl)
      have fore : LpM.Fore c := ⟨mark, fun q => by
        rw [Bool.and_eq_false_iff, decide_eq_false_iff_not, decide_eq_false_iff_not] at hb
        omega⟩
      -- if there <= COUNT_AT
      refine ⟨_, rfl, _, _, rfl, rfl, _, rfl, iteB (fun hb => ?_) fun hb => ?_⟩
      · have := of_decide_eq_true hb
        exact fin _ H' (Same.refl _) (by rw [LpM.judge_few fore (by omega)]; rfl)
      have h27 : 27 ≤ c.length := by have := of_decide_eq_false hb; omega
      -- count
      obtain ⟨x, hx⟩ : ∃ x, c[26]? = some x := ⟨_, List.getElem?_eq_getElem (show 26 < c.length by omega)⟩
      have hx26 := LpM.byteAt_of hx
      refine ⟨_, rfl, _, rfl, _, _, rfl, rfl, d, _, _, _, rfl, rfl, hD, at_of (j := st + 26) (by omega) (vb_at (by rw [← hcx]; exact hx)), ?_⟩
      refine ⟨_, rfl, _, _, rfl, rfl, _, rfl, iteB (fun hb => ?_) fun hb => ?_⟩
      · have := of_decide_eq_true hb
        exact fin _ H' (Same.refl _) (by rw [LpM.judge_count hx (by omega)]; rfl)
      have h16 : x.toNat ≤ 16 := by have := of_decide_eq_false hb; omega
      have jr := LpM.judge_rest fore h27 (by rw [hx26]; exact h16)
      have hh : Lace.headOf c = 27 + x.toNat := by unfold Lace.headOf; rw [hx26]
      refine ⟨_, rfl, _, rfl, _, _, rfl, rfl, _, _, rfl, rfl, _, rfl, iteB (fun hb => ?_) fun hb => ?_⟩
      · have := of_decide_eq_true hb
        exact fin _ H' (Same.refl _) (by rw [jr, if_pos (.inl (by omega))]; rfl)
      have hhead : Lace.headOf c ≤ c.length := by have := of_decide_eq_false hb; omega
      -- length
      refine ⟨_, rfl, _, _, rfl, rfl, _, rfl, _, rfl, _, _, rfl, rfl, _, rfl, _, rfl, _, _, rfl, rfl, _, rfl, _, _, rfl, rfl, _, rfl, d, b, st + 27, st + 27 + x.toNat, rfl, congrArg some (by omega), congrArg some (by omega), hD, fun p1 H1 n1 s1 e1 => ?_⟩
      rw [Nat.add_sub_cancel_left] at e1
      have elac : Lace.lacingOf c = ((b.drop (st + 27)).take x.toNat).map fun y => y.toNat := by
        unfold Lace.lacingOf
        rw [hx26, ← hc, List.drop_drop]
      generalize hlb : (b.drop (st + 27)).take x.toNat = lb at e1 elac
      have eL : (27 : Int) + (x.toNat : Int) + (lb.map fun y => (y.toNat : Int)).sum = ((Lace.lengthOf c : Nat) : Int) := by
        unfold Lace.lengthOf
        rw [elac, ← LpM.foldr_sum, hh]
        omega
      refine ⟨p1, lb.map fun y => (y.toNat : Int), rfl, SqL.of (by rw [e1, vb_ints]), _, _, rfl, rfl, ?_⟩
      generalize hS : (lb.map fun y => (y.toNat : Int)).sum = S at eL
      have lb5 : Lace.lengthOf c ≤ 5000 := LpM.length_bound (by rw [hx26]; exact h16)
      have hle := LpM.head_le c
      refine ⟨_, rfl, _, rfl, _, _, rfl, rfl, _, rfl, iteB (fun hb => ?_) fun hb => ?_⟩
      · have := of_decide_eq_true hb
        exact fin _ H1 s1 (by rw [jr, if_pos (.inr (by omega))]; rfl)
      have hL : Lace.lengthOf c ≤ c.length := by have := of_decide_eq_false hb; omega
      -- the page
      refine ⟨_, rfl, _, rfl, _, rfl, _, rfl, _, rfl, _, _, rfl, rfl, _, rfl, d, b, st, st + Lace.lengthOf c, rfl, rfl, congrArg some (by omega), s1.seq hD, fun p2 H2 n2 s2 e2 => ?_⟩
      rw [Nat.add_sub_cancel_left, hc] at e2
      have s12 := s1.trans s2
      refine ⟨_, rfl, _, rfl, t, p2, c.take (Lace.lengthOf c), ?_, rfl, s12.seq hT, SqL.of e2, fun H3 s3 => ?_⟩
      · rw [List.length_take]
        omega
      refine ⟨_, rfl, p2, c.take (Lace.lengthOf c), 22, 4, rfl, SqL.of (s3 _ _ e2), fun H4 s4 => ⟨rfl, _, rfl, iteB (fun hb => ?_) fun hb => ?_⟩⟩
      · have ne : ¬ Lace.sum (Lace.unsummed (c.take (Lace.lengthOf c))) = Lace.unle ((c.drop 22).take 4) := fun e => by
          rw [LpM.cut4 (by omega), e] at hb
          simp at hb
        exact fin _ H4 ((s12.trans s3).trans s4) (by rw [jr, if_neg (by omega), if_neg ne]; rfl)
      · have e : Lace.sum (Lace.unsummed (c.take (Lace.lengthOf c))) = Lace.unle ((c.drop 22).take 4) := by
          have hb' : V.int ((Lace.sum (Lace.unsummed (c.take (Lace.lengthOf c))) : Nat) : Int) = V.int ((Lace.unle (((c.take (Lace.lengthOf c)).drop 22).take 4) : Nat) : Int) := by simpa using hb
          injection hb' with h1
          rw [LpM.cut4 (by omega)] at h1
          omega
        refine ⟨_, rfl, ?_⟩
        refine fin _ H4 ((s12.trans s3).trans s4) ?_
        rw [jr, if_neg (by omega), if_pos e]
        show ((Lace.lengthOf c : Nat) : Int) = 27 + (x.toNat : Int) + S
        rw [eL]
end
end Lp
end
section
set_option Elab.async false
set_option linter.all false
set_option maxRecDepth 100000
set_option maxHeartbeats 2000000
namespace Lp
open PySem PySem.Spec PyProof.Rows L2
def PcAt (H0 H : Hp) (v : V) (x : Bytes × Bool) : Prop := ∃ r l : Addr, v = .ref r ∧ H0 r = none ∧ H0 l = none ∧ H r = some (.tup [.ref l, .bl x.2]) ∧ H l = some (.lst (vb x.1))
abbrev Pcs (H0 H : Hp) : List V → List (Bytes × Bool) → Prop := Paired (PcAt H0 H)
theorem Pcs.keep {H0 H0' H H' : Hp} {vs : List V} {ps : List (Bytes × Bool)} (h : Pcs H0 H vs ps) (f : ∀ b, H0 b = none → H0' b = none) (k : ∀ b o, H0 b = none → H b = some o → H' b = some o) : Pcs H0' H' vs ps :=
  Paired.mapP h fun v x ⟨r, l, e, n1, n2, h1, h2⟩ => ⟨r, l, e, f _ n1, f _ n2, k _ _ n1 h1, k _ _ n2 h2⟩
section
variable {P : Program} {w : World} {K : PySem.W.Frag} {mg : Str → Option Value} {base : Heap}
abbrev sPcs : Stmt := top 33
def spPcs (K : PySem.W.Frag) : Sp := fun vs H Q _ => ∃ (d : Addr) (b : Bytes), vs = [.ref d] ∧ SqL K H d (vb b) ∧ 27 ≤ b.length ∧ b.length = Lace.lengthOf b ∧ b.length ≤ 100000 ∧
  ∀ (H' : Hp) (q : Addr) (ys : List V), Same H H' → H q = none → H' q = some (.lst ys) → Pcs H H' ys (Lace.pieces (Lace.lacingOf b) (b.drop (Lace.headOf b)) []) → Q (.ref q) H'
theorem scPcs : FnScope ["page", "count", "lacing", "pieces", "begin", "end", "value"] ["page"] (defScope sPcs) := ⟨rfl, rfl, rfl, by decide +kernel, rfl, by decide +kernel, by decide +kernel⟩
theorem ok_pcs {f : Addr} {fd : FuncData} (F : Fun K "pieces_of" "pieces_of" sPcs f fd) (cC : Cst mg "COUNT_AT" 26) (cV : Cst mg "VALUES_AT" 27) (cF : Cst mg "FULL_VALUE" 255) : FnOk P w K mg base CX0 1 f fd ["page"] (spPcs K) := by
  refine F.ok scPcs (fun vs H Q E h => ?_) (fun cdv A outer s H vs Q E hr h => ?_)
  · obtain ⟨d, b, rfl, _⟩ := h
    rfl
  · obtain ⟨d, b, rfl, hD, h27, hlen, hbig, k⟩ := h
    refine ⟨_, pss_cons (ps_set (i := 1) scPcs.nd rfl (Or.inl rfl) (pe_ix ix_list (pv 0) (pe_cst cC) (fun _ _ => rfl)))
      (pss_cons (ps_set (i := 2) scPcs.nd rfl (Or.inl rfl) (pe_slice sl_B (pv 0) (po_some (pe_cst cV)) (po_some (pe_op op_add (pe_cst cV) (pv 1)))))
      (pss_cons (ps_set (i := 3) scPcs.nd rfl (Or.inl rfl) (pe_lstQ pa_nil))
      (pss_cons (ps_set (i := 4) scPcs.nd rfl (Or.inl rfl) (pe_op op_add (pe_cst cV) (pv 1)))
      (pss_cons (ps_set (i := 5) scPcs.nd rfl (Or.inl rfl) (pv 4))
      (pss_cons (ps_for PassesOwn.never rfl (pi_list (pv 2)) (pg_name (i := 6) scPcs.nd rfl (Or.inl rfl))
        (pss_cons (ps_aug (i := 5) scPcs.nd rfl (Or.inl rfl) (pv 6) ip_add)
        (pss_one (ps_if (pt_cmpR op_lt (pv 6) (pe_cst cF) (nomark _))
          (pss_cons (ps_expr (pe_bm PySem.F.plainAttrs_list PySem.F.slot_list_append PySem.F.type_list_append mt_append (pv 3) (pa_cons (pe_tupQ (pa_cons (pe_slice sl_B (pv 0) (po_some (pv 4)) (po_some (pv 5))) (pa_cons pe_bl pa_nil))) pa_nil)))
            (pss_one (ps_set (i := 4) scPcs.nd rfl (Or.inl rfl) (pv 5)))) pss_nil))))
      (pss_cons (ps_if (pt_cmpR op_lt (pv 4) (pv 5) (nomark _))
          (pss_one (ps_expr (pe_bm PySem.F.plainAttrs_list PySem.F.slot_list_append PySem.F.type_list_append mt_append (pv 3) (pa_cons (pe_tupQ (pa_cons (pe_slice sl_B (pv 0) (po_some (pv 4)) (po_some (pv 5))) (pa_cons pe_bl pa_nil))) pa_nil)))) pss_nil)
      (pss_one (ps_ret (pv 3))))))))), ?_⟩
    obtain ⟨x, hx⟩ : ∃ x, b[26]? = some x := ⟨_, List.getElem?_eq_getElem (show 26 < b.length by omega)⟩
    have hx26 := LpM.byteAt_of hx
    have hh : Lace.headOf b = 27 + x.toNat := by unfold Lace.headOf; rw [hx26]
    have elac : Lace.lacingOf b = ((b.drop 27).take x.toNat).map fun y => y.toNat := by
      unfold Lace.lacingOf
      rw [hx26]
    refine ⟨_, rfl, d, _, _, _, rfl, rfl, hD, at_of (j := 26) rfl (vb_at hx), ?_⟩
    refine ⟨_, rfl, _, rfl, _, rfl, _, _, rfl, rfl, _, rfl, d, b, 27, 27 + x.toNat, rfl, rfl, congrArg some (by omega), hD, fun p1 H1 n1 s1 e1 => ?_⟩
    rw [Nat.add_sub_cancel_left] at e1
    refine ⟨by show 0 ≤ 1000000; decide, fun q H2 n2 s2 e2 => ?_⟩
    refine ⟨_, rfl, _, _, rfl, rfl, ?_⟩
    refine ⟨_, rfl, ?_⟩
    have hm : ∀ (i : Nat) (v : UInt8), ((b.drop 27).take x.toNat)[i]? = some v → (Lace.lacingOf b)[i]? = some v.toNat := fun i v hv => by
      rw [elac, List.getElem?_map, hv]
      rfl
    have ll : (Lace.lacingOf b).length = ((b.drop 27).take x.toNat).length := by rw [elac, List.length_map]
    have ll2 : ((b.drop 27).take x.toNat).length ≤ 255 := by
      have := LpM.b_lt x
      rw [List.length_take]
      omega
    generalize (b.drop 27).take x.toNat = lb at e1 hm ll ll2
    have t2 := s1.trans s2
    have e1' := s2 _ _ e1
    have npq : p1 ≠ q := ne_of_none e1 n2
    have nHq : H q = none := s1.free n2
    have nq : ∀ a, H2 a = none → a ≠ q := fun a ha z => by subst z; rw [e2] at ha; cases ha
    refine ⟨_, rfl, p1, rfl, ⟨_, SqL.of e1'⟩, for_list (K := K) (a := p1) (xs := vb lb) (fun i σ H' => ∃ (v : Option V) (st e : Nat) (out : List (Bytes × Bool)) (ys : List V), LpM.PcInv b (Lace.lacingOf b) i st e out ∧ out.length ≤ i ∧ Same H H' ∧ Dom H2 H' ∧ H' p1 = some (.lst (vb lb)) ∧ H' q = some (.lst ys) ∧ Pcs H2 H' ys out ∧
      σ = [some (.ref d), some (.int (x.toNat : Int)), some (.ref p1), some (.ref q), some (.int (st : Int)), some (.int (e : Int)), v]) ⟨none, Lace.headOf b, Lace.headOf b, [], [], LpM.PcInv.start hlen, Nat.le_refl _, t2, Dom.refl _, e1', e2, .nil, ?_⟩ ?_ ?_ ?_⟩
    · rw [hh]
      rfl
    · rintro i σ H' _ ⟨_, _, _, _, _, _, _, _, _, h1, _⟩
      exact SqL.of h1
    · rintro i y σ H' hi ⟨v, st, e, out, ys, pc, ol, sm, dm, hp1, hq, hys, rfl⟩
      obtain ⟨z, hz, rfl⟩ := vb_get hi
      have hil : i < lb.length := (List.getElem?_eq_some_iff.mp hz).1
      refine ⟨_, rfl, _, rfl, _, _, rfl, rfl, ?_⟩
      refine ⟨_, rfl, _, _, rfl, rfl, _, rfl, iteB (fun hb => ?_) fun hb => ?_⟩
      · have hb' := of_decide_eq_true hb
        have pc' := pc.ends (hm i z hz) (by omega)
        refine ⟨_, rfl, .inl ⟨rfl, _, SqL.of hq⟩, _, rfl, _, rfl, _, rfl, _, rfl, _, rfl, d, b, st, e + z.toNat, rfl, rfl, rfl, sm.seq hD, fun p3 H3 n3 s3 e3 => ?_⟩
        refine ⟨by show 2 ≤ 1000000; decide, fun p4 H4 n4 s4 e4 => ?_⟩
        have hq4 := s4 _ _ (s3 _ _ hq)
        have hl : ys.length = out.length := Paired.length hys
        have s34 := s3.trans s4
        have m3 : H2 p3 = none := dm _ n3
        have m4 : H2 p4 = none := dm _ (s3.free n4)
        refine ⟨q, ys, _, rfl, rfl, hq4, by rw [line_eq]; omega, ?_⟩
        refine ⟨_, rfl, some (.int z.toNat), e + z.toNat, e + z.toNat, _, ys ++ [.ref p4], pc', ?_, (sm.trans s34).wr nHq, (dm.trans s34.dom).up, (by rw [upd_ne npq]; exact s34 _ _ hp1), upd_same, ?_, rfl⟩
        · rw [List.length_append]
          show _ + 1 ≤ _
          omega
        · refine Paired.snoc (hys.keep (fun _ h => h) fun a o n h => by rw [upd_ne (nq a n)]; exact s34 _ _ h) ⟨p4, p3, rfl, m4, m3, ?_, ?_⟩
          · rw [upd_ne (nq _ m4)]; exact e4
          · rw [upd_ne (nq _ m3)]; exact s4 _ _ e3
      · have hb' := of_decide_eq_false hb
        have e255 : z.toNat = 255 := by have := LpM.b_lt z; omega
        have pc' := pc.full (by rw [← e255]; exact hm i z hz)
        refine ⟨some (.int z.toNat), st, e + 255, out, ys, pc', by omega, sm, dm, hp1, hq, hys, ?_⟩
        rw [← e255]
        rfl
    · rintro σ H' ⟨v, st, e, out, ys, pc, ol, sm, dm, hp1, hq, hys, rfl⟩
      rw [vb_length, ← ll] at pc
      rw [vb_length] at ol
      have fin := pc.last
      have hl : ys.length = out.length := Paired.length hys
      have fr : ∀ a, H2 a = none → H a = none := fun a h => t2.free h
      refine ⟨_, rfl, _, rfl, _, _, rfl, rfl, _, rfl, iteB (fun hb => ?_) fun hb => ?_⟩
      · have hb' := of_decide_eq_true hb
        rw [if_pos (by omega)] at fin
        refine ⟨_, rfl, .inl ⟨rfl, _, SqL.of hq⟩, _, rfl, _, rfl, _, rfl, _, rfl, _, rfl, d, b, st, e, rfl, rfl, rfl, sm.seq hD, fun p3 H3 n3 s3 e3 => ?_⟩
        refine ⟨by show 2 ≤ 1000000; decide, fun p4 H4 n4 s4 e4 => ?_⟩
        have s34 := s3.trans s4
        have m3 : H2 p3 = none := dm _ n3
        have m4 : H2 p4 = none := dm _ (s3.free n4)
        refine ⟨q, ys, _, rfl, rfl, s34 _ _ hq, by rw [line_eq]; omega, _, rfl, ?_⟩
        refine k _ q (ys ++ [.ref p4]) ((sm.trans s34).wr nHq) nHq upd_same ?_
        rw [fin]
        refine Paired.snoc (hys.keep fr fun a o n h => by rw [upd_ne (nq a n)]; exact s34 _ _ h) ⟨p4, p3, rfl, fr _ m4, fr _ m3, ?_, ?_⟩
        · rw [upd_ne (nq _ m4)]; exact e4
        · rw [upd_ne (nq _ m3)]; exact s4 _ _ e3
      · have hb' := of_decide_eq_false hb
        rw [if_neg (by omega), List.append_nil] at fin
        refine ⟨_, rfl, ?_⟩
        refine k _ q ys sm nHq hq ?_
        rw [fin]
        exact hys.keep fr fun _ _ _ h => h
end
end Lp
end
section
set_option Elab.async false
set_option linter.all false
set_option maxRecDepth 100000
set_option maxHeartbeats 2000000
namespace Lp
open PySem PySem.Spec PyProof.Rows L2
structure HasM (P : Program) (w : World) (K : PySem.W.Frag) (mg : Str → Option Value) (base : Heap) (k : Nat) (C : Addr) (m : Str) (ps : List Str) (sp : Sp) : Prop where
  ex : ∃ (f : Addr) (fd : FuncData), Meth K C m f ∧ Binds K fd ps [] ∧ FnOk P w K mg base CX0 k f fd ps sp
structure HasC (P : Program) (w : World) (K : PySem.W.Frag) (mg : Str → Option Value) (base : Heap) (k : Nat) (C : Addr) (x : Str) (ps : List Str) (sp : Sp) : Prop where
  ex : ∃ (f : Addr) (fd : FuncData), Mk K C f ∧ mg x = some (.ref C) ∧ Binds K fd ps [] ∧ FnOk P w K mg base CX0 k f fd ps sp
section
variable {X : Cx} {k : Nat} {C : Addr} {x m : Str} {ps : List Str} {sp : Sp} {p pos apos : Pos} {e o : Expr} {es : List Expr} {t : TA} {ta : TE}
theorem pe_hasM {pl : Sem Bool} (h : HasM X.prog X.w X.K X.mg X.base k C m ps sp) (he : PE X o ta) (c : Cls X.K C) (hr : Room k X.A) (ha : PA X (e :: es) t)
    (hst : starEach (e :: es) X.env = (false, eval e X.env) :: starEach es X.env := by rfl) (hpl : (backTo pos (starEach es X.env)).any (·.1) = false := by rfl)
    (ht : eval (.Call (.Attribute o m apos) (e :: es) [] pos) X.env = (do
      let ov ← eval o X.env
      standAt apos.atName
      let (f, first) ← holding [ov] (getMethod ov m pl)
      callWith pos f first (backTo pos (starEach (e :: es) X.env)) (backToKw pos (keywordEach [] X.env))) := by rfl) : PE X (.Call (.Attribute o m apos) (e :: es) [] pos) (tMeth C m sp [] E0 ta t) := by
  obtain ⟨f, fd, hm, b, F⟩ := h.ex
  exact pe_meth he c hm F hr b .nil pass0 ha hst hpl ht
theorem pe_hasM0 {pl : Sem Bool} (h : HasM X.prog X.w X.K X.mg X.base k C m ps sp) (he : PE X o ta) (c : Cls X.K C) (hr : Room k X.A)
    (ht : eval (.Call (.Attribute o m apos) [] [] pos) X.env = (do
      let ov ← eval o X.env
      standAt apos.atName
      let (f, first) ← holding [ov] (getMethod ov m pl)
      callWith pos f first (backTo pos (starEach [] X.env)) (backToKw pos (keywordEach [] X.env))) := by rfl) : PE X (.Call (.Attribute o m apos) [] [] pos) (tMeth C m sp [] E0 ta tNil) := by
  obtain ⟨f, fd, hm, b, F⟩ := h.ex
  exact pe_meth0 he c hm F hr b .nil pass0 ht
theorem pe_hasC (h : HasC X.prog X.w X.K X.mg X.base k C x ps sp) (hr : Room (k + 1) X.A) (ha : PA X (e :: es) t) (hg : Gl X x := by rfl) (hdb : (x == ("__debug__" : Str)) = false := by decide)
    (he : starEach (e :: es) X.env = (false, eval e X.env) :: starEach es X.env := by rfl) (hpl : (backTo pos (starEach es X.env)).any (·.1) = false := by rfl) : PE X (.Call (.Name x p) (e :: es) [] pos) (tMake C sp [] E0 t) := by
  obtain ⟨f, fd, M, hm, b, F⟩ := h.ex
  exact pe_make M F hr hg hm b .nil pass0 ha hdb he hpl
theorem pe_hasC0 (h : HasC X.prog X.w X.K X.mg X.base k C x ps sp) (hr : Room (k + 1) X.A) (hg : Gl X x := by rfl) (hdb : (x == ("__debug__" : Str)) = false := by decide) : PE X (.Call (.Name x p) [] [] pos) (tMake C sp [] E0 tNil) := by
  obtain ⟨f, fd, M, hm, b, F⟩ := h.ex
  exact pe_make0 M F hr hg hm b .nil pass0 hdb
end
structure Frm (fp fp' : List Addr) (H H' : Hp) : Prop where
  keep : ∀ b o, H b = some o → b ∉ fp → H' b = some o
  new : ∀ b ∈ fp', b ∈ fp ∨ H b = none
theorem Frm.refl (fp : List Addr) (H : Hp) : Frm fp fp H H := ⟨fun _ _ h _ => h, fun _ h => .inl h⟩
theorem Frm.trans {a b c : List Addr} {H H1 H2 : Hp} (x : Frm a b H H1) (y : Frm b c H1 H2) : Frm a c H H2 where
  keep := fun q o h n => y.keep q o (x.keep q o h n) fun m => (x.new q m).elim n fun z => by rw [h] at z; cases z
  new := fun q m => by
    rcases y.new q m with z | z
    · exact x.new q z
    · by_cases hq : q ∈ a
      · exact .inl hq
      · refine .inr ?_
        cases e : H q with
        | none => rfl
        | some o => rw [x.keep q o e hq] at z; cases z
theorem Frm.same {fp : List Addr} {H H' : Hp} (s : Same H H') : Frm fp fp H H' := ⟨fun b o h _ => s b o h, fun _ h => .inl h⟩
theorem Frm.up {fp : List Addr} {H : Hp} {q : Addr} {o : HO} (h : q ∈ fp) : Frm fp fp H (upd H q o) := ⟨fun b u e n => by
  have ne : b ≠ q := fun z => n (by rw [z]; exact h)
  rw [upd_ne ne]; exact e, fun _ m => .inl m⟩
theorem Frm.sub {a b c : List Addr} {H H' : Hp} (x : Frm a b H H') (h : ∀ q ∈ c, q ∈ b) : Frm a c H H' := ⟨x.keep, fun q m => x.new q (h q m)⟩
theorem ifc {b : Bool} {σ : L2.St} {H : Hp} {u v : V} {R : VK} (z : V) (h1 : b = true → u = z) (h2 : b = false → v = z) (h : R z H) : if b = true then tC u σ H R else tC v σ H R := by
  cases b with
  | true => rw [if_pos rfl, h1 rfl]; exact h
  | false => rw [if_neg Bool.false_ne_true, h2 rfl]; exact h
end Lp
end
section
set_option Elab.async false
set_option linter.all false
set_option maxRecDepth 100000
set_option maxHeartbeats 2000000
namespace Lp
open PySem PySem.Spec PyProof.Rows L2
structure WF where
  stream : V
  table : V
  lastc : V
  pw : V
  number : V
  flags : V
  position : V
  lacing : V
  body : V
def wF4 (a b c d : V) : List (Str × V) := [(("stream" : Str), a), (("table" : Str), b), (("last_came" : Str), c), (("pages_waiting" : Str), d)]
def wF (x : WF) : List (Str × V) := [(("stream" : Str), x.stream), (("table" : Str), x.table), (("last_came" : Str), x.lastc), (("pages_waiting" : Str), x.pw), (("number" : Str), x.number), (("flags" : Str), x.flags), (("position" : Str), x.position), (("lacing" : Str), x.lacing), (("body" : Str), x.body)]
def begun (fs : List (Str × V)) (n fl la bo : V) : List (Str × V) := putF "body" bo (putF "lacing" la (putF "position" (.int 18446744073709551615) (putF "flags" fl (putF "number" n fs))))
theorem begun4 (a b c d n fl la bo : V) : begun (wF4 a b c d) n fl la bo = wF ⟨a, b, c, d, n, fl, .int 18446744073709551615, la, bo⟩ := by rfl
theorem begun9 (x : WF) (n fl la bo : V) : begun (wF x) n fl la bo = wF { x with number := n, flags := fl, position := .int 18446744073709551615, lacing := la, body := bo } := by rfl
structure WTx (K : PySem.W.Frag) (mg : Str → Option Value) (C : Addr) : Prop where
  cl : Cls K C
  nStream : NoAttr K C "stream"
  nTable : NoAttr K C "table"
  nLast : NoAttr K C "last_came"
  nPw : NoAttr K C "pages_waiting"
  nNumber : NoAttr K C "number"
  nFlags : NoAttr K C "flags"
  nPos : NoAttr K C "position"
  nLacing : NoAttr K C "lacing"
  nBody : NoAttr K C "body"
  cAll : Cst mg "ALL_BITS_SET" 18446744073709551615
  cFirst : Cst mg "FIRST_PAGE" 2
  cMidst : Cst mg "IN_MIDST" 1
  cLastP : Cst mg "LAST_PAGE" 4
  cFull : Cst mg "FULL_VALUE" 255
  cMost : Cst mg "MOST_VALUES" 16
  cNums : Cst mg "PAGE_NUMBERS" 4294967296
  len : mg "len" = none
section
variable {P : Program} {w : World} {K : PySem.W.Frag} {mg : Str → Option Value} {base : Heap} {C : Addr}
abbrev sBeg : Stmt := inClass (top 41) 1
def spBeg (C : Addr) : Sp := fun vs H Q _ => ∃ (p dx : Addr) (fs : List (Str × V)) (n fl : V), vs = [.ref p, n, fl] ∧ H p = some (.ins C dx fs) ∧ fs.length ≤ 100 ∧
  ∀ (H' : Hp) (la bo : Addr), H la = none → H bo = none → la ≠ bo → (∀ b o, H b = some o → b ≠ p → H' b = some o) → H' p = some (.ins C dx (begun fs n fl (.ref la) (.ref bo))) → H' la = some (.lst []) → H' bo = some (.lst []) → Q .non H'
theorem scBeg : FnScope ["self", "number", "flags"] ["self", "number", "flags"] (defScope sBeg) := ⟨rfl, rfl, rfl, by decide +kernel, rfl, by decide +kernel, by decide +kernel⟩
theorem ok_beg {f : Addr} {fd : FuncData} (F : Fun K "begin_page" "Writer.begin_page" sBeg f fd) (T : WTx K mg C) : FnOk P w K mg base CX0 1 f fd ["self", "number", "flags"] (spBeg C) := by
  refine F.ok scBeg (fun vs H Q E h => ?_) (fun cdv A outer s H vs Q E hr h => ?_)
  · obtain ⟨p, dx, fs, n, fl, rfl, _⟩ := h
    rfl
  · obtain ⟨p, dx, fs, n, fl, rfl, hp, hlen, k⟩ := h
    refine ⟨_, pss_cons (ps_fld (pv 0) (pv 1) rfl) (pss_cons (ps_fld (pv 0) (pv 2) rfl) (pss_cons (ps_fld (pv 0) (pe_cst T.cAll) rfl) (pss_cons (ps_fld (pv 0) (pe_lstQ pa_nil) rfl) (pss_one (ps_fld (pv 0) (pe_lstQ pa_nil) rfl))))), ?_⟩
    have l1 := length_putF "number" n fs
    have l2 := length_putF "flags" fl (putF "number" n fs)
    have l3 := length_putF "position" (.int 18446744073709551615) (putF "flags" fl (putF "number" n fs))
    refine ⟨_, rfl, _, rfl, p, C, dx, _, rfl, hp, T.cl, T.nNumber, by omega, ?_⟩
    refine ⟨_, rfl, _, rfl, p, C, dx, _, rfl, upd_same, T.cl, T.nFlags, by omega, ?_⟩
    refine ⟨_, rfl, p, C, dx, _, rfl, upd_same, T.cl, T.nPos, by omega, ?_⟩
    refine ⟨by show 0 ≤ 1000000; decide, fun la H4 n4 s4 e4 => ?_⟩
    have l4 := length_putF "lacing" (.ref la) (putF "position" (.int 18446744073709551615) (putF "flags" fl (putF "number" n fs)))
    have m4 : la ≠ p ∧ H la = none := by
      obtain ⟨a1, a2⟩ := upd_none n4
      obtain ⟨_, a3⟩ := upd_none a2
      obtain ⟨_, a4⟩ := upd_none a3
      exact ⟨a1, a4⟩
    have f4 : ∀ b o, H b = some o → b ≠ p → H4 b = some o := fun b o hb nb => s4 _ _ (by rw [upd_ne nb, upd_ne nb, upd_ne nb]; exact hb)
    refine ⟨_, rfl, p, C, dx, _, rfl, s4 _ _ upd_same, T.cl, T.nLacing, by omega, ?_⟩
    refine ⟨by show 0 ≤ 1000000; decide, fun bo H5 n5 s5 e5 => ?_⟩
    obtain ⟨m5, n5'⟩ := upd_none n5
    have mb : H bo = none := by
      cases e : H bo with
      | none => rfl
      | some o => rw [f4 _ _ e m5] at n5'; cases n5'
    have nlb : la ≠ bo := ne_of_none e4 n5'
    refine ⟨_, rfl, p, C, dx, _, rfl, s5 _ _ upd_same, T.cl, T.nBody, by omega, ?_⟩
    refine k _ la bo m4.2 mb nlb (fun b o hb nb => ?_) upd_same ?_ ?_
    · rw [upd_ne nb]
      exact s5 _ _ (by rw [upd_ne nb]; exact f4 b o hb nb)
    · rw [upd_ne m4.1]
      exact s5 _ _ (by rw [upd_ne m4.1]; exact e4)
    · rw [upd_ne m5]
      exact e5
abbrev sWi : Stmt := inClass (top 41) 0
abbrev wV (x : Lace.Wr) (t pw la bo : Addr) : WF := ⟨.int (x.stream : Nat), .ref t, .bl x.ended, .ref pw, .int (x.number : Nat), .int (Lace.flagsOf x.midst x.fresh false : Nat), .int (x.position : Nat), .ref la, .ref bo⟩
structure WrAt (C : Addr) (H : Hp) (t a : Addr) (x : Lace.Wr) (fp : List Addr) : Prop where
  ex : ∃ (dx pw la bo : Addr) (ps : List Addr),
    H a = some (.ins C dx (wF (wV x t pw la bo))) ∧
    H pw = some (.lst (ps.map V.ref)) ∧ Paired (fun p b => H p = some (.lst (vb b))) ps x.waits ∧ H la = some (.lst (vn x.lacing)) ∧ H bo = some (.lst (vb x.body)) ∧
    (pw ≠ la ∧ pw ≠ bo ∧ la ≠ bo ∧ pw ∉ ps ∧ la ∉ ps ∧ bo ∉ ps) ∧ fp = a :: pw :: la :: bo :: ps
def spWi (C : Addr) : Sp := fun vs H Q _ => ∃ (p dx t : Addr) (n : Nat), vs = [.ref p, .int (n : Int), .ref t] ∧ H p = some (.ins C dx []) ∧
  ∀ (H' : Hp) (fp : List Addr), WrAt C H' t p (Lace.wrInit n) fp → (∀ b o, H b = some o → b ≠ p → H' b = some o) → (∀ b ∈ fp, b = p ∨ H b = none) → Q .non H'
theorem scWi : FnScope ["self", "stream", "table"] ["self", "stream", "table"] (defScope sWi) := ⟨rfl, rfl, rfl, by decide +kernel, rfl, by decide +kernel, by decide +kernel⟩
theorem ok_wi {f : Addr} {fd : FuncData} (F : Fun K "__init__" "Writer.__init__" sWi f fd) (T : WTx K mg C) (mB : HasM P w K mg base 1 C "begin_page" ["self", "number", "flags"] (spBeg C)) : FnOk P w K mg base CX0 2 f fd ["self", "stream", "table"] (spWi C) := by
  refine F.ok scWi (fun vs H Q E h => ?_) (fun cdv A outer s H vs Q E hr h => ?_)
  · obtain ⟨p, dx, t, n, rfl, _⟩ := h
    rfl
  · obtain ⟨p, dx, t, n, rfl, hp, k⟩ := h
    refine ⟨_, pss_cons (ps_fld (pv 0) (pv 1) rfl) (pss_cons (ps_fld (pv 0) (pv 2) rfl) (pss_cons (ps_fld (pv 0) pe_bl rfl) (pss_cons (ps_fld (pv 0) (pe_lstQ pa_nil) rfl) (pss_one (ps_expr (pe_hasM mB (pv 0) T.cl hr (pa_cons pe_int (pa_cons (pe_cst T.cFirst) pa_nil)))))))), ?_⟩
    refine ⟨_, rfl, _, rfl, p, C, dx, _, rfl, hp, T.cl, T.nStream, by decide, ?_⟩
    refine ⟨_, rfl, _, rfl, p, C, dx, _, rfl, upd_same, T.cl, T.nTable, by show 1 < 1000; decide, ?_⟩
    refine ⟨_, rfl, p, C, dx, _, rfl, upd_same, T.cl, T.nLast, by show 2 < 1000; decide, ?_⟩
    refine ⟨by show 0 ≤ 1000000; decide, fun pw H4 n4 s4 e4 => ?_⟩
    have m4 : pw ≠ p ∧ H pw = none := by
      obtain ⟨a1, a2⟩ := upd_none n4
      obtain ⟨_, a3⟩ := upd_none a2
      obtain ⟨_, a4⟩ := upd_none a3
      exact ⟨a1, a4⟩
    have f4 : ∀ b o, H b = some o → b ≠ p → H4 b = some o := fun b o hb nb => s4 _ _ (by rw [upd_ne nb, upd_ne nb, upd_ne nb]; exact hb)
    refine ⟨_, rfl, p, C, dx, _, rfl, s4 _ _ upd_same, T.cl, T.nPw, by show 3 < 1000; decide, ?_⟩
    refine ⟨_, rfl, p, dx, _, rfl, upd_same, rfl, p, dx, wF4 (.int (n : Int)) (.ref t) (.bl false) (.ref pw), _, _, rfl, upd_same, by show 4 ≤ 100; decide, fun H5 la bo n1 n2 nlb keep h1 h2 h3 => ?_⟩
    obtain ⟨la1, la2⟩ := upd_none n1
    obtain ⟨bo1, bo2⟩ := upd_none n2
    have fr : ∀ b, H4 b = none → b ≠ p → H b = none := fun b hb nb => by
      cases e : H b with
      | none => rfl
      | some o => rw [f4 _ _ e nb] at hb; cases hb
    have hpw : H5 pw = some (.lst []) := keep pw _ (by rw [upd_ne m4.1]; exact e4) m4.1
    refine k H5 [p, pw, la, bo] ⟨⟨dx, pw, la, bo, [], ?_, hpw, .nil, h2, h3, ⟨ne_of_none e4 la2, ne_of_none e4 bo2, nlb, by simp, by simp, by simp⟩, rfl⟩⟩ (fun b o hb nb => keep b o (by rw [upd_ne nb]; exact f4 b o hb nb) nb) fun b hb => ?_
    · rw [h1, begun4]
      rfl
    · simp at hb
      rcases hb with rfl | rfl | rfl | rfl
      · exact .inl rfl
      · exact .inr m4.2
      · exact .inr (fr _ la2 la1)
      · exact .inr (fr _ bo2 bo1)
end
end Lp
end
section
set_option Elab.async false
set_option linter.all false
set_option maxRecDepth 100000
set_option maxHeartbeats 2000000
namespace Lp
open PySem PySem.Spec PyProof.Rows L2
section
variable {P : Program} {w : World} {K : PySem.W.Frag} {mg : Str → Option Value} {base : Heap} {C : Addr}
theorem WrAt.there {H : Hp} {t a : Addr} {x : Lace.Wr} {fp : List Addr} (h : WrAt C H t a x fp) : ∀ b ∈ fp, ∃ o, H b = some o := by
  obtain ⟨dx, pw, la, bo, ps, hA, hPw, hPs, hLa, hBo, _, rfl⟩ := h.ex
  have all : ∀ {ps : List Addr} {ws : List Bytes}, Paired (fun p b => H p = some (HO.lst (vb b))) ps ws → ∀ b ∈ ps, ∃ o, H b = some o := by
    intro ps ws q
    induction q with
    | nil => intro b hb; simp at hb
    | cons r _ ih =>
      intro b hb
      rcases List.mem_cons.mp hb with rfl | hb
      · exact ⟨_, r⟩
      · exact ih b hb
  intro b hb
  simp only [List.mem_cons] at hb
  rcases hb with rfl | rfl | rfl | rfl | hb
  · exact ⟨_, hA⟩
  · exact ⟨_, hPw⟩
  · exact ⟨_, hLa⟩
  · exact ⟨_, hBo⟩
  · exact all hPs b hb
theorem Paired.mem_keep {H H' : Hp} : ∀ {ps : List Addr} {ws : List Bytes}, Paired (fun p b => H p = some (HO.lst (vb b))) ps ws → (∀ p ∈ ps, ∀ o, H p = some o → H' p = some o) → Paired (fun p b => H' p = some (HO.lst (vb b))) ps ws
  | _, _, .nil, _ => .nil
  | _, _, .cons r t, k => .cons (k _ List.mem_cons_self _ r) (Paired.mem_keep t fun p m => k p (List.mem_cons_of_mem _ m))
theorem Paired.mem_some {H : Hp} {ps : List Addr} {ws : List Bytes} (q : Paired (fun p b => H p = some (HO.lst (vb b))) ps ws) : ∀ p ∈ ps, ∃ b, H p = some (HO.lst (vb b)) := by
  induction q with
  | nil => intro b hb; simp at hb
  | cons r _ ih =>
    intro b hb
    rcases List.mem_cons.mp hb with rfl | hb
    · exact ⟨_, r⟩
    · exact ih b hb
theorem WrAt.keep {H H' : Hp} {t a : Addr} {x : Lace.Wr} {fp : List Addr} (h : WrAt C H t a x fp) (k : ∀ b ∈ fp, ∀ o, H b = some o → H' b = some o) : WrAt C H' t a x fp := by
  obtain ⟨dx, pw, la, bo, ps, hA, hPw, hPs, hLa, hBo, d, rfl⟩ := h.ex
  exact ⟨dx, pw, la, bo, ps, k _ (by simp) _ hA, k _ (by simp) _ hPw, Paired.mem_keep hPs fun p m o => k p (by simp [m]) o, k _ (by simp) _ hLa, k _ (by simp) _ hBo, d, rfl⟩
abbrev sFin : Stmt := inClass (top 41) 2
def spFin (K : PySem.W.Frag) (C : Addr) : Sp := fun vs H Q _ => ∃ (a t : Addr) (x : Lace.Wr) (fp : List Addr) (last : Bool) (l : List Nat) (v : Nat), vs = [.ref a, .int ((4 * last.toNat : Nat) : Int)] ∧ WrAt C H t a x fp ∧ SqL K H t (vn LpM.tbl) ∧
  x.lacing = l ++ [v] ∧ (∀ v ∈ x.lacing, v < 256) ∧ x.lacing.length ≤ 16 ∧ x.body.length ≤ 50000 ∧ x.waits.length ≤ 1000 ∧ ∀ (H' : Hp) (fp' : List Addr), WrAt C H' t a (x.done last (v == 255)) fp' → Frm fp fp' H H' → Q .non H'
theorem scFin : FnScope ["self", "last_page", "flags", "page", "following"] ["self", "last_page"] (defScope sFin) := ⟨rfl, rfl, rfl, by decide +kernel, rfl, by decide +kernel, by decide +kernel⟩
theorem flags_or (m f l : Bool) : Builtin.bitOr ((Lace.flagsOf m f false : Nat) : Int) ((4 * l.toNat : Nat) : Int) = ((Lace.flagsOf m f l : Nat) : Int) := by
  cases m <;> cases f <;> cases l <;> decide
theorem flags_lt (m f l : Bool) : Lace.flagsOf m f l < 256 := by
  cases m <;> cases f <;> cases l <;> decide
theorem ok_fin {f : Addr} {fd : FuncData} (F : Fun K "finish_page" "Writer.finish_page" sFin f fd) (T : WTx K mg C) (mB : HasM P w K mg base 1 C "begin_page" ["self", "number", "flags"] (spBeg C))
    (fP : Has P w K mg base 3 "make_page" ["table", "flags", "position", "stream", "number", "lacing", "body"] (spPg K)) : FnOk P w K mg base CX0 4 f fd ["self", "last_page"] (spFin K C) := by
  refine F.ok scFin (fun vs H Q E h => ?_) (fun cdv A outer s H vs Q E hr h => ?_)
  · obtain ⟨a, t, x, fp, last, l, v, rfl, _⟩ := h
    rfl
  · obtain ⟨a, t, x, fp, last, l, v, rfl, hw, ht, hl, hsm, hlen, hbl, hwl, k⟩ := h
    obtain ⟨dx, pw, la, bo, ps, hA, hPw, hPs, hLa, hBo, ⟨d1, d2, d3, d4, d5, d6⟩, rfl⟩ := hw.ex
    have hr1 : Room 1 _ := hr.mono (by decide)
    refine ⟨_, pss_cons (ps_set (i := 2) scFin.nd rfl (Or.inl rfl) (pe_op op_or (pe_fld (pv 0) rfl) (pv 1)))
      (pss_cons (ps_set (i := 3) scFin.nd rfl (Or.inl rfl) (pe_has fP hr (pa_cons (pe_fld (pv 0) rfl) (pa_cons (pv 2) (pa_cons (pe_fld (pv 0) rfl) (pa_cons (pe_fld (pv 0) rfl) (pa_cons (pe_fld (pv 0) rfl) (pa_cons (pe_fld (pv 0) rfl) (pa_cons (pe_fld (pv 0) rfl) pa_nil)))))))))
      (pss_cons (ps_expr (pe_bm PySem.F.plainAttrs_list PySem.F.slot_list_append PySem.F.type_list_append mt_append (pe_fld (pv 0) rfl) (pa_cons (pv 3) pa_nil)))
      (pss_cons (ps_set (i := 4) scFin.nd rfl (Or.inl rfl) (pe_ifExp (pt_cmpR op_eq (pe_ix ix_list (pe_fld (pv 0) rfl) (pe_un un_neg pe_int) (fun _ _ => rfl)) (pe_cst T.cFull) (nomark _)) (pe_cst T.cMidst) pe_int))
      (pss_one (ps_expr (pe_hasM mB (pv 0) T.cl hr1 (pa_cons (pe_op op_mod (pe_op op_add (pe_fld (pv 0) rfl) pe_int) (pe_cst T.cNums)) (pa_cons (pv 4) pa_nil)))))))), ?_⟩
    refine ⟨_, rfl, a, C, dx, _, _, rfl, hA, T.cl, T.nFlags, rfl, _, rfl, _, _, rfl, rfl, ?_⟩
    refine ⟨_, rfl, a, C, dx, _, _, rfl, hA, T.cl, T.nTable, rfl, _, rfl, _, rfl, a, C, dx, _, _, rfl, hA, T.cl, T.nPos, rfl, _, rfl, a, C, dx, _, _, rfl, hA, T.cl, T.nStream, rfl, _, rfl, a, C, dx, _, _, rfl, hA, T.cl, T.nNumber, rfl,
      _, rfl, a, C, dx, _, _, rfl, hA, T.cl, T.nLacing, rfl, _, rfl, a, C, dx, _, _, rfl, hA, T.cl, T.nBody, rfl,
      t, la, bo, ⟨Lace.flagsOf x.midst x.fresh last, x.position, x.stream, x.number, x.lacing, x.body⟩, ?_, ⟨ht, hLa, hBo, hsm, flags_lt _ _ _, by show x.lacing.length < 256; omega, hbl⟩, fun H1 q s1 nq e1 => ?_⟩
    · show [V.ref t, V.int (Builtin.bitOr _ _), _, _, _, _, _] = _
      rw [flags_or]
    -- pages_waiting.append(page)
    have hps : ps.length = x.waits.length := Paired.length hPs
    refine ⟨_, rfl, a, C, dx, _, _, rfl, s1 _ _ hA, T.cl, T.nPw, rfl, .inl ⟨rfl, _, SqL.of (s1 _ _ hPw)⟩, _, rfl, pw, _, _, rfl, rfl, s1 _ _ hPw, by rw [List.length_map, line_eq]; omega, ?_⟩
    have npa : a ≠ pw := ne_of hA hPw (by intro z; cases z)
    have nla : la ≠ a := ne_of hLa hA (by intro z; cases z)
    have hA2 : (upd H1 pw (.lst (ps.map V.ref ++ [V.ref q]))) a = some (.ins C dx (wF (wV x t pw la bo))) := by rw [upd_ne npa]; exact s1 _ _ hA
    have hLa2 : (upd H1 pw (.lst (ps.map V.ref ++ [V.ref q]))) la = some (.lst (vn x.lacing)) := by rw [upd_ne d1.symm]; exact s1 _ _ hLa
    have hq2 : (upd H1 pw (.lst (ps.map V.ref ++ [V.ref q]))) q = some (.lst (vb (Lace.encode ⟨Lace.flagsOf x.midst x.fresh last, x.position, x.stream, x.number, x.lacing, x.body⟩))) := by rw [upd_ne (ne_of_none hPw nq).symm]; exact e1
    have hPw2 : (upd H1 pw (.lst (ps.map V.ref ++ [V.ref q]))) pw = some (.lst ((ps ++ [q]).map V.ref)) := by rw [upd_same, List.map_append]; rfl
    have fr2 : ∀ b o, H b = some o → b ≠ pw → (upd H1 pw (.lst (ps.map V.ref ++ [V.ref q]))) b = some o := fun b o hb nb => by rw [upd_ne nb]; exact s1 _ _ hb
    have dm2 : Dom H (upd H1 pw (.lst (ps.map V.ref ++ [V.ref q]))) := s1.dom.up
    generalize upd H1 pw (.lst (ps.map V.ref ++ [V.ref q])) = H2 at hA2 hLa2 hq2 hPw2 fr2 dm2 ⊢
    -- following
    have elast : atI (vn x.lacing) (-1) = some (.int (v : Int)) := by rw [hl, vn_append]; exact atI_last _ _
    refine ⟨_, rfl, a, C, dx, _, _, rfl, hA2, T.cl, T.nLacing, rfl, _, rfl, la, _, _, _, rfl, rfl, SqL.of hLa2, elast, rfl, _, rfl, ?_⟩
    refine ifc (.int ((Lace.flagsOf (v == 255) false false : Nat) : Int)) (fun hb => ?_) (fun hb => ?_) ?_
    · have z := of_decide_eq_true hb
      injection z with z
      have hv : v = 255 := by omega
      subst hv
      rfl
    · have z := of_decide_eq_false hb
      have e1 : (v == 255) = false := beq_eq_false_iff_ne.mpr fun e => z (by rw [e]; rfl)
      rw [e1]
      rfl
    -- begin_page
    refine ⟨_, rfl, a, dx, _, rfl, hA2, rfl, _, rfl, a, C, dx, _, _, rfl, hA2, T.cl, T.nNumber, rfl, _, _, rfl, rfl, _, _, rfl, rfl, (by show (0 : Int) < 4294967296; decide), _, rfl, a, dx, _, _, _, rfl, hA2, (by show 9 ≤ 100; decide), fun H3 la' bo' m1 m2 nlb keep h1 h2 h3 => ?_⟩
    have hpa : ∀ p ∈ ps, p ≠ a := fun p hp => by
      obtain ⟨b, hb⟩ := Paired.mem_some hPs p hp
      exact ne_of hb hA (by intro z; cases z)
    have nqa : q ≠ a := (ne_of_none hA nq).symm
    have kf : ∀ b o, H b = some o → b ∉ (a :: pw :: la :: bo :: ps) → H3 b = some o := fun b o hb nb => by
      simp only [List.mem_cons, not_or] at nb
      exact keep b o (fr2 b o hb nb.2.1) nb.1
    refine k H3 (a :: pw :: la' :: bo' :: (ps ++ [q])) ⟨dx, pw, la', bo', ps ++ [q], ?_, keep _ _ hPw2 npa.symm, ?_, h2, h3, ⟨ne_of_none hPw2 m1, ne_of_none hPw2 m2, nlb, ?_, ?_, ?_⟩, rfl⟩ ⟨kf, fun b hb => ?_⟩
    · rw [h1, begun9]
      have en : ((x.number : Nat) : Int) + 1 = ((x.number + 1 : Nat) : Int) := rfl
      have em : (((x.number : Nat) : Int) + 1) % 4294967296 = (((x.number + 1) % 2 ^ 32 : Nat) : Int) := by omega
      show some (HO.ins C dx (wF ⟨_, _, _, _, .int ((((x.number : Nat) : Int) + 1) % 4294967296), _, _, _, _⟩)) = _
      rw [em]
      rfl
    · refine Paired.snoc (Paired.mem_keep hPs fun p hp o ho => keep _ _ (fr2 _ _ ho fun z => d4 (by rw [← z]; exact hp)) (hpa p hp)) (keep _ _ hq2 nqa)
    · intro z
      rcases List.mem_append.mp z with z | z
      · exact d4 z
      · exact ne_of_none hPw nq (List.mem_singleton.mp z)
    · intro z
      rcases List.mem_append.mp z with z | z
      · obtain ⟨b, hb⟩ := Paired.mem_some hPs _ z
        have := dm2 _ m1
        rw [hb] at this; cases this
      · rw [List.mem_singleton.mp z, hq2] at m1; cases m1
    · intro z
      rcases List.mem_append.mp z with z | z
      · obtain ⟨b, hb⟩ := Paired.mem_some hPs _ z
        have := dm2 _ m2
        rw [hb] at this; cases this
      · rw [List.mem_singleton.mp z, hq2] at m2; cases m2
    · simp only [List.mem_cons, List.mem_append, List.not_mem_nil, or_false] at hb ⊢
      rcases hb with rfl | rfl | rfl | rfl | hb | rfl
      · exact .inl (.inl rfl)
      · exact .inl (.inr (.inl rfl))
      · exact .inr (dm2 _ m1)
      · exact .inr (dm2 _ m2)
      · exact .inl (.inr (.inr (.inr (.inr hb))))
      · exact .inr nq
end
end Lp
end
section
set_option Elab.async false
set_option linter.all false
set_option maxRecDepth 100000
set_option maxHeartbeats 2000000
namespace Lp
open PySem PySem.Spec PyProof.Rows L2
structure Out (H : Hp) (d : Addr) (o : HO) (fp : List Addr) : Prop where
  at_ : H d = some o
  no : d ∉ fp
theorem Frm.out {fp fp' : List Addr} {H H' : Hp} {d : Addr} {o : HO} (f : Frm fp fp' H H') (h : Out H d o fp) : Out H' d o fp' :=
  ⟨f.keep d o h.at_ h.no, fun m => (f.new d m).elim h.no fun z => by rw [h.at_] at z; cases z⟩
abbrev tabO : HO := .lst (vn LpM.tbl)
theorem seq_if1 {t : TT} {a r : TS} {D : Ends} {σ : L2.St} {H : Hp} (b : Bool) (R : Hp → Prop) (h0 : ∀ R' : Bool → Hp → Prop, R' b H → t σ H R') (h1 : b = true → ∀ D' : Ends, (∀ H3, R H3 → D'.nx σ H3) → a D' σ H) (h2 : b = false → R H)
    (h3 : ∀ H3, R H3 → r D σ H3) : tSeq (tIfS t a tNext) r D σ H := by
  refine h0 _ ?_
  cases b with
  | true => exact h1 rfl { D with nx := r D } h3
  | false => exact h3 H (h2 rfl)
section
variable {P : Program} {w : World} {K : PySem.W.Frag} {mg : Str → Option Value} {base : Heap} {C : Addr}
theorem wr_fld {H : Hp} {t a dx pw la bo : Addr} {ps : List Addr} {x y : Lace.Wr} (hA : H a = some (.ins C dx (wF (wV x t pw la bo)))) (hPw : H pw = some (.lst (ps.map V.ref))) (hPs : Paired (fun p b => H p = some (HO.lst (vb b))) ps x.waits) (hLa : H la = some (.lst (vn x.lacing))) (hBo : H bo = some (.lst (vb x.body)))
    (ds : pw ≠ la ∧ pw ≠ bo ∧ la ≠ bo ∧ pw ∉ ps ∧ la ∉ ps ∧ bo ∉ ps) (e1 : y.waits = x.waits) (e2 : y.lacing = x.lacing) (e3 : y.body = x.body) : WrAt C (upd H a (.ins C dx (wF (wV y t pw la bo)))) t a y (a :: pw :: la :: bo :: ps) := by
  refine ⟨dx, pw, la, bo, ps, upd_same, ?_, ?_, ?_, ?_, ds, rfl⟩
  · rw [upd_ne (ne_of hPw hA (by intro z; cases z))]; exact hPw
  · rw [e1]
    refine Paired.mem_keep hPs fun p hp o ho => ?_
    obtain ⟨b, hb⟩ := Paired.mem_some hPs p hp
    rw [upd_ne (ne_of hb hA (by intro z; cases z))]; exact ho
  · rw [upd_ne (ne_of hLa hA (by intro z; cases z)), e2]; exact hLa
  · rw [upd_ne (ne_of hBo hA (by intro z; cases z)), e3]; exact hBo
abbrev sPut : Stmt := inClass (top 41) 3
def spPut (C : Addr) : Sp := fun vs H Q _ => ∃ (a t d : Addr) (x : Lace.Wr) (fp : List Addr) (p : Nat) (last : Bool) (b : Bytes), vs = [.ref a, .int (p : Int), .int ((last.toNat : Nat) : Int), .ref d] ∧ WrAt C H t a x fp ∧ Out H t tabO fp ∧ Out H d (.lst (vb b)) fp ∧ LpM.WrL x ∧ x.waits.length ≤ 10 ∧ (∀ c ∈ x.waits, c.length ≤ 5000) ∧ b.length ≤ 9000 ∧
  ∀ (H' : Hp) (fp' : List Addr) (y : Lace.Wr), y = { Lace.lay p last x (Lace.values b.length) b with ended := last } → WrAt C H' t a y fp' → LpM.WrL y → (∀ l v, y.lacing = l ++ [v] → v ≠ 255) → y.waits.length ≤ 100 → (∀ c ∈ y.waits, c.length ≤ 5000) → Frm fp fp' H H' → Q .non H'
theorem scPut : FnScope ["self", "position", "last", "packet", "begin", "value"] ["self", "position", "last", "packet"] (defScope sPut) := ⟨rfl, rfl, rfl, by decide +kernel, rfl, by decide +kernel, by decide +kernel⟩
theorem bool_one (last : Bool) : decide (V.int ((last.toNat : Nat) : Int) = V.int 1) = last := by cases last <;> rfl
theorem ok_put {f : Addr} {fd : FuncData} (F : Fun K "put_packet" "Writer.put_packet" sPut f fd) (T : WTx K mg C) (fL : Has P w K mg base 1 "lacing_of" ["length"] spLac) (mF : HasM P w K mg base 4 C "finish_page" ["self", "last_page"] (spFin K C)) :
    FnOk P w K mg base CX0 5 f fd ["self", "position", "last", "packet"] (spPut C) := by
  refine F.ok scPut (fun vs H Q E h => ?_) (fun cdv A outer s H vs Q E hr h => ?_)
  · obtain ⟨a, t, d, x, fp, p, last, b, rfl, _⟩ := h
    rfl
  · obtain ⟨a, t, d, x, fp, p, last, b, rfl, hw, ht, hd, ok, hwl, hpg, hbl, k⟩ := h
    have hr1 : Room 1 _ := hr.mono (by decide)
    refine ⟨_, pss_cons (ps_fld (pv 0) (pe_cmpR op_eq (pv 2) pe_int (nomark _)) rfl)
      (pss_cons (ps_set (i := 4) scPut.nd rfl (Or.inl rfl) pe_int)
      (pss_one (ps_for PassesOwn.never rfl (pi_list (pe_has fL hr1 (pa_cons (pe_callB call_len_seq rfl T.len PySem.boot_len (pa_cons (pv 3) pa_nil)) pa_nil))) (pg_name (i := 5) scPut.nd rfl (Or.inl rfl))
        (pss_cons (ps_expr (pe_bm PySem.F.plainAttrs_list PySem.F.slot_list_append PySem.F.type_list_append mt_append (pe_fld (pv 0) rfl) (pa_cons (pv 5) pa_nil)))
        (pss_cons (ps_expr (pe_bm PySem.F.plainAttrs_list PySem.F.slot_list_extend PySem.F.type_list_extend mt_extend (pe_fld (pv 0) rfl) (pa_cons (pe_slice sl_B (pv 3) (po_some (pv 4)) (po_some (pe_op op_add (pv 4) (pv 5)))) pa_nil)))
        (pss_cons (ps_aug (i := 4) scPut.nd rfl (Or.inl rfl) (pv 5) ip_add)
        (pss_cons (ps_if (pt_cmpR op_lt (pv 5) (pe_cst T.cFull) (nomark _)) (pss_one (ps_fld (pv 0) (pv 1) rfl)) pss_nil)
        (pss_one (ps_if (PW.pt (pw_and (pt_cmpR op_lt (pv 5) (pe_cst T.cFull) (nomark _)) (pw_and1 (pt_truth (pe_fld (pv 0) rfl) (fun _ => rfl)))))
          (pss_one (ps_expr (pe_hasM mF (pv 0) T.cl hr (pa_cons (pe_cst T.cLastP) pa_nil))))
          (pss_one (ps_if (pt_cmpR op_eq (pe_callB call_len_seq rfl T.len PySem.boot_len (pa_cons (pe_fld (pv 0) rfl) pa_nil)) (pe_cst T.cMost) (nomark _)) (pss_one (ps_expr (pe_hasM mF (pv 0) T.cl hr (pa_cons pe_int pa_nil)))) pss_nil))))))))))), ?_⟩
    -- self.last_came = last == 1
    obtain ⟨dx, pw, la, bo, ps, hA, hPw, hPs, hLa, hBo, ds, efp⟩ := hw.ex
    refine ⟨_, rfl, rfl, _, rfl, a, C, dx, _, rfl, hA, T.cl, T.nLast, by show 9 < 1000; decide, ?_⟩
    have hw1 : WrAt C (upd H a (.ins C dx (putF "last_came" (.bl (decide (V.int ((last.toNat : Nat) : Int) = V.int 1))) (wF (wV x t pw la bo))))) t a { x with ended := last } fp := by
      rw [bool_one, efp]
      exact wr_fld (y := { x with ended := last }) hA hPw hPs hLa hBo ds rfl rfl rfl
    have f1 : Frm fp fp H (upd H a (.ins C dx (putF "last_came" (.bl (decide (V.int ((last.toNat : Nat) : Int) = V.int 1))) (wF (wV x t pw la bo))))) := Frm.up (by rw [efp]; simp)
    generalize upd H a (.ins C dx (putF "last_came" (.bl (decide (V.int ((last.toNat : Nat) : Int) = V.int 1))) (wF (wV x t pw la bo)))) = H1 at hw1 f1 ⊢
    clear hA hPw hPs hLa hBo ds efp
    have ht1 := f1.out ht
    have hd1 := f1.out hd
    refine ⟨_, rfl, d, _, rfl, .inl (SqL.of hd1.at_), (vb b).length, by rw [vb_length]; omega, rfl, fun H2 q s2 nq e2 => ?_⟩
    rw [vb_length] at e2
    have f2 : Frm fp fp H1 H2 := Frm.same s2
    have hw2 : WrAt C H2 t a { x with ended := last } fp := hw1.keep fun b _ o ho => s2 b o ho
    have hq2 : Out H2 q (.lst (vn (Lace.values b.length))) fp := ⟨e2, fun m => by
      obtain ⟨o, ho⟩ := hw1.there q m
      rw [nq] at ho; cases ho⟩
    refine ⟨q, rfl, ⟨_, SqL.of e2⟩, for_list (K := K) (a := q) (xs := vn (Lace.values b.length)) (fun i σ H' => ∃ (v : Option V) (wi : Lace.Wr) (fpi : List Addr) (st : Nat), LpM.PutInv p last { x with ended := last } b.length b i wi st ∧ WrAt C H' t a wi fpi ∧ Frm fp fpi H H' ∧ Out H' t tabO fpi ∧ Out H' d (.lst (vb b)) fpi ∧ Out H' q (.lst (vn (Lace.values b.length))) fpi ∧
      σ = [some (.ref a), some (.int (p : Int)), some (.int ((last.toNat : Nat) : Int)), some (.ref d), some (.int (st : Int)), v]) ⟨none, _, fp, 0, LpM.PutInv.start ⟨ok.small, ok.len, ok.body⟩ hpg, hw2, f1.trans f2, f2.out ht1, f2.out hd1, hq2, rfl⟩ ?_ ?_ ?_⟩
    · rintro i σ H' _ ⟨_, _, _, _, _, _, _, _, _, hq, _⟩
      exact SqL.of hq.at_
    · rintro i y σ H' hi ⟨v, wi, fpi, st, pi, hw, fr, ht, hd, hq, rfl⟩
      obtain ⟨z, hz, rfl⟩ := vn_get hi
      obtain ⟨hz1, hz2⟩ := LpM.values_at hz
      have pi' := pi.step hz
      obtain ⟨dx, pw, la, bo, ps, hA, hPw, hPs, hLa, hBo, ⟨d1, d2, d3, d4, d5, d6⟩, efp⟩ := hw.ex
      have nla : la ≠ a := ne_of hLa hA (by intro z; cases z)
      have nba : bo ≠ a := ne_of hBo hA (by intro z; cases z)
      have npa : pw ≠ a := ne_of hPw hA (by intro z; cases z)
      have okl := pi.ok
      have hlen := okl.len
      have hbody := okl.body
      -- lacing.append
      refine ⟨_, rfl, a, C, dx, _, _, rfl, hA, T.cl, T.nLacing, rfl, .inl ⟨rfl, _, SqL.of hLa⟩, _, rfl, la, _, _, rfl, rfl, hLa, by rw [vn_length, line_eq]; omega, ?_⟩
      have g1 : Frm fpi fpi H' (upd H' la (.lst (vn wi.lacing ++ [.int (z : Int)]))) := Frm.up (by rw [efp]; simp)
      have hA1 : (upd H' la (.lst (vn wi.lacing ++ [.int (z : Int)]))) a = some (.ins C dx (wF (wV wi t pw la bo))) := by rw [upd_ne nla.symm]; exact hA
      have hBo1 : (upd H' la (.lst (vn wi.lacing ++ [.int (z : Int)]))) bo = some (.lst (vb wi.body)) := by rw [upd_ne d3.symm]; exact hBo
      have hPw1 : (upd H' la (.lst (vn wi.lacing ++ [.int (z : Int)]))) pw = some (.lst (ps.map V.ref)) := by rw [upd_ne d1]; exact hPw
      have hLa1 : (upd H' la (.lst (vn wi.lacing ++ [.int (z : Int)]))) la = some (.lst (vn (wi.lacing ++ [z]))) := by rw [upd_same, vn_append]; rfl
      have hPs1 : Paired (fun p b => (upd H' la (.lst (vn wi.lacing ++ [.int (z : Int)]))) p = some (HO.lst (vb b))) ps wi.waits := Paired.mem_keep hPs fun p hp o ho => by
        rw [upd_ne (fun e => d5 (by rw [← e]; exact hp))]; exact ho
      generalize upd H' la (.lst (vn wi.lacing ++ [.int (z : Int)])) = G1 at g1 hA1 hBo1 hPw1 hLa1 hPs1 ⊢
      -- body.extend
      refine ⟨_, rfl, a, C, dx, _, _, rfl, hA1, T.cl, T.nBody, rfl, .inl ⟨rfl, _, SqL.of hBo1⟩, _, rfl, _, rfl, _, rfl, _, rfl, _, rfl, _, _, rfl, rfl, _, rfl, d, b, st, st + z, rfl, rfl, congrArg some (by omega), SqL.of (g1.out hd).at_, fun p2 G2 n2 s2 e2 => ?_⟩
      rw [Nat.add_sub_cancel_left] at e2
      have hcl : ((b.drop st).take z).length ≤ z := by rw [List.length_take]; omega
      refine ⟨bo, p2, _, _, rfl, rfl, s2 _ _ hBo1, e2, by rw [vb_length, vb_length, line_eq]; omega, ?_⟩
      have nb2 : ∀ q o, G1 q = some o → q ≠ bo → (upd G2 bo (.lst (vb wi.body ++ vb ((b.drop st).take z)))) q = some o := fun q o hq nq => by rw [upd_ne nq]; exact s2 _ _ hq
      have g2 : Frm fpi fpi G1 (upd G2 bo (.lst (vb wi.body ++ vb ((b.drop st).take z)))) := (Frm.same s2).trans (Frm.up (by rw [efp]; simp))
      have hA2 := nb2 _ _ hA1 nba.symm
      have hPw2 := nb2 _ _ hPw1 d2
      have hLa2 := nb2 _ _ hLa1 d3
      have hBo2 : (upd G2 bo (.lst (vb wi.body ++ vb ((b.drop st).take z)))) bo = some (.lst (vb (wi.body ++ (b.drop st).take z))) := by rw [upd_same, vb_append]
      have hPs2 : Paired (fun p b' => (upd G2 bo (.lst (vb wi.body ++ vb ((b.drop st).take z)))) p = some (HO.lst (vb b'))) ps wi.waits := Paired.mem_keep hPs1 fun p hp o ho => nb2 _ _ ho (fun e => d6 (by rw [← e]; exact hp))
      generalize upd G2 bo (.lst (vb wi.body ++ vb ((b.drop st).take z))) = G3 at g2 hA2 hPw2 hLa2 hBo2 hPs2 ⊢
      have g3 := g1.trans g2
      generalize hch : (b.drop st).take z = ch at *
      clear nb2 s2 e2 n2 hA1 hPw1 hLa1 hBo1 hPs1 g1 g2 G1 G2
      -- begin += value
      refine ⟨_, rfl, _, rfl, _, _, rfl, rfl, ?_⟩
      -- if value < FULL_VALUE: self.position = position
      have ez : decide ((z : Int) < 255) = decide (z < 255) := decide_eq_decide.mpr (by omega)
      refine nx_of (seq_if1 (decide ((z : Int) < 255)) (fun G4 => WrAt C G4 t a (LpM.layX p (decide (z < 255)) z ch wi) fpi ∧ Frm fpi fpi G3 G4) (fun R hR => ⟨_, rfl, _, _, rfl, rfl, _, rfl, hR⟩) ?_ ?_ ?_)
      · intro hb D' hD'
        rw [ez] at hb
        refine ⟨_, rfl, _, rfl, a, C, dx, _, rfl, hA2, T.cl, T.nPos, by show 9 < 1000; decide, hD' _ ⟨?_, Frm.up (by rw [efp]; simp)⟩⟩
        rw [efp, hb]
        exact wr_fld (x := { wi with lacing := wi.lacing ++ [z], body := wi.body ++ ch }) (y := LpM.layX p true z ch wi) hA2 hPw2 hPs2 hLa2 hBo2 ⟨d1, d2, d3, d4, d5, d6⟩ rfl rfl rfl
      · intro hb
        rw [ez] at hb
        rw [hb]
        exact ⟨⟨dx, pw, la, bo, ps, hA2, hPw2, hPs2, hLa2, hBo2, ⟨d1, d2, d3, d4, d5, d6⟩, efp⟩, .refl _ _⟩
      · rintro G4 ⟨hw4, g4⟩
        have ht4 := (g3.trans g4).out ht
        have hd4 := (g3.trans g4).out hd
        have hq4 := (g3.trans g4).out hq
        have fr4 := fr.trans (g3.trans g4)
        have okx := LpM.layX_ok (pos := p) (ends := decide (z < 255)) (w := wi) (c := ch) okl hz1 hcl
        have hwt : (LpM.layX p (decide (z < 255)) z ch wi).waits.length ≤ 1000 := by
          have h1 := pi.waits
          have h2 : i < (Lace.values b.length).length := (List.getElem?_eq_some_iff.mp hz).1
          rw [LpM.values_len] at h2
          show wi.waits.length ≤ 1000
          have h1 : wi.waits.length ≤ x.waits.length + i := h1
          omega
        have hend : (LpM.layX p (decide (z < 255)) z ch wi).ended = last := pi.ended
        have elac : (LpM.layX p (decide (z < 255)) z ch wi).lacing = wi.lacing ++ [z] := rfl
        have eS : LpM.layS p last (decide (z < 255)) z ch wi = if (LpM.layX p (decide (z < 255)) z ch wi).lacing.length = Lace.VALUES ∨ (decide (z < 255) = true ∧ last = true) then (LpM.layX p (decide (z < 255)) z ch wi).done (decide (z < 255) && last) (!decide (z < 255)) else LpM.layX p (decide (z < 255)) z ch wi := rfl
        generalize LpM.layX p (decide (z < 255)) z ch wi = X at hw4 okx hwt hend elac eS
        have hxl := okx.len
        have hxb := okx.body
        have e255 : (z == 255) = !decide (z < 255) := by
          by_cases g : z < 255
          · rw [decide_eq_true g]; exact beq_eq_false_iff_ne.mpr (by omega)
          · rw [decide_eq_false g]; exact beq_iff_eq.mpr (by omega)
        obtain ⟨dx4, pw4, la4, bo4, ps4, hA4, hPw4, hPs4, hLa4, hBo4, ds4, efp4⟩ := hw4.ex
        refine if_and (decide ((z : Int) < 255)) last (fun R hR => ⟨_, rfl, _, _, rfl, rfl, _, rfl, hR⟩) (fun _ R hR => ⟨_, rfl, a, C, dx4, _, _, rfl, hA4, T.cl, T.nLast, rfl, X.ended, rfl, by rw [hend]; exact hR⟩) ?_
        rw [ez]
        refine iteB (fun hb => ?_) fun hb => ?_
        · rw [Bool.and_eq_true] at hb
          refine ⟨_, rfl, a, dx4, _, rfl, hA4, rfl, a, t, X, fpi, true, wi.lacing, z, rfl, hw4, SqL.of ht4.at_, elac, okx.small, okx.len, by omega, hwt, fun G5 fp5 hw5 g5 => ?_⟩
          refine ⟨some (.int z), _, fp5, st + z, pi', ?_, fr4.trans g5, g5.out ht4, g5.out hd4, g5.out hq4, rfl⟩
          rw [eS, if_pos (.inr hb), hb.1, hb.2]
          rw [e255, hb.1] at hw5
          exact hw5
        · have hno : ¬ (decide (z < 255) = true ∧ last = true) := fun q => by
            rw [q.1, q.2] at hb
            exact absurd hb (by decide)
          refine ⟨_, rfl, a, C, dx4, _, _, rfl, hA4, T.cl, T.nLacing, rfl, la4, _, rfl, .inl (SqL.of hLa4), rfl, _, rfl, iteB (fun hc => ?_) fun hc => ?_⟩
          · have hc' := of_decide_eq_true hc
            injection hc' with hc'
            rw [vn_length] at hc'
            have h16 : X.lacing.length = 16 := by omega
            have hel : (decide (z < 255) && last) = false := hb
            refine ⟨_, rfl, a, dx4, _, rfl, hA4, rfl, a, t, X, fpi, false, wi.lacing, z, rfl, hw4, SqL.of ht4.at_, elac, okx.small, okx.len, by omega, hwt, fun G5 fp5 hw5 g5 => ?_⟩
            refine ⟨some (.int z), _, fp5, st + z, pi', ?_, fr4.trans g5, g5.out ht4, g5.out hd4, g5.out hq4, rfl⟩
            rw [eS, if_pos (.inl h16), hel]
            rw [e255] at hw5
            exact hw5
          · have hc' := of_decide_eq_false hc
            have h16 : ¬ X.lacing.length = 16 := fun q => hc' (by rw [vn_length, q]; rfl)
            refine ⟨some (.int z), _, fpi, st + z, pi', ?_, fr4, ht4, hd4, hq4, rfl⟩
            rw [eS, if_neg (by rintro (q | q); · exact h16 q
                               · exact hno q)]
            exact hw4
    · rintro σ H' ⟨v, wi, fpi, st, pi, hw, fr, ht, hd, hq, rfl⟩
      rw [vn_length] at pi
      obtain ⟨e1, e2⟩ := pi.last_
      rw [LpM.lay_ended] at e1
      have hwl' := pi.waits
      rw [LpM.values_len] at hwl'
      have hwl' : wi.waits.length ≤ x.waits.length + (b.length / 255 + 1) := hwl'
      exact k H' fpi wi e1.symm hw pi.ok e2 (by omega) pi.pgs fr
abbrev sFls : Stmt := inClass (top 41) 4
def flushed (x : Lace.Wr) : Lace.Wr := if x.lacing = [] then x else x.done false false
def spFls (C : Addr) : Sp := fun vs H Q _ => ∃ (a t : Addr) (x : Lace.Wr) (fp : List Addr), vs = [.ref a] ∧ WrAt C H t a x fp ∧ Out H t tabO fp ∧ LpM.WrL x ∧ (∀ l v, x.lacing = l ++ [v] → v ≠ 255) ∧ x.waits.length ≤ 10 ∧
  ∀ (H' : Hp) (fp' : List Addr), WrAt C H' t a (flushed x) fp' → Frm fp fp' H H' → Q .non H'
theorem scFls : FnScope ["self"] ["self"] (defScope sFls) := ⟨rfl, rfl, rfl, by decide +kernel, rfl, by decide +kernel, by decide +kernel⟩
theorem ok_fls {f : Addr} {fd : FuncData} (F : Fun K "flush_page" "Writer.flush_page" sFls f fd) (T : WTx K mg C) (mF : HasM P w K mg base 4 C "finish_page" ["self", "last_page"] (spFin K C)) : FnOk P w K mg base CX0 5 f fd ["self"] (spFls C) := by
  refine F.ok scFls (fun vs H Q E h => ?_) (fun cdv A outer s H vs Q E hr h => ?_)
  · obtain ⟨a, t, x, fp, rfl, _⟩ := h
    rfl
  · obtain ⟨a, t, x, fp, rfl, hw, ht, ok, fin, hwl, k⟩ := h
    refine ⟨_, pss_one (ps_if (pt_truth (pe_fld (pv 0) rfl) (fun _ => rfl)) (pss_one (ps_expr (pe_hasM mF (pv 0) T.cl hr (pa_cons pe_int pa_nil)))) pss_nil), ?_⟩
    obtain ⟨dx, pw, la, bo, ps, hA, hPw, hPs, hLa, hBo, ds, efp⟩ := hw.ex
    refine ⟨_, rfl, a, C, dx, _, _, rfl, hA, T.cl, T.nLacing, rfl, _, .inl ⟨_, SqL.of hLa, rfl⟩, iteB (fun hb => ?_) fun hb => ?_⟩
    · have hne : x.lacing ≠ [] := fun z => by
        rw [z] at hb
        exact absurd hb (by decide)
      obtain ⟨l, v, e⟩ : ∃ l v, x.lacing = l ++ [v] := ⟨_, _, (List.dropLast_concat_getLast hne).symm⟩
      have hl := ok.len
      have hbd := ok.body
      refine ⟨_, rfl, a, dx, _, rfl, hA, rfl, a, t, x, fp, false, l, v, rfl, hw, SqL.of ht.at_, e, ok.small, by omega, by omega, by omega, fun G5 fp5 hw5 g5 => ?_⟩
      refine k G5 fp5 ?_ g5
      unfold flushed
      rw [if_neg hne]
      rw [beq_eq_false_iff_ne.mpr (fin l v e)] at hw5
      exact hw5
    · have he : x.lacing = [] := by
        have : (vn x.lacing).isEmpty = true := by simpa using hb
        have := List.isEmpty_iff.mp this
        exact List.map_eq_nil_iff.mp this
      refine k H fp ?_ (.refl _ _)
      unfold flushed
      rw [if_pos he]
      exact hw
abbrev sTw : Stmt := inClass (top 41) 5
def spTw (C : Addr) : Sp := fun vs H Q _ => ∃ (a t : Addr) (x : Lace.Wr) (fp : List Addr) (c : Bytes) (l : List Bytes), vs = [.ref a] ∧ WrAt C H t a x fp ∧ x.waits = c :: l ∧
  ∀ (H' : Hp) (fp' : List Addr) (q : Addr), WrAt C H' t a { x with waits := l } fp' → Frm fp fp' H H' → H' q = some (.lst (vb c)) → Q (.ref q) H'
theorem scTw : FnScope ["self"] ["self"] (defScope sTw) := ⟨rfl, rfl, rfl, by decide +kernel, rfl, by decide +kernel, by decide +kernel⟩
theorem seq0 (n : Nat) : seqIndex? 0 (n + 1) = some 0 := seqIndex_of (by decide) (by omega)
theorem ok_tw {f : Addr} {fd : FuncData} (F : Fun K "take_waiting" "Writer.take_waiting" sTw f fd) (T : WTx K mg C) : FnOk P w K mg base CX0 1 f fd ["self"] (spTw C) := by
  refine F.ok scTw (fun vs H Q E h => ?_) (fun cdv A outer s H vs Q E hr h => ?_)
  · obtain ⟨a, t, x, fp, c, l, rfl, _⟩ := h
    rfl
  · obtain ⟨a, t, x, fp, c, l, rfl, hw, hx, k⟩ := h
    refine ⟨_, pss_one (ps_ret (pe_bm PySem.F.plainAttrs_list PySem.F.slot_list_pop PySem.F.type_list_pop mt_popAt (pe_fld (pv 0) rfl) (pa_cons pe_int pa_nil))), ?_⟩
    obtain ⟨dx, pw, la, bo, ps, hA, hPw, hPs, hLa, hBo, ⟨d1, d2, d3, d4, d5, d6⟩, efp⟩ := hw.ex
    rw [hx] at hPs
    cases hPs with
    | @cons q c' ps' l' hq hPs' =>
      refine ⟨_, rfl, a, C, dx, _, _, rfl, hA, T.cl, T.nPw, rfl, .inl ⟨rfl, _, SqL.of hPw⟩, pw, _, 0, 0, .ref q, rfl, rfl, hPw, by decide, by decide, seq0 _, rfl, ?_⟩
      have npa : a ≠ pw := ne_of hA hPw (by intro z; cases z)
      have hkeep : ∀ p ∈ (q :: ps'), p ≠ pw := fun p hp e => d4 (by rw [← e]; exact hp)
      refine k _ (a :: pw :: la :: bo :: ps') q ⟨dx, pw, la, bo, ps', ?_, upd_same, ?_, ?_, ?_, ⟨d1, d2, d3, fun m => d4 (List.mem_cons_of_mem _ m), fun m => d5 (List.mem_cons_of_mem _ m), fun m => d6 (List.mem_cons_of_mem _ m)⟩, rfl⟩ ?_ ?_
      · rw [upd_ne npa]; exact hA
      · exact Paired.mem_keep hPs' fun p hp o ho => by rw [upd_ne (hkeep p (List.mem_cons_of_mem _ hp))]; exact ho
      · rw [upd_ne d1.symm]; exact hLa
      · rw [upd_ne d2.symm]; exact hBo
      · rw [efp]
        exact (Frm.up (by simp)).sub fun b hb => by
          simp only [List.mem_cons] at hb ⊢
          rcases hb with h | h | h | h | h
          · exact .inl h
          · exact .inr (.inl h)
          · exact .inr (.inr (.inl h))
          · exact .inr (.inr (.inr (.inl h)))
          · exact .inr (.inr (.inr (.inr (.inr h))))
      · rw [upd_ne (hkeep q List.mem_cons_self)]; exact hq
end
end Lp
end
section
set_option Elab.async false
set_option linter.all false
set_option maxRecDepth 100000
set_option maxHeartbeats 2000000
namespace Lp
open PySem PySem.Spec PyProof.Rows L2
structure RF where
  stream : V
  table : V
  un : V
  closed : V
  num : V
  over : V
  begun : V
  hole : V
  pw : V
  taken : V
  others : V
  late : V
  passed : V
  dropped : V
def rF (x : RF) : List (Str × V) := [(("stream" : Str), x.stream), (("table" : Str), x.table), (("unjudged" : Str), x.un), (("closed" : Str), x.closed), (("last_number" : Str), x.num), (("over" : Str), x.over), (("begun" : Str), x.begun), (("hole" : Str), x.hole), (("packets_waiting" : Str), x.pw), (("pages_taken" : Str), x.taken), (("pages_of_others" : Str), x.others), (("pages_too_late" : Str), x.late), (("bytes_passed" : Str), x.passed), (("packets_dropped" : Str), x.dropped)]
def numV : Option Nat → V
  | none => .non
  | some n => .int (n : Int)
def begV : Option Addr → V
  | none => .non
  | some q => .ref q
structure RL where
  dx : Addr
  un : Addr
  pw : Addr
  bg : Option Addr
abbrev rV (x : LpM.RS) (t : Addr) (L : RL) : RF := ⟨.int (x.stream : Nat), .ref t, .ref L.un, .bl x.closed, numV x.num, .bl x.over, begV L.bg, .int ((x.hole.toNat : Nat) : Int), .ref L.pw, .int (x.taken : Nat), .int (x.others : Nat), .int (x.strange : Nat), .int (x.passed : Nat), .int (x.dropped : Nat)⟩
def core (a : Addr) (L : RL) : List Addr := a :: L.un :: L.pw :: L.bg.toList
def BgAt (H : Hp) : Option Addr → Option Bytes → Prop
  | none, none => True
  | some q, some b => H q = some (.lst (vb b))
  | _, _ => False
def pkF (p : Lace.Packet) (l : Addr) : List (Str × V) := [(("position" : Str), .int (LacePageSeed.placeNum p.position)), (("hole" : Str), .int ((p.hole.toNat : Nat) : Int)), (("last" : Str), .int ((p.last.toNat : Nat) : Int)), (("body" : Str), .ref l)]
def PkAt (PC : Addr) (H : Hp) (kp : List Addr) (v : V) (p : Lace.Packet) : Prop := ∃ r dx l : Addr, v = .ref r ∧ r ∈ kp ∧ l ∈ kp ∧ H r = some (.ins PC dx (pkF p l)) ∧ H l = some (.lst (vb p.bytes))
structure RdC (C PC : Addr) (H : Hp) (t a : Addr) (L : RL) (kp : List Addr) (ps : List V) (x : LpM.RS) : Prop where
  ins : H a = some (.ins C L.dx (rF (rV x t L)))
  un : H L.un = some (.lst (vb x.un))
  pw : H L.pw = some (.lst ps)
  pks : Paired (PkAt PC H kp) ps x.waits
  bg : BgAt H L.bg x.begun
  ne : L.un ≠ L.pw
  neb : ∀ q, L.bg = some q → q ≠ L.un ∧ q ≠ L.pw
  tab : Out H t tabO (core a L ++ kp)
  kps : ∀ q ∈ kp, (∃ o, H q = some o) ∧ q ∉ core a L
structure RdAt (C PC : Addr) (H : Hp) (t a : Addr) (x : LpM.RS) (fp : List Addr) : Prop where
  ex : ∃ (L : RL) (kp : List Addr) (ps : List V), RdC C PC H t a L kp ps x ∧ fp = core a L ++ kp
section
variable {C PC : Addr} {H H' : Hp} {t a : Addr} {L L' : RL} {kp : List Addr} {ps : List V} {x x' : LpM.RS} {fp : List Addr}
theorem PkAt.keep {v : V} {p : Lace.Packet} (h : PkAt PC H kp v p) (k : ∀ q ∈ kp, ∀ o, H q = some o → H' q = some o) : PkAt PC H' kp v p := by
  obtain ⟨r, dx, l, e, h1, h2, h3, h4⟩ := h
  exact ⟨r, dx, l, e, h1, h2, k r h1 _ h3, k l h2 _ h4⟩
theorem BgAt.some_of {q : Addr} {o : Option Bytes} (h : BgAt H (some q) o) : ∃ b, o = some b ∧ H q = some (.lst (vb b)) := by
  cases o with
  | none => exact absurd h id
  | some b => exact ⟨b, rfl, h⟩
theorem BgAt.none_of {o : Option Bytes} (h : BgAt H none o) : o = none := by
  cases o with
  | none => rfl
  | some b => exact absurd h id
theorem RdC.there (h : RdC C PC H t a L kp ps x) : ∀ q ∈ core a L ++ kp, ∃ o, H q = some o := by
  intro q hq
  rcases List.mem_append.mp hq with m | m
  · unfold core at m
    simp only [List.mem_cons, Option.mem_toList] at m
    rcases m with rfl | rfl | rfl | m
    · exact ⟨_, h.ins⟩
    · exact ⟨_, h.un⟩
    · exact ⟨_, h.pw⟩
    · have hb := h.bg
      rw [m] at hb
      obtain ⟨b, _, e⟩ := hb.some_of
      exact ⟨_, e⟩
  · exact (h.kps q m).1
theorem RdC.at_ (h : RdC C PC H t a L kp ps x) : RdAt C PC H t a x (core a L ++ kp) := ⟨L, kp, ps, h, rfl⟩
theorem RdC.atE (h : RdC C PC H t a L kp ps x) (e : fp = core a L ++ kp) : RdAt C PC H t a x fp := ⟨L, kp, ps, h, e⟩
theorem RdAt.there (h : RdAt C PC H t a x fp) : ∀ q ∈ fp, ∃ o, H q = some o := by
  obtain ⟨L, kp, ps, hc, rfl⟩ := h.ex
  exact hc.there
theorem RdAt.fresh (h : RdAt C PC H t a x fp) {q : Addr} (n : H q = none) : q ∉ fp := fun m => by
  obtain ⟨o, e⟩ := h.there q m
  rw [n] at e; cases e
theorem RdAt.tab (h : RdAt C PC H t a x fp) : Out H t tabO fp := by
  obtain ⟨L, kp, ps, hc, rfl⟩ := h.ex
  exact hc.tab
theorem mem_core_a : a ∈ core a L := List.mem_cons_self
theorem mem_core_un : L.un ∈ core a L := by unfold core; simp
theorem mem_core_pw : L.pw ∈ core a L := by unfold core; simp
theorem mem_core_bg {q : Addr} (e : L.bg = some q) : q ∈ core a L := by unfold core; simp [e]
theorem RdC.next (h : RdC C PC H t a L kp ps x) (keep : ∀ q o, H q = some o → q ∉ core a L → H' q = some o) (ins : H' a = some (.ins C L'.dx (rF (rV x' t L')))) (un : H' L'.un = some (.lst (vb x'.un))) (pw : H' L'.pw = some (.lst ps)) (bg : BgAt H' L'.bg x'.begun) (ne : L'.un ≠ L'.pw) (neb : ∀ q, L'.bg = some q → q ≠ L'.un ∧ q ≠ L'.pw)
    (w : x'.waits = x.waits) (sub : ∀ q ∈ core a L', q ∈ core a L ∨ H q = none) : RdC C PC H' t a L' kp ps x' ∧ Frm (core a L ++ kp) (core a L' ++ kp) H H' := by
  have ho := h.tab
  have nt : t ∉ core a L := fun m => ho.no (List.mem_append_left _ m)
  have nk : ∀ q ∈ kp, q ∉ core a L' := fun q hq m => by
    obtain ⟨⟨o, e⟩, n⟩ := h.kps q hq
    rcases sub q m with z | z
    · exact n z
    · rw [e] at z; cases z
  refine ⟨⟨ins, un, pw, ?_, bg, ne, neb, ⟨keep t _ ho.at_ nt, fun m => ?_⟩, fun q hq => ?_⟩, ⟨fun b o e n => keep b o e fun m => n (List.mem_append_left _ m), fun b m => ?_⟩⟩
  · rw [w]
    exact Paired.mapP h.pks fun v p z => z.keep fun q hq o e => keep q o e (h.kps q hq).2
  · rcases List.mem_append.mp m with z | z
    · rcases sub t z with z | z
      · exact nt z
      · rw [ho.at_] at z; cases z
    · exact ho.no (List.mem_append_right _ z)
  · obtain ⟨⟨o, e⟩, n⟩ := h.kps q hq
    exact ⟨⟨o, keep q o e n⟩, nk q hq⟩
  · rcases List.mem_append.mp m with z | z
    · rcases sub b z with z | z
      · exact .inl (List.mem_append_left _ z)
      · exact .inr z
    · exact .inl (List.mem_append_right _ z)
theorem ne_au (h : RdC C PC H t a L kp ps x) : L.un ≠ a := ne_of h.un h.ins (by intro z; cases z)
theorem ne_ap (h : RdC C PC H t a L kp ps x) : L.pw ≠ a := ne_of h.pw h.ins (by intro z; cases z)
theorem ne_ab (h : RdC C PC H t a L kp ps x) {q : Addr} (e : L.bg = some q) : q ≠ a := by
  have hb := h.bg
  rw [e] at hb
  obtain ⟨b, _, e⟩ := hb.some_of
  exact ne_of e h.ins (by intro z; cases z)
theorem BgAt.upd_ {q0 : Addr} {o0 : HO} {g : Option Addr} {o : Option Bytes} (h : BgAt H g o) (n : ∀ q, g = some q → q ≠ q0) : BgAt (upd H q0 o0) g o := by
  cases g with
  | none =>
    cases h.none_of
    exact True.intro
  | some q =>
    obtain ⟨b, rfl, e⟩ := h.some_of
    show upd H q0 o0 q = _
    rw [upd_ne (n q rfl)]; exact e
theorem RdC.fld (h : RdC C PC H t a L kp ps x) (x' : LpM.RS) (e1 : x'.un = x.un) (e2 : x'.waits = x.waits) (e3 : x'.begun = x.begun) : RdC C PC (upd H a (.ins C L.dx (rF (rV x' t L)))) t a L kp ps x' ∧ Frm (core a L ++ kp) (core a L ++ kp) H (upd H a (.ins C L.dx (rF (rV x' t L)))) :=
  h.next (fun q o e n => by rw [upd_ne (fun z => n (by rw [z]; exact mem_core_a))]; exact e) upd_same (by rw [upd_ne (ne_au h), e1]; exact h.un) (by rw [upd_ne (ne_ap h)]; exact h.pw) (by rw [e3]; exact h.bg.upd_ fun q z => ne_ab h z) h.ne h.neb e2 fun q m => .inl m
theorem core_nobg {q : Addr} (m : q ∈ core a { L with bg := none }) : q ∈ core a L := by
  unfold core at m ⊢
  simp only [List.mem_cons, Option.toList_none, List.not_mem_nil, or_false] at m ⊢
  rcases m with h | h | h
  · exact .inl h
  · exact .inr (.inl h)
  · exact .inr (.inr (.inl h))
theorem RdC.fld0 (h : RdC C PC H t a L kp ps x) (x' : LpM.RS) (e1 : x'.un = x.un) (e2 : x'.waits = x.waits) (e3 : x'.begun = none) : RdC C PC (upd H a (.ins C L.dx (rF (rV x' t { L with bg := none })))) t a { L with bg := none } kp ps x' ∧ Frm (core a L ++ kp) (core a { L with bg := none } ++ kp) H (upd H a (.ins C L.dx (rF (rV x' t { L with bg := none })))) :=
  h.next (L' := { L with bg := none }) (fun q o e n => by rw [upd_ne (fun z => n (by rw [z]; exact mem_core_a))]; exact e) upd_same (by show upd H a _ L.un = _; rw [upd_ne (ne_au h), e1]; exact h.un) (by show upd H a _ L.pw = _; rw [upd_ne (ne_ap h)]; exact h.pw) (by rw [e3]; exact True.intro) h.ne (fun q z => by cases z) e2 fun q m => .inl (core_nobg m)
end
structure RTx (K : PySem.W.Frag) (mg : Str → Option Value) (C : Addr) : Prop where
  cl : Cls K C
  nStream : NoAttr K C "stream"
  nTable : NoAttr K C "table"
  nUn : NoAttr K C "unjudged"
  nClosed : NoAttr K C "closed"
  nNum : NoAttr K C "last_number"
  nOver : NoAttr K C "over"
  nBegun : NoAttr K C "begun"
  nHole : NoAttr K C "hole"
  nPw : NoAttr K C "packets_waiting"
  nTaken : NoAttr K C "pages_taken"
  nOthers : NoAttr K C "pages_of_others"
  nLate : NoAttr K C "pages_too_late"
  nPassed : NoAttr K C "bytes_passed"
  nDropped : NoAttr K C "packets_dropped"
structure PTx (K : PySem.W.Frag) (C : Addr) : Prop where
  cl : Cls K C
  nPos : NoAttr K C "position"
  nHole : NoAttr K C "hole"
  nLast : NoAttr K C "last"
  nBody : NoAttr K C "body"
structure RCs (mg : Str → Option Value) : Prop where
  flags : Cst mg "FLAGS_AT" 5
  posAt : Cst mg "POSITION_AT" 6
  strAt : Cst mg "STREAM_AT" 14
  numAt : Cst mg "NUMBER_AT" 18
  midst : Cst mg "IN_MIDST" 1
  first : Cst mg "FIRST_PAGE" 2
  lastP : Cst mg "LAST_PAGE" 4
  longest : Cst mg "LONGEST_PACKET" 8192
  noPage : Cst mg "NO_PAGE" (-1)
  waits : Cst mg "WAITS_FOR_MORE" 0
  nums : Cst mg "PAGE_NUMBERS" 4294967296
  all : Cst mg "ALL_BITS_SET" 18446744073709551615
  old : Cst mg "OLD_FROM" 2147483648
  noPos : Cst mg "NO_POSITION" (-1)
  len : mg "len" = none
section
variable {P : Program} {w : World} {K : PySem.W.Frag} {mg : Str → Option Value} {base : Heap} {C PC : Addr}
abbrev sTold : Stmt := top 37
def spTold (K : PySem.W.Frag) : Sp := fun vs H Q _ => ∃ (d : Addr) (b : Bytes), vs = [.ref d] ∧ SqL K H d (vb b) ∧ ∀ H', Same H H' → Q (.int (LacePageSeed.placeNum (Lace.unle ((b.drop 6).take 8)))) H'
theorem scTold : FnScope ["page", "position"] ["page"] (defScope sTold) := ⟨rfl, rfl, rfl, by decide +kernel, rfl, by decide +kernel, by decide +kernel⟩
theorem ok_told {f : Addr} {fd : FuncData} (F : Fun K "told_position" "told_position" sTold f fd) (T : RCs mg) (fN : Has P w K mg base 1 "number_at" ["data", "start", "count"] (spNum K)) : FnOk P w K mg base CX0 2 f fd ["page"] (spTold K) := by
  refine F.ok scTold (fun vs H Q E h => ?_) (fun cdv A outer s H vs Q E hr h => ?_)
  · obtain ⟨d, b, rfl, _⟩ := h
    rfl
  · obtain ⟨d, b, rfl, hd, k⟩ := h
    refine ⟨_, pss_cons (ps_set (i := 1) scTold.nd rfl (Or.inl rfl) (pe_has fN hr (pa_cons (pv 0) (pa_cons (pe_cst T.posAt) (pa_cons pe_int pa_nil)))))
      (pss_one (ps_ret (pe_ifExp (pt_cmpR op_eq (pv 1) (pe_cst T.all) (nomark _)) (pe_cst T.noPos) (pv 1)))), ?_⟩
    refine ⟨_, rfl, d, b, 6, 8, rfl, hd, fun H1 s1 => ?_⟩
    have q := k H1 s1
    generalize Lace.unle ((b.drop 6).take 8) = n at q ⊢
    unfold LacePageSeed.placeNum at q
    refine ⟨_, rfl, rfl, _, rfl, iteB (fun hb => ?_) fun hb => ?_⟩
    · have z := of_decide_eq_true hb
      injection z with z
      have e : n = Lace.NONE := by
        show n = 2 ^ 64 - 1
        omega
      rw [if_pos e] at q
      exact q
    · have z := of_decide_eq_false hb
      have e : ¬ n = Lace.NONE := fun e => z (by rw [e]; rfl)
      rw [if_neg e] at q
      exact ⟨_, rfl, q⟩
abbrev sPki : Stmt := inClass (top 38) 0
def spPki (PC : Addr) : Sp := fun vs H Q _ => ∃ (p dx : Addr) (v1 v2 v3 v4 : V), vs = [.ref p, v1, v2, v3, v4] ∧ H p = some (.ins PC dx []) ∧
  ∀ H' : Hp, H' p = some (.ins PC dx [(("position" : Str), v1), (("hole" : Str), v2), (("last" : Str), v3), (("body" : Str), v4)]) → (∀ b o, H b = some o → b ≠ p → H' b = some o) → Dom H H' → Q .non H'
theorem scPki : FnScope ["self", "position", "hole", "last", "body"] ["self", "position", "hole", "last", "body"] (defScope sPki) := ⟨rfl, rfl, rfl, by decide +kernel, rfl, by decide +kernel, by decide +kernel⟩
theorem ok_pki {f : Addr} {fd : FuncData} (F : Fun K "__init__" "Packet.__init__" sPki f fd) (T : PTx K PC) : FnOk P w K mg base CX0 1 f fd ["self", "position", "hole", "last", "body"] (spPki PC) := by
  refine F.ok scPki (fun vs H Q E h => ?_) (fun cdv A outer s H vs Q E hr h => ?_)
  · obtain ⟨p, dx, v1, v2, v3, v4, rfl, _⟩ := h
    rfl
  · obtain ⟨p, dx, v1, v2, v3, v4, rfl, hp, k⟩ := h
    refine ⟨_, pss_cons (ps_fld (pv 0) (pv 1) rfl) (pss_cons (ps_fld (pv 0) (pv 2) rfl) (pss_cons (ps_fld (pv 0) (pv 3) rfl) (pss_one (ps_fld (pv 0) (pv 4) rfl)))), ?_⟩
    refine ⟨_, rfl, _, rfl, p, PC, dx, _, rfl, hp, T.cl, T.nPos, by decide, ?_⟩
    refine ⟨_, rfl, _, rfl, p, PC, dx, _, rfl, upd_same, T.cl, T.nHole, by show 1 < 1000; decide, ?_⟩
    refine ⟨_, rfl, _, rfl, p, PC, dx, _, rfl, upd_same, T.cl, T.nLast, by show 2 < 1000; decide, ?_⟩
    refine ⟨_, rfl, _, rfl, p, PC, dx, _, rfl, upd_same, T.cl, T.nBody, by show 3 < 1000; decide, ?_⟩
    refine k _ upd_same (fun b o e n => by rw [upd_ne n, upd_ne n, upd_ne n, upd_ne n]; exact e) ((((Dom.refl H).up).up).up).up
abbrev sDrp : Stmt := inClass (top 39) 9
def spDrp (C PC : Addr) : Sp := fun vs H Q _ => ∃ (a t : Addr) (x : LpM.RS) (fp : List Addr), vs = [.ref a] ∧ RdAt C PC H t a x fp ∧ ∀ (H' : Hp) (fp' : List Addr), RdAt C PC H' t a (LpM.dropB x) fp' → Frm fp fp' H H' → Q .non H'
theorem scDrp : FnScope ["self"] ["self"] (defScope sDrp) := ⟨rfl, rfl, rfl, by decide +kernel, rfl, by decide +kernel, by decide +kernel⟩
theorem ok_drp {f : Addr} {fd : FuncData} (F : Fun K "drop_begun" "Reader.drop_begun" sDrp f fd) (T : RTx K mg C) : FnOk P w K mg base CX0 1 f fd ["self"] (spDrp C PC) := by
  refine F.ok scDrp (fun vs H Q E h => ?_) (fun cdv A outer s H vs Q E hr h => ?_)
  · obtain ⟨a, t, x, fp, rfl, _⟩ := h
    rfl
  · obtain ⟨a, t, x, fp, rfl, hx, k⟩ := h
    obtain ⟨L, kp, ps, hc, rfl⟩ := hx.ex
    refine ⟨_, pss_one (ps_if (pt_cmpR op_notN (pe_fld (pv 0) rfl) pe_non (nomark _)) (pss_cons (ps_fld (pv 0) pe_non rfl) (pss_cons (ps_fldaug (pv 0) pe_int in_add) (pss_one (ps_fld (pv 0) pe_int rfl)))) pss_nil), ?_⟩
    refine ⟨_, rfl, a, C, L.dx, _, _, rfl, hc.ins, T.cl, T.nBegun, rfl, rfl, _, rfl, iteB (fun hb => ?_) fun hb => ?_⟩
    · have hb' : begV L.bg ≠ .non := by simpa using hb
      obtain ⟨q, hq⟩ : ∃ q, L.bg = some q := by
        cases e : L.bg with
        | none => rw [e] at hb'; exact absurd rfl hb'
        | some q => exact ⟨q, rfl⟩
      have hbg := hc.bg
      rw [hq] at hbg
      obtain ⟨b, hb1, _⟩ := hbg.some_of
      refine ⟨_, rfl, a, C, L.dx, _, rfl, hc.ins, T.cl, T.nBegun, by show 14 < 1000; decide, ?_⟩
      refine ⟨_, rfl, a, C, L.dx, _, _, rfl, upd_same, T.cl, T.nDropped, rfl, _, _, rfl, rfl, L.dx, _, upd_same, by show 14 < 1000; decide, ?_⟩
      refine ⟨_, rfl, a, C, L.dx, _, rfl, upd_same, T.cl, T.nHole, by show 14 < 1000; decide, ?_⟩
      have g := hc.fld0 (LpM.dropB x) (LpM.dropB_un x) (LpM.dropB_waits x) (LpM.dropB_begun x)
      rw [LpM.dropB_some hb1] at g
      refine k _ _ (?_ : RdAt C PC _ t a _ (core a { L with bg := none } ++ kp)) ?_
      · rw [upd_upd, upd_upd, LpM.dropB_some hb1]
        exact g.1.at_
      · rw [upd_upd, upd_upd]
        exact g.2
    · have hb' : begV L.bg = .non := by simpa using hb
      have hq : L.bg = none := by
        cases e : L.bg with
        | none => rfl
        | some q => rw [e] at hb'; cases hb'
      have hbg := hc.bg
      rw [hq] at hbg
      refine k H _ ?_ (.refl _ _)
      rw [LpM.dropB_none hbg.none_of]
      exact hc.at_
end
end Lp
end
section
set_option Elab.async false
set_option linter.all false
set_option maxRecDepth 100000
set_option maxHeartbeats 2000000
namespace Lp
open PySem PySem.Spec PyProof.Rows L2
theorem seq_of {a r : TS} {D : Ends} {σ : L2.St} {H : Hp} (R : L2.St → Hp → Prop) (h1 : ∀ D' : Ends, (∀ σ3 H3, R σ3 H3 → D'.nx σ3 H3) → a D' σ H) (h2 : ∀ σ3 H3, R σ3 H3 → r D σ3 H3) : tSeq a r D σ H := h1 { D with nx := r D } h2
theorem asg_and {t u : TT} {ta tb : TE} {g : TG} {D : Ends} {σ : L2.St} {H : Hp} (ba bb : Bool) (h1 : ∀ R : Bool → Hp → Prop, R ba H → t σ H R) (h2 : ba = true → ∀ R : Bool → Hp → Prop, R bb H → u σ H R) (h : if (ba && bb) = true then ta σ H (fun x H1 => g x σ H1 D.nx) else tb σ H (fun x H1 => g x σ H1 D.nx)) : tAsg (tIf (tAnd t u) ta tb) g D σ H :=
  and_of (Q := fun c H1 => if c = true then ta σ H1 (fun x H1 => g x σ H1 D.nx) else tb σ H1 (fun x H1 => g x σ H1 D.nx)) ba bb h1 h2 h
theorem numV_some (q : Nat) : numV (some q) ≠ .non := by intro z; cases z
theorem and_flag (m : Nat) (fl : Fin 256) : ((((fl.val &&& 1 : Nat) : Int) != 0) = decide (fl.val % 2 = 1)) ∧ ((((fl.val &&& 2 : Nat) : Int) != 0) = decide (fl.val / 2 % 2 = 1)) ∧ ((((fl.val &&& 4 : Nat) : Int) != 0) = decide (fl.val / 4 % 2 = 1)) := by
  revert fl
  decide +kernel
theorem flag1 {fl : Nat} (h : fl < 256) : (Builtin.bitAnd (fl : Int) 1 != 0) = decide (fl % 2 = 1) := by
  rw [show (1 : Int) = ((1 : Nat) : Int) from rfl, bit_and]
  exact (and_flag 0 ⟨fl, h⟩).1
theorem flag2 {fl : Nat} (h : fl < 256) : (Builtin.bitAnd (fl : Int) 2 != 0) = decide (fl / 2 % 2 = 1) := by
  rw [show (2 : Int) = ((2 : Nat) : Int) from rfl, bit_and]
  exact (and_flag 0 ⟨fl, h⟩).2.1
theorem flag4 {fl : Nat} (h : fl < 256) : (Builtin.bitAnd (fl : Int) 4 != 0) = decide (fl / 4 % 2 = 1) := by
  rw [show (4 : Int) = ((4 : Nat) : Int) from rfl, bit_and]
  exact (and_flag 0 ⟨fl, h⟩).2.2
section
variable {P : Program} {w : World} {K : PySem.W.Frag} {mg : Str → Option Value} {base : Heap} {C PC : Addr}
abbrev sOld : Stmt := inClass (top 39) 7
def spOld (C PC : Addr) : Sp := fun vs H Q _ => ∃ (a t : Addr) (x : LpM.RS) (fp : List Addr) (n : Nat), vs = [.ref a, .int (n : Int)] ∧ RdAt C PC H t a x fp ∧ Q (.bl (LpM.isOld x.num n)) H
theorem scOld : FnScope ["self", "number", "ahead"] ["self", "number"] (defScope sOld) := ⟨rfl, rfl, rfl, by decide +kernel, rfl, by decide +kernel, by decide +kernel⟩
theorem ok_old {f : Addr} {fd : FuncData} (F : Fun K "is_old" "Reader.is_old" sOld f fd) (T : RTx K mg C) (B : RCs mg) : FnOk P w K mg base CX0 1 f fd ["self", "number"] (spOld C PC) := by
  refine F.ok scOld (fun vs H Q E h => ?_) (fun cdv A outer s H vs Q E hr h => ?_)
  · obtain ⟨a, t, x, fp, n, rfl, _⟩ := h
    rfl
  · obtain ⟨a, t, x, fp, n, rfl, hx, k⟩ := h
    obtain ⟨L, kp, ps, hc, rfl⟩ := hx.ex
    refine ⟨_, pss_cons (ps_if (pt_cmpR op_isN (pe_fld (pv 0) rfl) pe_non (nomark _)) (pss_one (ps_ret pe_bl)) pss_nil)
      (pss_cons (ps_set (i := 2) scOld.nd rfl (Or.inl rfl) (pe_op op_mod (pe_op op_sub (pv 1) (pe_fld (pv 0) rfl)) (pe_cst B.nums)))
      (pss_one (ps_ret (pe_or (pe_cmpR op_eq (pv 2) pe_int (nomark _)) (pe_one (pe_cmpR op_ge (pv 2) (pe_cst B.old) (nomark _))))))), ?_⟩
    refine ⟨_, rfl, a, C, L.dx, _, _, rfl, hc.ins, T.cl, T.nNum, rfl, rfl, _, rfl, ?_⟩
    cases hn : x.num with
    | none =>
      rw [hn] at k
      refine iteB (fun _ => k) fun hb => ?_
      exact absurd hb (by show ¬ decide (numV x.num = .non) = false; rw [hn]; decide)
    | some q =>
      rw [hn] at k
      refine iteB (fun hb => ?_) fun _ => ?_
      · exact absurd hb (by show ¬ decide (numV x.num = .non) = true; rw [hn, decide_eq_false (numV_some q)]; decide)
      · refine ⟨_, rfl, _, rfl, a, C, L.dx, _, _, rfl, hc.ins, T.cl, T.nNum, rfl, (n : Int), (q : Int), rfl, by show numV x.num = _; rw [hn]; rfl, _, _, rfl, rfl, (by show (0 : Int) < 4294967296; decide), ?_⟩
        have k' : Q (.bl (decide (((n : Int) - (q : Int)) % 4294967296 = 0) || decide (2147483648 ≤ ((n : Int) - (q : Int)) % 4294967296))) H := k
        obtain ⟨d, hd⟩ : ∃ d, d = ((n : Int) - (q : Int)) % 4294967296 := ⟨_, rfl⟩
        rw [← hd] at k'
        have e0 : decide (V.int d = V.int 0) = decide (d = 0) := decide_eq_decide.mpr ⟨fun z => by injection z, fun z => by rw [z]⟩
        refine ⟨_, rfl, rfl, _, rfl, iteB (fun hb => ?_) fun hb => ?_⟩
        · have hb : decide (V.int d = V.int 0) = true := by rw [hd]; exact hb
          rw [e0] at hb
          rw [hb] at k'
          exact k'
        · have hb : decide (V.int d = V.int 0) = false := by rw [hd]; exact hb
          rw [e0] at hb
          rw [hb, hd] at k'
          exact ⟨_, rfl, _, _, rfl, rfl, k'⟩
abbrev sFol : Stmt := inClass (top 39) 8
def spFol (C PC : Addr) : Sp := fun vs H Q _ => ∃ (a t : Addr) (x : LpM.RS) (fp : List Addr) (n fl : Nat), vs = [.ref a, .int (n : Int), .int (fl : Int)] ∧ fl < 256 ∧ RdAt C PC H t a x fp ∧ ∀ (H' : Hp) (fp' : List Addr), RdAt C PC H' t a (LpM.followN n fl x) fp' → Frm fp fp' H H' → Q .non H'
theorem scFol : FnScope ["self", "number", "flags"] ["self", "number", "flags"] (defScope sFol) := ⟨rfl, rfl, rfl, by decide +kernel, rfl, by decide +kernel, by decide +kernel⟩
theorem ok_fol {f : Addr} {fd : FuncData} (F : Fun K "follow_number" "Reader.follow_number" sFol f fd) (T : RTx K mg C) (B : RCs mg) (mD : HasM P w K mg base 1 C "drop_begun" ["self"] (spDrp C PC)) : FnOk P w K mg base CX0 2 f fd ["self", "number", "flags"] (spFol C PC) := by
  refine F.ok scFol (fun vs H Q E h => ?_) (fun cdv A outer s H vs Q E hr h => ?_)
  · obtain ⟨a, t, x, fp, n, fl, rfl, _⟩ := h
    rfl
  · obtain ⟨a, t, x, fp, n, fl, rfl, hfl, hx, k⟩ := h
    obtain ⟨L, kp, ps, hc, rfl⟩ := hx.ex
    refine ⟨_, pss_cons (ps_if (pt_cmpR op_isN (pe_fld (pv 0) rfl) pe_non (nomark _))
        (pss_one (ps_if (pt_not (pt_truth (pe_op op_and (pv 2) (pe_cst B.first)) (fun _ => rfl))) (pss_one (ps_fld (pv 0) pe_int rfl)) pss_nil))
        (pss_one (ps_if (pt_cmpR op_ne (pv 1) (pe_op op_mod (pe_op op_add (pe_fld (pv 0) rfl) pe_int) (pe_cst B.nums)) (nomark _)) (pss_cons (ps_fld (pv 0) pe_int rfl) (pss_one (ps_expr (pe_hasM0 mD (pv 0) T.cl hr)))) pss_nil)))
      (pss_cons (ps_if (pt_not (pt_truth (pe_op op_and (pv 2) (pe_cst B.midst)) (fun _ => rfl))) (pss_one (ps_expr (pe_hasM0 mD (pv 0) T.cl hr))) pss_nil)
      (pss_one (ps_fld (pv 0) (pv 1) rfl))), ?_⟩
    refine seq_of (fun σ3 H3 => σ3 = start ["self", "number", "flags"] [.ref a, .int (n : Int), .int (fl : Int)] ∧ ∃ fp3, RdAt C PC H3 t a (LpM.follow1 n fl x) fp3 ∧ Frm (core a L ++ kp) fp3 H H3) (fun D' hD' => ?_) ?_
    · refine ⟨_, rfl, a, C, L.dx, _, _, rfl, hc.ins, T.cl, T.nNum, rfl, rfl, _, rfl, ?_⟩
      cases hn : x.num with
      | none =>
        refine iteB (fun _ => ?_) fun hb => ?_
        · refine ⟨_, rfl, _, _, rfl, rfl, _, rfl, ?_⟩
          rw [flag2 hfl]
          refine iteB (fun hb => ?_) fun hb => ?_
          · have h2 : ¬ fl / 2 % 2 = 1 := by simpa using hb
            refine ⟨_, rfl, a, C, L.dx, _, rfl, hc.ins, T.cl, T.nHole, by show 14 < 1000; decide, ?_⟩
            have g := hc.fld { x with hole := true } rfl rfl rfl
            refine hD' _ _ ⟨rfl, core a L ++ kp, ?_, g.2⟩
            have e : LpM.follow1 n fl x = { x with hole := true } := by
              unfold LpM.follow1
              rw [hn]
              simp only []
              rw [if_neg h2, ← hn]
            rw [e]
            exact g.1.at_
          · have h2 : fl / 2 % 2 = 1 := by simpa using hb
            refine hD' _ _ ⟨rfl, core a L ++ kp, ?_, .refl _ _⟩
            have e : LpM.follow1 n fl x = x := by
              unfold LpM.follow1
              rw [hn]
              simp only []
              rw [if_pos h2]
            rw [e]
            exact hx
        · exact absurd hb (by show ¬ decide (numV x.num = .non) = false; rw [hn]; decide)
      | some q =>
        refine iteB (fun hb => ?_) fun _ => ?_
        · exact absurd hb (by show ¬ decide (numV x.num = .non) = true; rw [hn, decide_eq_false (numV_some q)]; decide)
        · refine ⟨_, rfl, _, rfl, a, C, L.dx, _, _, rfl, hc.ins, T.cl, T.nNum, rfl, (q : Int), 1, by show numV x.num = _; rw [hn]; rfl, rfl, _, _, rfl, rfl, (by show (0 : Int) < 4294967296; decide), rfl, _, rfl, iteB (fun hb => ?_) fun hb => ?_⟩
          · have hb' : ¬ V.int (n : Int) = V.int (((q : Int) + 1) % 4294967296) := by simpa using hb
            have hne : ¬ n = (q + 1) % 4294967296 := fun z => hb' (by rw [z]; rfl)
            refine ⟨_, rfl, a, C, L.dx, _, rfl, hc.ins, T.cl, T.nHole, by show 14 < 1000; decide, ?_⟩
            have g := hc.fld { x with hole := true } rfl rfl rfl
            have gi := g.1.ins
            have g1 := g.1.at_
            have g2 := g.2
            refine ⟨_, rfl, a, L.dx, _, rfl, gi, rfl, a, t, _, _, rfl, g1, fun H4 fp4 h4 f4 => ?_⟩
            refine hD' _ _ ⟨rfl, fp4, ?_, g2.trans f4⟩
            have e : LpM.follow1 n fl x = LpM.dropB { x with hole := true } := by
              unfold LpM.follow1
              rw [hn]
              simp only []
              rw [if_neg hne, ← hn]
            rw [e]
            exact h4
          · have hb' : V.int (n : Int) = V.int (((q : Int) + 1) % 4294967296) := by simpa using hb
            injection hb' with hb'
            have hne : n = (q + 1) % 4294967296 := by omega
            refine hD' _ _ ⟨rfl, core a L ++ kp, ?_, .refl _ _⟩
            have e : LpM.follow1 n fl x = x := by
              unfold LpM.follow1
              rw [hn]
              simp only []
              rw [if_pos hne]
            rw [e]
            exact hx
    · rintro σ3 H3 ⟨rfl, fp3, hx3, f3⟩
      refine seq_of (fun σ4 H4 => σ4 = start ["self", "number", "flags"] [.ref a, .int (n : Int), .int (fl : Int)] ∧ ∃ fp4, RdAt C PC H4 t a (if fl % 2 = 1 then LpM.follow1 n fl x else LpM.dropB (LpM.follow1 n fl x)) fp4 ∧ Frm (core a L ++ kp) fp4 H H4) (fun D' hD' => ?_) ?_
      · refine ⟨_, rfl, _, _, rfl, rfl, _, rfl, ?_⟩
        rw [flag1 hfl]
        refine iteB (fun hb => ?_) fun hb => ?_
        · have h2 : ¬ fl % 2 = 1 := by simpa using hb
          obtain ⟨L3, kp3, ps3, hc3, rfl⟩ := hx3.ex
          refine ⟨_, rfl, a, L3.dx, _, rfl, hc3.ins, rfl, a, t, _, _, rfl, hx3, fun H4 fp4 h4 f4 => ?_⟩
          exact hD' _ _ ⟨rfl, fp4, by rw [if_neg h2]; exact h4, f3.trans f4⟩
        · have h2 : fl % 2 = 1 := by simpa using hb
          exact hD' _ _ ⟨rfl, fp3, by rw [if_pos h2]; exact hx3, f3⟩
      · rintro σ4 H4 ⟨rfl, fp4, hx4, f4⟩
        obtain ⟨L4, kp4, ps4, hc4, rfl⟩ := hx4.ex
        refine ⟨_, rfl, _, rfl, a, C, L4.dx, _, rfl, hc4.ins, T.cl, T.nNum, by show 14 < 1000; decide, ?_⟩
        have g := hc4.fld { (if fl % 2 = 1 then LpM.follow1 n fl x else LpM.dropB (LpM.follow1 n fl x)) with num := some n } rfl rfl rfl
        exact k _ _ g.1.at_ (f4.trans g.2)
abbrev sEnd : Stmt := inClass (top 39) 11
def spEnd (C PC : Addr) : Sp := fun vs H Q _ => ∃ (a t d : Addr) (x : LpM.RS) (fp : List Addr) (b c : Bytes) (il : Bool), vs = [.ref a, .ref d, .bl il] ∧ RdAt C PC H t a x fp ∧ Out H d (.lst (vb b)) fp ∧ x.begun = some c ∧ x.waits.length ≤ 100000 ∧ 27 ≤ b.length ∧
  ∀ (H' : Hp) (fp' : List Addr), RdAt C PC H' t a (LpM.endP (Lace.pageOf b).position (Lace.pageOf b).last il x) fp' → Frm fp fp' H H' → Q .non H'
theorem scEnd : FnScope ["self", "page", "is_last_in_page", "position", "last"] ["self", "page", "is_last_in_page"] (defScope sEnd) := ⟨rfl, rfl, rfl, by decide +kernel, rfl, by decide +kernel, by decide +kernel⟩
theorem place_none : LacePageSeed.placeNum Lace.NONE = -1 := by
  unfold LacePageSeed.placeNum
  rw [if_pos rfl]
theorem ok_end {f : Addr} {fd : FuncData} (F : Fun K "end_packet" "Reader.end_packet" sEnd f fd) (T : RTx K mg C) (B : RCs mg) (mD : HasM P w K mg base 1 C "drop_begun" ["self"] (spDrp C PC)) (fT : Has P w K mg base 2 "told_position" ["page"] (spTold K))
    (hP : HasC P w K mg base 1 PC "Packet" ["self", "position", "hole", "last", "body"] (spPki PC)) : FnOk P w K mg base CX0 3 f fd ["self", "page", "is_last_in_page"] (spEnd C PC) := by
  refine F.ok scEnd (fun vs H Q E h => ?_) (fun cdv A outer s H vs Q E hr h => ?_)
  · obtain ⟨a, t, d, x, fp, b, c, il, rfl, _⟩ := h
    rfl
  · obtain ⟨a, t, d, x, fp, b, c, il, rfl, hx, hd, hb, hwl, h27, k⟩ := h
    obtain ⟨L, kp, ps, hc, rfl⟩ := hx.ex
    have hr1 : Room 1 _ := hr.mono (by decide)
    obtain ⟨q, hq⟩ : ∃ q, L.bg = some q := by
      have hbg := hc.bg
      rw [hb] at hbg
      cases e : L.bg with
      | none => rw [e] at hbg; exact absurd hbg id
      | some q => exact ⟨q, rfl⟩
    have hqc : H q = some (.lst (vb c)) := by
      have hbg := hc.bg
      rw [hb, hq] at hbg
      exact hbg
    have ebg : begV L.bg = .ref q := by rw [hq]; rfl
    refine ⟨_, pss_cons (ps_if (pt_cmpR op_gt (pe_callB call_len_seq rfl B.len PySem.boot_len (pa_cons (pe_fld (pv 0) rfl) pa_nil)) (pe_cst B.longest) (nomark _)) (pss_cons (ps_expr (pe_hasM0 mD (pv 0) T.cl hr1)) (pss_one ps_retN)) pss_nil)
      (pss_cons (ps_set (i := 3) scEnd.nd rfl (Or.inl rfl) (pe_ifExp (pt_truth (pv 2) (fun _ => rfl)) (pe_has fT hr (pa_cons (pv 1) pa_nil)) (pe_cst B.noPos)))
      (pss_cons (ps_set (i := 4) scEnd.nd rfl (Or.inl rfl) (pe_ifExp (PW.pt (pw_and (pt_truth (pv 2) (fun _ => rfl)) (pw_and1 (pt_truth (pe_op op_and (pe_ix ix_list (pv 1) (pe_cst B.flags) (fun _ _ => rfl)) (pe_cst B.lastP)) (fun _ => rfl))))) pe_int pe_int))
      (pss_cons (ps_expr (pe_bm PySem.F.plainAttrs_list PySem.F.slot_list_append PySem.F.type_list_append mt_append (pe_fld (pv 0) rfl) (pa_cons (pe_hasC hP hr (pa_cons (pv 3) (pa_cons (pe_fld (pv 0) rfl) (pa_cons (pv 4) (pa_cons (pe_fld (pv 0) rfl) pa_nil))))) pa_nil)))
      (pss_cons (ps_fld (pv 0) pe_non rfl) (pss_one (ps_fld (pv 0) pe_int rfl)))))), ?_⟩
    refine ⟨_, rfl, a, C, L.dx, _, _, rfl, hc.ins, T.cl, T.nBegun, rfl, q, vb c, by show [begV L.bg] = _; rw [ebg], .inl (SqL.of hqc), _, _, rfl, rfl, _, rfl, iteB (fun hg => ?_) fun hg => ?_⟩
    · have hg' := of_decide_eq_true hg
      rw [vb_length] at hg'
      refine ⟨_, rfl, a, L.dx, _, rfl, hc.ins, rfl, a, t, _, _, rfl, hx, fun H4 fp4 h4 f4 => ?_⟩
      refine k H4 fp4 ?_ f4
      unfold LpM.endP
      rw [hb]
      simp only []
      rw [if_pos (by show 8192 < c.length; omega)]
      exact h4
    · have hg' := of_decide_eq_false hg
      rw [vb_length] at hg'
      have eE : LpM.endP (Lace.pageOf b).position (Lace.pageOf b).last il x = { x with waits := x.waits ++ [⟨c, if il = true then (Lace.pageOf b).position else Lace.NONE, x.hole, il && (Lace.pageOf b).last⟩], begun := none, hole := false } := by
        unfold LpM.endP
        rw [hb]
        simp only []
        rw [if_neg (by show ¬ 8192 < c.length; omega)]
      rw [eE] at k
      have epos : (Lace.pageOf b).position = Lace.unle ((b.drop 6).take 8) := rfl
      have elast : (Lace.pageOf b).last = decide (Lace.byteAt b 5 / 4 % 2 = 1) := by
        show (Lace.byteAt b 5 / 4 % 2 == 1) = _
        exact Bool.beq_eq_decide_eq _ _
      generalize (Lace.pageOf b).last = lp at k elast
      -- position
      refine nx_of (seq_of (fun σ3 H3 => Same H H3 ∧ σ3 = [some (.ref a), some (.ref d), some (.bl il), some (.int (LacePageSeed.placeNum (if il = true then (Lace.pageOf b).position else Lace.NONE))), none]) (fun D' hD' => ?_) ?_)
      · refine ⟨_, rfl, il, rfl, iteB (fun hi => ?_) fun hi => ?_⟩
        · refine ⟨_, rfl, d, b, rfl, SqL.of hd.at_, fun H3 s3 => ?_⟩
          refine hD' _ _ ⟨s3, ?_⟩
          rw [hi, if_pos rfl, epos]
          rfl
        · refine hD' _ _ ⟨Same.refl H, ?_⟩
          rw [hi, if_neg Bool.false_ne_true, place_none]
          rfl
      · rintro σ3 H3 ⟨s3, rfl⟩
        generalize (if il = true then (Lace.pageOf b).position else Lace.NONE) = pn at k
        -- last
        refine seq_of (fun σ4 H4 => H4 = H3 ∧ σ4 = [some (.ref a), some (.ref d), some (.bl il), some (.int (LacePageSeed.placeNum pn)), some (.int (((il && lp).toNat : Nat) : Int))]) (fun D' hD' => ?_) ?_
        · obtain ⟨fb, hfb⟩ : ∃ fb, b[5]? = some fb := ⟨_, List.getElem?_eq_getElem (show 5 < b.length by omega)⟩
          rw [LpM.byteAt_of hfb] at elast
          refine asg_and il lp (fun R hR => ⟨_, rfl, il, rfl, hR⟩) (fun _ R hR => ⟨_, rfl, d, _, _, _, rfl, rfl, SqL.of (s3 _ _ hd.at_), at_of (j := 5) rfl (vb_at hfb), _, _, rfl, rfl, lp, by show lp = _; rw [elast]; exact (flag4 (LpM.b_lt fb)).symm, hR⟩) ?_
          refine ifc (.int (((il && lp).toNat : Nat) : Int)) (fun h => by rw [h]; rfl) (fun h => by rw [h]; rfl) ?_
          exact hD' _ _ ⟨rfl, rfl⟩
        · rintro σ4 H4 ⟨rfl, rfl⟩
          have hins3 := s3 _ _ hc.ins
          have hpw3 := s3 _ _ hc.pw
          -- packets_waiting.append(Packet(..))
          refine ⟨_, rfl, a, C, L.dx, _, _, rfl, hins3, T.cl, T.nPw, rfl, .inl ⟨rfl, _, SqL.of hpw3⟩, _, rfl, _, rfl, a, C, L.dx, _, _, rfl, hins3, T.cl, T.nHole, rfl, _, rfl, _, rfl, a, C, L.dx, _, _, rfl, hins3, T.cl, T.nBegun, rfl, fun r dxr nr nd ne => ?_⟩
          refine ⟨r, dxr, _, _, _, _, rfl, upd_same, fun H5 e5 k5 _ => ⟨rfl, ?_⟩⟩
          have s5 : Same H4 H5 := Same.made nr nd k5
          have hps : ps.length = x.waits.length := Paired.length hc.pks
          refine ⟨L.pw, ps, _, rfl, rfl, s5 _ _ hpw3, by rw [line_eq]; omega, ?_⟩
          have t5 : Same H H5 := s3.trans s5
          have nrH : H r = none := s3.free nr
          have npa := ne_ap hc
          have nua := ne_au hc
          have nqa := ne_ab hc hq
          obtain ⟨nqu, nqp⟩ := hc.neb q hq
          have nrp : r ≠ L.pw := (ne_of_none hc.pw nrH).symm
          have nra : r ≠ a := (ne_of_none hc.ins nrH).symm
          have nrq : r ≠ q := (ne_of_none hqc nrH).symm
          have hA6 : (upd H5 L.pw (.lst (ps ++ [.ref r]))) a = some (.ins C L.dx (rF (rV x t L))) := by rw [upd_ne npa.symm]; exact t5 _ _ hc.ins
          refine ⟨_, rfl, a, C, L.dx, _, rfl, hA6, T.cl, T.nBegun, by show 14 < 1000; decide, ?_⟩
          refine ⟨_, rfl, a, C, L.dx, _, rfl, upd_same, T.cl, T.nHole, by show 14 < 1000; decide, ?_⟩
          have hkeep : ∀ b o, H b = some o → b ≠ a → b ≠ L.pw → (upd (upd (upd H5 L.pw (.lst (ps ++ [.ref r]))) a (.ins C L.dx (putF "begun" .non (rF (rV x t L))))) a (.ins C L.dx (putF "hole" (.int 0) (putF "begun" .non (rF (rV x t L)))))) b = some o := fun b o e n1 n2 => by
            rw [upd_ne n1, upd_ne n1, upd_ne n2]; exact t5 _ _ e
          have hr6 : (upd (upd (upd H5 L.pw (.lst (ps ++ [.ref r]))) a (.ins C L.dx (putF "begun" .non (rF (rV x t L))))) a (.ins C L.dx (putF "hole" (.int 0) (putF "begun" .non (rF (rV x t L)))))) r = some (.ins PC dxr (pkF ⟨c, pn, x.hole, il && lp⟩ q)) := by
            rw [upd_ne nra, upd_ne nra, upd_ne nrp, e5]
            show some (HO.ins PC dxr [_, _, _, (_, begV L.bg)]) = _
            rw [ebg]
            rfl
          have hpw6 : (upd (upd (upd H5 L.pw (.lst (ps ++ [.ref r]))) a (.ins C L.dx (putF "begun" .non (rF (rV x t L))))) a (.ins C L.dx (putF "hole" (.int 0) (putF "begun" .non (rF (rV x t L)))))) L.pw = some (.lst (ps ++ [.ref r])) := by
            rw [upd_ne npa, upd_ne npa, upd_same]
          have ha6 : (upd (upd (upd H5 L.pw (.lst (ps ++ [.ref r]))) a (.ins C L.dx (putF "begun" .non (rF (rV x t L))))) a (.ins C L.dx (putF "hole" (.int 0) (putF "begun" .non (rF (rV x t L)))))) a = some (.ins C L.dx (putF "hole" (.int 0) (putF "begun" .non (rF (rV x t L))))) := upd_same
          generalize (upd (upd (upd H5 L.pw (.lst (ps ++ [.ref r]))) a (.ins C L.dx (putF "begun" .non (rF (rV x t L))))) a (.ins C L.dx (putF "hole" (.int 0) (putF "begun" .non (rF (rV x t L)))))) = H6 at hkeep hr6 hpw6 ha6 ⊢
          have hq6 : H6 q = some (.lst (vb c)) := hkeep _ _ hqc nqa nqp
          have ncore : ∀ z, z ∉ core a L → z ≠ a ∧ z ≠ L.pw := fun z n => ⟨fun e => n (by rw [e]; exact mem_core_a), fun e => n (by rw [e]; exact mem_core_pw)⟩
          have htn : t ∉ core a L := fun m => hc.tab.no (List.mem_append_left _ m)
          refine k H6 (core a { L with bg := none } ++ (r :: q :: kp)) ⟨{ L with bg := none }, r :: q :: kp, ps ++ [.ref r], ⟨?_, ?_, hpw6, ?_, True.intro, hc.ne, (fun q z => by cases z), ⟨?_, ?_⟩, ?_⟩, rfl⟩ ⟨fun z o e n => ?_, fun z m => ?_⟩
          · rw [ha6]; rfl
          · exact hkeep _ _ hc.un nua hc.ne
          · refine Paired.snoc (Paired.mapP hc.pks fun v p z => ?_) ⟨r, dxr, q, rfl, by simp, by simp, hr6, hq6⟩
            obtain ⟨r', dx', l', e', m1, m2, h1, h2⟩ := z
            obtain ⟨n1, n2⟩ := ncore _ (hc.kps _ m1).2
            obtain ⟨n3, n4⟩ := ncore _ (hc.kps _ m2).2
            exact ⟨r', dx', l', e', by simp [m1], by simp [m2], hkeep _ _ h1 n1 n2, hkeep _ _ h2 n3 n4⟩
          · obtain ⟨n1, n2⟩ := ncore _ htn
            exact hkeep _ _ hc.tab.at_ n1 n2
          · intro m
            rcases List.mem_append.mp m with m | m
            · exact htn (core_nobg m)
            · rcases List.mem_cons.mp m with m | m
              · have := hc.tab.at_
                rw [m, nrH] at this; cases this
              · rcases List.mem_cons.mp m with m | m
                · exact htn (by rw [m]; exact mem_core_bg hq)
                · exact hc.tab.no (List.mem_append_right _ m)
          · intro z hz
            rcases List.mem_cons.mp hz with rfl | hz
            · refine ⟨⟨_, hr6⟩, fun m => ?_⟩
              obtain ⟨o, e⟩ := hc.there z (List.mem_append_left _ (core_nobg m))
              rw [nrH] at e; cases e
            · rcases List.mem_cons.mp hz with rfl | hz
              · refine ⟨⟨_, hq6⟩, fun m => ?_⟩
                unfold core at m
                simp only [List.mem_cons, Option.toList_none, List.not_mem_nil, or_false] at m
                rcases m with m | m | m
                · exact nqa m
                · exact nqu m
                · exact nqp m
              · obtain ⟨⟨o, e⟩, n⟩ := hc.kps z hz
                obtain ⟨n1, n2⟩ := ncore _ n
                exact ⟨⟨o, hkeep _ _ e n1 n2⟩, fun m => n (core_nobg m)⟩
          · obtain ⟨n1, n2⟩ := ncore z fun m => n (List.mem_append_left _ m)
            exact hkeep _ _ e n1 n2
          · rcases List.mem_append.mp m with m | m
            · exact .inl (List.mem_append_left _ (core_nobg m))
            · rcases List.mem_cons.mp m with rfl | m
              · exact .inr nrH
              · rcases List.mem_cons.mp m with rfl | m
                · exact .inl (List.mem_append_left _ (mem_core_bg hq))
                · exact .inl (List.mem_append_right _ m)
end
end Lp
end
section
set_option Elab.async false
set_option linter.all false
set_option maxRecDepth 100000
set_option maxHeartbeats 2000000
namespace Lp
open PySem PySem.Spec PyProof.Rows L2
theorem Paired.at_ {α β : Type} {F : α → β → Prop} : ∀ {l : List α} {m : List β} {i : Nat} {v : α}, Paired F l m → l[i]? = some v → ∃ p, m[i]? = some p ∧ F v p
  | _, _, _, _, .nil, e => by simp at e
  | _, _, 0, _, .cons r _, e => by
    simp at e
    subst e
    exact ⟨_, rfl, r⟩
  | _, _, i + 1, v, .cons _ t, e => by
    obtain ⟨p, h1, h2⟩ := Paired.at_ (i := i) (v := v) t (by simpa using e)
    exact ⟨p, by simpa using h1, h2⟩
theorem Paired.drop1 {α β : Type} {F : α → β → Prop} {l : List α} {m : List β} (h : Paired F l m) : Paired F (l.drop 1) (m.drop 1) := by
  cases h with
  | nil => exact .nil
  | cons _ t => exact t
theorem Paired.empty {α β : Type} {F : α → β → Prop} {l : List α} {m : List β} (h : Paired F l m) : m.isEmpty = l.isEmpty := by
  cases h <;> rfl
theorem beg_id {x : LpM.RS} {c : Bytes} (h : x.begun = some c) : { x with begun := some (x.begun.getD []) } = x := by
  obtain ⟨x1, x2, x3, x4, x5, x6, x7, x8, x9, x10, x11, x12, x13⟩ := x
  have h : x6 = some c := h
  subst h
  rfl
def cnt (ps : List (Bytes × Bool)) : Nat := (ps.filter fun y => y.2).length
theorem cnt_true {x : Bytes × Bool} {l : List (Bytes × Bool)} (h : x.2 = true) : cnt (x :: l) = cnt l + 1 := by
  unfold cnt
  rw [List.filter_cons, if_pos h, List.length_cons]
theorem cnt_false {x : Bytes × Bool} {l : List (Bytes × Bool)} (h : ¬ x.2 = true) : cnt (x :: l) = cnt l := by
  unfold cnt
  rw [List.filter_cons, if_neg h]
theorem cnt_any (l : List (Bytes × Bool)) : decide (cnt l = 0) = !(l.any fun y => y.2) := by
  induction l with
  | nil => rfl
  | cons x l ih =>
    rw [List.any_cons]
    by_cases h : x.2 = true
    · rw [cnt_true h, h]
      exact decide_eq_false (by omega)
    · rw [cnt_false h, ih, Bool.eq_false_iff.mpr h, Bool.false_or]
theorem cnt_le (l : List (Bytes × Bool)) : cnt l ≤ l.length := List.length_filter_le ..
theorem cnt_snoc (l : List (Bytes × Bool)) (x : Bytes × Bool) : cnt (l ++ [x]) = cnt l + if x.2 = true then 1 else 0 := by
  unfold cnt
  rw [List.filter_append, List.length_append]
  congr 1
  rw [List.filter_cons]
  split <;> rfl
theorem wgt_len (l : List (Bytes × Bool)) : l.length ≤ LpM.wgt l := by
  induction l with
  | nil => exact Nat.le_refl _
  | cons x l ih =>
    show l.length + 1 ≤ x.1.length + 1 + LpM.wgt l
    omega
section
variable {C PC : Addr} {H H' : Hp} {t a : Addr} {L : RL} {kp : List Addr} {ps : List V} {x : LpM.RS} {fp : List Addr}
theorem RdC.same (h : RdC C PC H t a L kp ps x) (s : Same H H') : RdC C PC H' t a L kp ps x :=
  (h.next (L' := L) (x' := x) (fun q o e _ => s q o e) (s _ _ h.ins) (s _ _ h.un) (s _ _ h.pw) (by
    have hb := h.bg
    cases e : L.bg with
    | none => rw [e] at hb; rw [hb.none_of]; exact True.intro
    | some q =>
      rw [e] at hb
      obtain ⟨b, e1, e2⟩ := hb.some_of
      rw [e1]
      exact s _ _ e2) h.ne h.neb rfl fun q m => .inl m).1
theorem RdAt.same (h : RdAt C PC H t a x fp) (s : Same H H') : RdAt C PC H' t a x fp := by
  obtain ⟨L, kp, ps, hc, e⟩ := h.ex
  exact ⟨L, kp, ps, hc.same s, e⟩
end
section
variable {P : Program} {w : World} {K : PySem.W.Frag} {mg : Str → Option Value} {base : Heap} {C PC : Addr}
abbrev sRdp : Stmt := inClass (top 39) 10
def spRdp (C PC : Addr) : Sp := fun vs H Q _ => ∃ (a t d : Addr) (x : LpM.RS) (fp : List Addr) (b : Bytes), vs = [.ref a, .ref d] ∧ RdAt C PC H t a x fp ∧ Out H d (.lst (vb b)) fp ∧ 27 ≤ b.length ∧ b.length = Lace.lengthOf b ∧ LpM.sz x + b.length ≤ 100000 ∧
  ∀ (H' : Hp) (fp' : List Addr), RdAt C PC H' t a (LpM.readA (Lace.pageOf b) x) fp' → Frm fp fp' H H' → Q .non H'
theorem scRdp : FnScope ["self", "page", "pieces", "ends_left", "piece", "ends"] ["self", "page"] (defScope sRdp) := ⟨rfl, rfl, rfl, by decide +kernel, rfl, by decide +kernel, by decide +kernel⟩
theorem ok_rdp {f : Addr} {fd : FuncData} (F : Fun K "read_pieces" "Reader.read_pieces" sRdp f fd) (T : RTx K mg C) (B : RCs mg) (fP : Has P w K mg base 1 "pieces_of" ["page"] (spPcs K)) (mE : HasM P w K mg base 3 C "end_packet" ["self", "page", "is_last_in_page"] (spEnd C PC)) :
    FnOk P w K mg base CX0 4 f fd ["self", "page"] (spRdp C PC) := by
  refine F.ok scRdp (fun vs H Q E h => ?_) (fun cdv A outer s H vs Q E hr h => ?_)
  · obtain ⟨a, t, d, x, fp, b, rfl, _⟩ := h
    rfl
  · obtain ⟨a, t, d, x, fp, b, rfl, hx, hd, h27, hlen, hsz, k⟩ := h
    have hr1 : Room 1 _ := hr.mono (by decide)
    refine ⟨_, pss_cons (ps_set (i := 2) scRdp.nd rfl (Or.inl rfl) (pe_has fP hr1 (pa_cons (pv 1) pa_nil)))
      (pss_cons (ps_if (PW.pt (pw_and (pt_truth (pe_op op_and (pe_ix ix_list (pv 1) (pe_cst B.flags) (fun _ _ => rfl)) (pe_cst B.midst)) (fun _ => rfl)) (pw_and (pt_cmpR op_isN (pe_fld (pv 0) rfl) pe_non (nomark _)) (pw_and1 (pt_truth (pv 2) (fun _ => rfl))))))
        (pss_cons (ps_fld (pv 0) pe_int rfl) (pss_one (ps_set (i := 2) scRdp.nd rfl (Or.inl rfl) (pe_slice sl_Q (pv 2) (po_some pe_int) po_none)))) pss_nil)
      (pss_cons (ps_set (i := 3) scRdp.nd rfl (Or.inl rfl) (pe_callB call_len_seq rfl B.len PySem.boot_len (pa_cons (pe_lc (own := [("piece", 4), ("ends", 5)]) (g := gTup K 2 (gCons (gName 4) (gCons (gName 5) gNil))) (tt := fun σ H Q => tVar 5 σ H fun x H' => ∃ k, TruV K x H' k ∧ Q k H') (te := tVar 5) rfl scRdp.nd (pi_list (pv 2)) (blkOk_by (by show blkC ["self", "page", "pieces", "ends_left", "piece", "ends"] (defScope sRdp) _ _ = true; decide +kernel))
        ?hg ?ht ?he) pa_nil)))
      (pss_one (ps_for PassesOwn.never rfl (pi_list (pv 2)) (pg_tup rfl (pgs_cons (pg_name (i := 4) scRdp.nd rfl (Or.inl rfl)) (pgs_cons (pg_name (i := 5) scRdp.nd rfl (Or.inl rfl)) pgs_nil)))
        (pss_cons (ps_if (pt_cmpR op_isN (pe_fld (pv 0) rfl) pe_non (nomark _)) (pss_one (ps_fld (pv 0) (pe_lstQ pa_nil) rfl)) pss_nil)
        (pss_cons (ps_expr (pe_bm PySem.F.plainAttrs_list PySem.F.slot_list_extend PySem.F.type_list_extend mt_extend (pe_fld (pv 0) rfl) (pa_cons (pv 4) pa_nil)))
        (pss_one (ps_if (pt_truth (pv 5) (fun _ => rfl)) (pss_cons (ps_aug (i := 3) scRdp.nd rfl (Or.inl rfl) pe_int ip_sub) (pss_one (ps_expr (pe_hasM mE (pv 0) T.cl hr (pa_cons (pv 1) (pa_cons (pe_cmpR op_eq (pv 3) pe_int (nomark _)) pa_nil)))))) pss_nil)))))))), ?body⟩
    case hg =>
      intro s1 H1 C1 cl1 fp1
      refine pg_tup rfl ?_
      refine pgs_cons ?_ ?_
      · exact pg_name (i := 4) scRdp.nd rfl (Or.inl rfl)
      refine pgs_cons ?_ pgs_nil
      exact pg_name (i := 5) scRdp.nd rfl (Or.inl rfl)
    case ht =>
      intro s1 H1 C1 cl1 fp1
      refine pts_one ?_
      refine pt_truth ?_ (fun _ => rfl)
      exact pv 5
    case he =>
      intro s1 H1 C1 cl1 fp1
      exact pv 5
    refine ⟨_, rfl, d, b, rfl, SqL.of hd.at_, h27, hlen, by omega, fun H1 q ys s1 nq e1 pc1 => ?_⟩
    have ebody : (Lace.pageOf b).body = b.drop (Lace.headOf b) := by
      show (b.take (Lace.lengthOf b)).drop (Lace.headOf b) = _
      rw [← hlen, List.take_length]
    have hw := LpM.page_wgt b
    rw [← hlen, ebody] at hw
    have eA : LpM.readA (Lace.pageOf b) x = if LpM.skips (Lace.pageOf b) (Lace.pieces (Lace.lacingOf b) (b.drop (Lace.headOf b)) []) x = true then LpM.readP (Lace.pageOf b).position (Lace.pageOf b).last ((Lace.pieces (Lace.lacingOf b) (b.drop (Lace.headOf b)) []).drop 1) { x with hole := true } else LpM.readP (Lace.pageOf b).position (Lace.pageOf b).last (Lace.pieces (Lace.lacingOf b) (b.drop (Lace.headOf b)) []) x := by
      rw [← ebody]; rfl
    have hw : LpM.wgt (Lace.pieces (Lace.lacingOf b) (b.drop (Lace.headOf b)) []) + 27 ≤ b.length := hw
    have eM : (Lace.pageOf b).midst = decide (Lace.byteAt b 5 % 2 = 1) := by
      show (Lace.byteAt b 5 % 2 == 1) = _
      exact Bool.beq_eq_decide_eq _ _
    generalize Lace.pieces (Lace.lacingOf b) (b.drop (Lace.headOf b)) [] = pcs at pc1 hw eA
    have hx1 := hx.same s1
    have hd1 : Out H1 d (.lst (vb b)) fp := ⟨s1 _ _ hd.at_, hd.no⟩
    have hq1 : q ∉ fp := hx.fresh nq
    obtain ⟨fb, hfb⟩ : ∃ fb, b[5]? = some fb := ⟨_, List.getElem?_eq_getElem (show 5 < b.length by omega)⟩
    rw [LpM.byteAt_of hfb] at eM
    -- the first piece passed over
    refine nx_of (seq_of (fun σ3 H3 => ∃ (q3 : Addr) (ys3 : List V) (pcs3 : List (Bytes × Bool)) (x3 : LpM.RS), LpM.readA (Lace.pageOf b) x = LpM.readP (Lace.pageOf b).position (Lace.pageOf b).last pcs3 x3 ∧ RdAt C PC H3 t a x3 fp ∧ Frm fp fp H H3 ∧ Out H3 d (.lst (vb b)) fp ∧ Out H3 q3 (.lst ys3) fp ∧ Pcs H H3 ys3 pcs3 ∧ LpM.sz x3 + LpM.wgt pcs3 ≤ 100000 ∧
      σ3 = [some (.ref a), some (.ref d), some (.ref q3), none, none, none]) (fun D' hD' => ?_) ?_)
    · obtain ⟨L, kp, ps, hc, efp⟩ := hx1.ex
      have ebn : decide (begV L.bg = .non) = x.begun.isNone := by
        have hb := hc.bg
        cases e : L.bg with
        | none => rw [e] at hb; rw [hb.none_of]; rfl
        | some g =>
          rw [e] at hb
          obtain ⟨c, e1, _⟩ := hb.some_of
          rw [e1]; rfl
      refine if_and (Lace.pageOf b).midst (x.begun.isNone && !pcs.isEmpty) (fun R hR => ⟨_, rfl, d, _, _, _, rfl, rfl, SqL.of hd1.at_, at_of (j := 5) rfl (vb_at hfb), _, _, rfl, rfl, _, by show (Lace.pageOf b).midst = _; rw [eM]; exact (flag1 (LpM.b_lt fb)).symm, hR⟩)
        (fun _ R hR => and_of x.begun.isNone (!pcs.isEmpty) (fun R' hR' => ⟨_, rfl, a, C, L.dx, _, _, rfl, hc.ins, T.cl, T.nBegun, rfl, rfl, _, congrArg V.bl ebn, hR'⟩) (fun _ R' hR' => ⟨_, rfl, !pcs.isEmpty, .inl ⟨ys, SqL.of e1, by rw [Paired.empty pc1]⟩, hR'⟩) hR) ?_
      refine iteB (fun hb => ?_) fun hb => ?_
      · rw [if_pos (show LpM.skips (Lace.pageOf b) pcs x = true from hb)] at eA
        refine ⟨_, rfl, a, C, L.dx, _, rfl, hc.ins, T.cl, T.nHole, by show 14 < 1000; decide, ?_⟩
        have g := hc.fld { x with hole := true } rfl rfl rfl
        rw [← efp] at g
        have g1 := g.1.atE efp
        have g2 := g.2
        have hq2 := g2.out ⟨e1, hq1⟩
        have hpc2 : Pcs H (upd H1 a (.ins C L.dx (rF (rV { x with hole := true } t L)))) ys pcs := pc1.keep (fun _ h => h) fun z o n h => g2.keep z o h (hx.fresh n)
        refine ⟨_, rfl, _, rfl, q, ys, rfl, SqL.of hq2.at_, fun q3 H3 n3 s3 e3 => ?_⟩
        rw [show cutV ys (some 1) none = ys.drop 1 from cut_n0 ys 1] at e3
        refine hD' _ _ ⟨q3, ys.drop 1, pcs.drop 1, { x with hole := true }, eA, g1.same s3, ((Frm.same s1).trans g2).trans (Frm.same s3), ?_, ⟨e3, g1.fresh n3⟩, ?_, ?_, rfl⟩
        · exact ⟨s3 _ _ (g2.out hd1).at_, hd.no⟩
        · exact Pcs.keep (Paired.drop1 hpc2) (fun _ h => h) fun z o n h => s3 _ _ h
        · have := LpM.wgt_drop1 pcs
          show LpM.sz x + _ ≤ _
          omega
      · rw [if_neg (show ¬ LpM.skips (Lace.pageOf b) pcs x = true from fun z => by rw [show LpM.skips (Lace.pageOf b) pcs x = false from hb] at z; cases z)] at eA
        exact hD' _ _ ⟨q, ys, pcs, x, eA, hx1, Frm.same s1, hd1, ⟨e1, hq1⟩, pc1, by omega, rfl⟩
    · rintro σ3 H3 ⟨q3, ys3, pcs3, x3, eA3, hx3, f3, hd3, hq3, pc3, hsz3, rfl⟩
      clear eA eM hw pc1 e1 hx1 hd1 hq1 hfb
      have hl3 : ys3.length = pcs3.length := Paired.length pc3
      have hw3 := wgt_len pcs3
      -- ends_left
      refine ⟨_, rfl, q3, rfl, ⟨_, SqL.of hq3.at_⟩, fun D hD => lc_list (g := gTup K 2 (gCons (gName 4) (gCons (gName 5) gNil))) (tt := fun σ H Q => tVar 5 σ H fun x H' => ∃ k, TruV K x H' k ∧ Q k H') (te := tVar 5) (vs := [4, 5]) (K := K) (a := q3) (xs := ys3) (fun i H' => Same H3 H' ∧ ∃ acc : List V, H' D = some (.lst acc) ∧ acc.length = cnt (pcs3.take i)) ⟨Same.up hD, [], upd_same, rfl⟩ (fun i H' _ ⟨s4, _⟩ => SqL.of (s4 _ _ hq3.at_)) (fun i v H' hi ⟨s4, acc, hacc, hal⟩ => ?_) fun H4 ⟨s4, acc, hacc, hal⟩ => ?_⟩
      · obtain ⟨pc, hpc, r, l, rfl, nr, nl, hr3, hl3'⟩ := Paired.at_ pc3 hi
        have ec : cnt (pcs3.take (i + 1)) = cnt (pcs3.take i) + if pc.2 = true then 1 else 0 := by rw [take_snoc hpc, cnt_snoc]
        have hcl : cnt (pcs3.take i) ≤ pcs3.length := Nat.le_trans (cnt_le _) (by rw [List.length_take]; omega)
        refine ⟨r, _, rfl, SqT.of (s4 _ _ hr3), rfl, _, _, rfl, _, _, rfl, rfl, rfl, _, rfl, pc.2, rfl, iteB (fun hb => ?_) fun hb => ?_⟩
        · refine ⟨_, rfl, acc, hacc, by rw [line_eq]; omega, s4.wr hD, acc ++ [_], upd_same, ?_⟩
          rw [List.length_append, ec, if_pos hb, hal]
          rfl
        · refine ⟨s4, acc, hacc, ?_⟩
          rw [ec, if_neg (by rw [hb]; exact Bool.false_ne_true), hal, Nat.add_zero]
      · rw [hl3, List.take_length] at hal
        have f4 : Frm fp fp H3 H4 := Frm.same s4
        have hx4 := hx3.same s4
        have hd4 := f4.out hd3
        have hq4 := f4.out hq3
        have pc4 : Pcs H H4 ys3 pcs3 := pc3.keep (fun _ h => h) fun z o n h => s4 _ _ h
        have fH4 := f3.trans f4
        clear f4 hx3 hd3 hq3 pc3 f3
        refine ⟨D, acc, rfl, .inl (SqL.of hacc), ?_⟩
        rw [hal]
        -- the loop
        refine ⟨_, rfl, q3, rfl, ⟨_, SqL.of hq4.at_⟩, for_list (K := K) (a := q3) (xs := ys3) (fun i σ H' => ∃ (v4 v5 : Option V) (xi : LpM.RS) (fpi : List Addr), LpM.readA (Lace.pageOf b) x = LpM.readP (Lace.pageOf b).position (Lace.pageOf b).last (pcs3.drop i) xi ∧ RdAt C PC H' t a xi fpi ∧ Frm fp fpi H4 H' ∧ LpM.sz xi + LpM.wgt (pcs3.drop i) ≤ 100000 ∧
          σ = [some (.ref a), some (.ref d), some (.ref q3), some (.int ((cnt (pcs3.drop i) : Nat) : Int)), v4, v5]) ⟨none, none, x3, fp, eA3, hx4, .refl _ _, hsz3, rfl⟩ (fun i σ H' _ ⟨_, _, _, _, _, _, fi, _, _⟩ => SqL.of (fi.out hq4).at_) ?_ ?_⟩
        · rintro i v σ H' hi ⟨v4, v5, xi, fpi, eAi, hxi, fi, hszi, rfl⟩
          obtain ⟨pc, hpc, r, l, rfl, nr, nl, hr4, hl4⟩ := Paired.at_ pc4 hi
          have hr' := (fi.out ⟨hr4, hx.fresh nr⟩).at_
          have hl' : Out H' l (.lst (vb pc.1)) fpi := fi.out ⟨hl4, hx.fresh nl⟩
          have hdi := fi.out hd4
          have edrop := LpM.drop_at hpc
          rw [edrop] at eAi hszi ⊢
          have hszi : LpM.sz xi + (pc.1.length + 1 + LpM.wgt (pcs3.drop (i + 1))) ≤ 100000 := hszi
          rw [LpM.readP_cons] at eAi
          obtain ⟨pb, pe⟩ := pc
          refine ⟨r, _, rfl, SqT.of hr', rfl, _, _, rfl, _, _, rfl, rfl, ?_⟩
          -- if self.begun is None: self.begun = []
          refine seq_of (fun σ5 H5 => σ5 = [some (.ref a), some (.ref d), some (.ref q3), some (.int ((cnt ((pb, pe) :: pcs3.drop (i + 1)) : Nat) : Int)), some (.ref l), some (.bl pe)] ∧ ∃ fp5, RdAt C PC H5 t a { xi with begun := some (xi.begun.getD []) } fp5 ∧ Frm fpi fp5 H' H5) (fun D' hD' => ?_) ?_
          · obtain ⟨L, kp, ps, hc, efp⟩ := hxi.ex
            refine ⟨_, rfl, a, C, L.dx, _, _, rfl, hc.ins, T.cl, T.nBegun, rfl, rfl, _, rfl, iteB (fun hb => ?_) fun hb => ?_⟩
            · have hb' : begV L.bg = .non := by simpa using hb
              have hq : L.bg = none := by
                cases e : L.bg with
                | none => rfl
                | some g => rw [e] at hb'; cases hb'
              have hbg := hc.bg
              rw [hq] at hbg
              have hbn := hbg.none_of
              refine ⟨by show 0 ≤ 1000000; decide, fun g5 G5 n5 s5 e5 => ?_⟩
              refine ⟨_, rfl, a, C, L.dx, _, rfl, s5 _ _ hc.ins, T.cl, T.nBegun, by show 14 < 1000; decide, ?_⟩
              have nga : g5 ≠ a := (ne_of_none hc.ins n5).symm
              have g := hc.next (H' := upd G5 a (.ins C L.dx (putF "begun" (.ref g5) (rF (rV xi t L))))) (L' := { L with bg := some g5 }) (x' := { xi with begun := some (xi.begun.getD []) }) (fun z o e n => by rw [upd_ne (fun w => n (by rw [w]; exact mem_core_a))]; exact s5 _ _ e) (by rw [upd_same]; rfl)
                (by show upd G5 a _ L.un = _; rw [upd_ne (ne_au hc)]; exact s5 _ _ hc.un) (by show upd G5 a _ L.pw = _; rw [upd_ne (ne_ap hc)]; exact s5 _ _ hc.pw) (by
                  rw [hbn]
                  show upd G5 a _ g5 = _
                  rw [upd_ne nga]; exact e5) hc.ne (fun z w => by
                  have w : g5 = z := by injection w
                  rw [← w]
                  exact ⟨(ne_of_none hc.un n5).symm, (ne_of_none hc.pw n5).symm⟩) rfl (fun z m => by
                  unfold core at m ⊢
                  simp only [List.mem_cons, Option.toList_some, List.not_mem_nil, or_false] at m
                  rcases m with m | m | m | m
                  · exact .inl (by simp [m])
                  · exact .inl (by simp [m])
                  · exact .inl (by simp [m])
                  · exact .inr (by rw [m]; exact n5))
              rw [← efp] at g
              exact hD' _ _ ⟨rfl, _, g.1.at_, g.2⟩
            · have hb' : begV L.bg ≠ .non := by simpa using hb
              obtain ⟨g, hg⟩ : ∃ g, L.bg = some g := by
                cases e : L.bg with
                | none => rw [e] at hb'; exact absurd rfl hb'
                | some g => exact ⟨g, rfl⟩
              have hbg := hc.bg
              rw [hg] at hbg
              obtain ⟨c, hbc, _⟩ := hbg.some_of
              exact hD' _ _ ⟨rfl, fpi, by rw [beg_id hbc]; exact hxi, .refl _ _⟩
          · rintro σ5 H5 ⟨rfl, fp5, hx5, f5⟩
            obtain ⟨L5, kp5, ps5, hc5, efp5⟩ := hx5.ex
            obtain ⟨dx5, un5, pw5, bg5⟩ := L5
            cases bg5 with
            | none => exact absurd hc5.bg id
            | some g =>
              have hg : H5 g = some (.lst (vb (xi.begun.getD []))) := hc5.bg
              have hl5 := f5.out hl'
              have hblen : (xi.begun.getD []).length ≤ LpM.sz xi := Nat.le_add_right _ _
              refine ⟨_, rfl, a, C, dx5, _, _, rfl, hc5.ins, T.cl, T.nBegun, rfl, .inl ⟨rfl, _, SqL.of hg⟩, _, rfl, g, l, _, _, rfl, rfl, hg, hl5.at_, by
                rw [vb_length, vb_length, line_eq]
                show _ + pb.length ≤ _
                have hszi : LpM.sz xi + (pb.length + 1 + LpM.wgt (pcs3.drop (i + 1))) ≤ 100000 := hszi
                omega, ?_⟩
              have nga : g ≠ a := ne_ab hc5 rfl
              obtain ⟨ngu, ngp⟩ := hc5.neb g rfl
              have gg := hc5.next (H' := upd H5 g (.lst (vb (xi.begun.getD []) ++ vb pb))) (L' := ⟨dx5, un5, pw5, some g⟩) (x' := LpM.grow xi pb) (fun z o e n => by rw [upd_ne (fun w => n (by rw [w]; exact mem_core_bg rfl))]; exact e) (by rw [upd_ne nga.symm]; exact hc5.ins)
                (by show upd H5 g _ un5 = _; rw [upd_ne (Ne.symm ngu)]; exact hc5.un) (by show upd H5 g _ pw5 = _; rw [upd_ne (Ne.symm ngp)]; exact hc5.pw) (by
                  show upd H5 g _ g = some (.lst (vb (xi.begun.getD [] ++ pb)))
                  rw [upd_same, vb_append]) hc5.ne hc5.neb rfl (fun z m => .inl m)
              rw [← efp5] at gg
              obtain ⟨hc6, f6⟩ := gg
              have hx6 := hc6.atE efp5
              generalize upd H5 g (.lst (vb (xi.begun.getD []) ++ vb pb)) = H6 at hc6 f6 hx6 ⊢
              have f56 := f5.trans f6
              have hd6 := f56.out hdi
              have hg6 := LpM.sz_grow xi pb
              have hszi : LpM.sz xi + (pb.length + 1 + LpM.wgt (pcs3.drop (i + 1))) ≤ 100000 := hszi
              refine ⟨_, rfl, pe, rfl, iteB (fun hb => ?_) fun hb => ?_⟩
              · subst hb
                rw [if_pos rfl] at eAi
                refine ⟨_, rfl, _, _, rfl, rfl, ?_⟩
                have hwt : (LpM.grow xi pb).waits.length ≤ LpM.sz (LpM.grow xi pb) := Nat.le_add_left _ _
                refine ⟨_, rfl, a, dx5, _, rfl, hc6.ins, rfl, _, rfl, _, rfl, rfl, a, t, d, LpM.grow xi pb, fp5, b, _, !((pcs3.drop (i + 1)).any fun y => y.2), ?_, hx6, hd6, rfl, by omega, h27, fun H7 fp7 hx7 f7 => ?_⟩
                · show [V.ref a, V.ref d, V.bl (decide (V.int (((cnt ((pb, true) :: pcs3.drop (i + 1)) : Nat) : Int) - 1) = V.int 0))] = _
                  rw [cnt_true rfl, ← cnt_any]
                  have e : decide (V.int (((cnt (pcs3.drop (i + 1)) + 1 : Nat) : Int) - 1) = V.int 0) = decide (cnt (pcs3.drop (i + 1)) = 0) := decide_eq_decide.mpr ⟨fun z => by injection z with z; omega, fun z => by rw [z]; rfl⟩
                  rw [e]
                · obtain ⟨_, se, _⟩ := LpM.endP_props (Lace.pageOf b).position (Lace.pageOf b).last (!((pcs3.drop (i + 1)).any fun y => y.2)) (LpM.grow xi pb)
                  refine ⟨some (.ref l), some (.bl true), _, fp7, eAi, hx7, fi.trans (f56.trans f7), Nat.le_trans (Nat.add_le_add_right se _) (by omega), ?_⟩
                  show [some (V.ref a), some (V.ref d), some (V.ref q3), some (V.int (((cnt ((pb, true) :: pcs3.drop (i + 1)) : Nat) : Int) - 1)), _, _] = _
                  rw [cnt_true rfl, show (((cnt (pcs3.drop (i + 1)) + 1 : Nat) : Int) - 1) = ((cnt (pcs3.drop (i + 1)) : Nat) : Int) by omega]
              · subst hb
                rw [if_neg Bool.false_ne_true] at eAi
                refine ⟨some (.ref l), some (.bl false), _, fp5, eAi, hx6, fi.trans f56, by show LpM.sz (LpM.grow xi pb) + _ ≤ _; omega, ?_⟩
                rw [cnt_false Bool.false_ne_true]
        · rintro σ H' ⟨v4, v5, xi, fpi, eAi, hxi, fi, hszi, rfl⟩
          rw [hl3, List.drop_length, LpM.readP_nil] at eAi
          refine k H' fpi ?_ (fH4.trans fi)
          rw [eAi]
          exact hxi
end
end Lp
end
section
set_option Elab.async false
set_option linter.all false
set_option maxRecDepth 100000
set_option maxHeartbeats 2000000
namespace Lp
open PySem PySem.Spec PyProof.Rows L2
section
variable {P : Program} {w : World} {K : PySem.W.Frag} {mg : Str → Option Value} {base : Heap} {C PC : Addr}
abbrev sMeet : Stmt := inClass (top 39) 6
def spMeet (C PC : Addr) : Sp := fun vs H Q _ => ∃ (a t d : Addr) (x : LpM.RS) (fp : List Addr) (b : Bytes), vs = [.ref a, .ref d] ∧ RdAt C PC H t a x fp ∧ Out H d (.lst (vb b)) fp ∧ 27 ≤ b.length ∧ b.length = Lace.lengthOf b ∧ LpM.sz x + b.length ≤ 100000 ∧
  ∀ (H' : Hp) (fp' : List Addr), RdAt C PC H' t a (LpM.meet (Lace.pageOf b) x) fp' → Frm fp fp' H H' → Q .non H'
theorem scMeet : FnScope ["self", "page", "number"] ["self", "page"] (defScope sMeet) := ⟨rfl, rfl, rfl, by decide +kernel, rfl, by decide +kernel, by decide +kernel⟩
theorem ok_meet {f : Addr} {fd : FuncData} (F : Fun K "meet_page" "Reader.meet_page" sMeet f fd) (T : RTx K mg C) (B : RCs mg) (fN : Has P w K mg base 1 "number_at" ["data", "start", "count"] (spNum K)) (mO : HasM P w K mg base 1 C "is_old" ["self", "number"] (spOld C PC))
    (mF : HasM P w K mg base 2 C "follow_number" ["self", "number", "flags"] (spFol C PC)) (mR : HasM P w K mg base 4 C "read_pieces" ["self", "page"] (spRdp C PC)) (mD : HasM P w K mg base 1 C "drop_begun" ["self"] (spDrp C PC)) :
    FnOk P w K mg base CX0 5 f fd ["self", "page"] (spMeet C PC) := by
  refine F.ok scMeet (fun vs H Q E h => ?_) (fun cdv A outer s H vs Q E hr h => ?_)
  · obtain ⟨a, t, d, x, fp, b, rfl, _⟩ := h
    rfl
  · obtain ⟨a, t, d, x, fp, b, rfl, hx, hd, h27, hlen, hsz, k⟩ := h
    have hr1 : Room 1 _ := hr.mono (by decide)
    have hr2 : Room 2 _ := hr.mono (by decide)
    refine ⟨_, pss_cons (ps_set (i := 2) scMeet.nd rfl (Or.inl rfl) (pe_has fN hr1 (pa_cons (pv 1) (pa_cons (pe_cst B.numAt) (pa_cons pe_int pa_nil)))))
      (pss_one (ps_if (pt_cmpR op_ne (pe_has fN hr1 (pa_cons (pv 1) (pa_cons (pe_cst B.strAt) (pa_cons pe_int pa_nil)))) (pe_fld (pv 0) rfl) (nomark _))
        (pss_one (ps_fldaug (pv 0) pe_int in_add))
        (pss_one (ps_if (PW.pt (pw_or (pt_truth (pe_fld (pv 0) rfl) (fun _ => rfl)) (pw_or1 (pt_truth (pe_hasM mO (pv 0) T.cl hr1 (pa_cons (pv 2) pa_nil)) (fun _ => rfl)))))
          (pss_one (ps_fldaug (pv 0) pe_int in_add))
          (pss_cons (ps_fldaug (pv 0) pe_int in_add)
          (pss_cons (ps_expr (pe_hasM mF (pv 0) T.cl hr2 (pa_cons (pv 2) (pa_cons (pe_ix ix_list (pv 1) (pe_cst B.flags) (fun _ _ => rfl)) pa_nil))))
          (pss_cons (ps_expr (pe_hasM mR (pv 0) T.cl hr (pa_cons (pv 1) pa_nil)))
          (pss_one (ps_if (pt_truth (pe_op op_and (pe_ix ix_list (pv 1) (pe_cst B.flags) (fun _ _ => rfl)) (pe_cst B.lastP)) (fun _ => rfl)) (pss_cons (ps_expr (pe_hasM0 mD (pv 0) T.cl hr1)) (pss_one (ps_fld (pv 0) pe_bl rfl))) pss_nil))))))))), ?_⟩
    refine ⟨_, rfl, d, b, 18, 4, rfl, SqL.of hd.at_, fun H1 s1 => ?_⟩
    obtain ⟨fb, hfb⟩ : ∃ fb, b[5]? = some fb := ⟨_, List.getElem?_eq_getElem (show 5 < b.length by omega)⟩
    have efl : (Lace.pageOf b).flags = fb.toNat := LpM.byteAt_of hfb
    have elast : (Lace.pageOf b).last = decide (fb.toNat / 4 % 2 = 1) := by
      show (Lace.byteAt b 5 / 4 % 2 == 1) = _
      rw [LpM.byteAt_of hfb]
      exact Bool.beq_eq_decide_eq _ _
    have enum : (Lace.pageOf b).number = Lace.unle ((b.drop 18).take 4) := rfl
    have estr : (Lace.pageOf b).stream = Lace.unle ((b.drop 14).take 4) := rfl
    have eM : LpM.meet (Lace.pageOf b) x = if (Lace.pageOf b).stream ≠ x.stream then { x with others := x.others + 1 } else if (x.over || LpM.isOld x.num (Lace.pageOf b).number) = true then { x with strange := x.strange + 1 } else if (Lace.pageOf b).last = true then { LpM.dropB (LpM.readA (Lace.pageOf b) (LpM.followN (Lace.pageOf b).number (Lace.pageOf b).flags { x with taken := x.taken + 1 })) with over := true } else LpM.readA (Lace.pageOf b) (LpM.followN (Lace.pageOf b).number (Lace.pageOf b).flags { x with taken := x.taken + 1 }) := rfl
    rw [eM] at k
    clear eM
    rw [← enum]
    generalize (Lace.pageOf b).number = n at k enum ⊢
    refine ⟨_, rfl, d, b, 14, 4, rfl, SqL.of (s1 _ _ hd.at_), fun H2 s2 => ?_⟩
    rw [← estr]
    generalize (Lace.pageOf b).stream = st at k estr ⊢
    have s12 := s1.trans s2
    have hx2 := hx.same s12
    have f2 : Frm fp fp H H2 := Frm.same s12
    have hd2 := f2.out hd
    obtain ⟨L, kp, ps, hc, efp⟩ := hx2.ex
    refine ⟨_, rfl, a, C, L.dx, _, _, rfl, hc.ins, T.cl, T.nStream, rfl, rfl, _, rfl, iteB (fun hb => ?_) fun hb => ?_⟩
    · have hb' : ¬ V.int (st : Int) = V.int (x.stream : Int) := by simpa using hb
      have hne : st ≠ x.stream := fun z => hb' (by rw [z])
      rw [if_pos hne] at k
      refine ⟨_, rfl, a, C, L.dx, _, _, rfl, hc.ins, T.cl, T.nOthers, rfl, _, _, rfl, rfl, L.dx, _, hc.ins, by show 14 < 1000; decide, ?_⟩
      have g := hc.fld { x with others := x.others + 1 } rfl rfl rfl
      rw [← efp] at g
      exact k _ _ (g.1.atE efp) (f2.trans g.2)
    have hb' : V.int (st : Int) = V.int (x.stream : Int) := by simpa using hb
    have heq : ¬ st ≠ x.stream := fun z => z (by injection hb' with hb'; omega)
    rw [if_neg heq] at k
    refine if_or x.over (LpM.isOld x.num n) (fun R hR => ⟨_, rfl, a, C, L.dx, _, _, rfl, hc.ins, T.cl, T.nOver, rfl, _, rfl, hR⟩) (fun _ R hR => ⟨_, rfl, a, L.dx, _, rfl, hc.ins, rfl, _, rfl, a, t, x, fp, n, rfl, hx2, _, rfl, hR⟩) ?_
    refine iteB (fun hb => ?_) fun hb => ?_
    · rw [if_pos hb] at k
      refine ⟨_, rfl, a, C, L.dx, _, _, rfl, hc.ins, T.cl, T.nLate, rfl, _, _, rfl, rfl, L.dx, _, hc.ins, by show 14 < 1000; decide, ?_⟩
      have g := hc.fld { x with strange := x.strange + 1 } rfl rfl rfl
      rw [← efp] at g
      exact k _ _ (g.1.atE efp) (f2.trans g.2)
    rw [if_neg (by rw [hb]; exact Bool.false_ne_true)] at k
    refine ⟨_, rfl, a, C, L.dx, _, _, rfl, hc.ins, T.cl, T.nTaken, rfl, _, _, rfl, rfl, L.dx, _, hc.ins, by show 14 < 1000; decide, ?_⟩
    have g := hc.fld { x with taken := x.taken + 1 } rfl rfl rfl
    rw [← efp] at g
    have gi := g.1.ins
    have hx3 := g.1.atE efp
    have f3 := f2.trans g.2
    have hd3 := f3.out hd
    rw [efl] at k
    refine ⟨_, rfl, a, L.dx, _, rfl, gi, rfl, _, rfl, _, rfl, d, _, _, _, rfl, rfl, SqL.of hd3.at_, at_of (j := 5) rfl (vb_at hfb), a, t, _, fp, n, fb.toNat, rfl, LpM.b_lt fb, hx3, fun H4 fp4 hx4 f4 => ?_⟩
    have f04 := f3.trans f4
    have hd4 := f04.out hd
    obtain ⟨_, sz4, _, _⟩ := LpM.followN_props n fb.toNat { x with taken := x.taken + 1 }
    have sz4 : LpM.sz (LpM.followN n fb.toNat { x with taken := x.taken + 1 }) ≤ LpM.sz x := sz4
    obtain ⟨L4, kp4, ps4, hc4, efp4⟩ := hx4.ex
    refine ⟨_, rfl, a, L4.dx, _, rfl, hc4.ins, rfl, _, rfl, a, t, d, _, fp4, b, rfl, hx4, hd4, h27, hlen, by omega, fun H5 fp5 hx5 f5 => ?_⟩
    have f05 := f04.trans f5
    have hd5 := f05.out hd
    generalize LpM.readA (Lace.pageOf b) (LpM.followN n fb.toNat { x with taken := x.taken + 1 }) = u at k hx5
    refine ⟨_, rfl, d, _, _, _, rfl, rfl, SqL.of hd5.at_, at_of (j := 5) rfl (vb_at hfb), _, _, rfl, rfl, _, rfl, ?_⟩
    rw [flag4 (LpM.b_lt fb), ← elast]
    obtain ⟨L5, kp5, ps5, hc5, efp5⟩ := hx5.ex
    refine iteB (fun hb => ?_) fun hb => ?_
    · rw [if_pos hb] at k
      refine ⟨_, rfl, a, L5.dx, _, rfl, hc5.ins, rfl, a, t, u, fp5, rfl, hx5, fun H6 fp6 hx6 f6 => ?_⟩
      obtain ⟨L6, kp6, ps6, hc6, efp6⟩ := hx6.ex
      refine ⟨_, rfl, a, C, L6.dx, _, rfl, hc6.ins, T.cl, T.nOver, by show 14 < 1000; decide, ?_⟩
      have g := hc6.fld { LpM.dropB u with over := true } rfl rfl rfl
      rw [← efp6] at g
      exact k _ _ (g.1.atE efp6) ((f05.trans f6).trans g.2)
    · rw [if_neg (by rw [hb]; exact Bool.false_ne_true)] at k
      exact k _ _ hx5 f05
end
end Lp
end
section
set_option Elab.async false
set_option linter.all false
set_option maxRecDepth 100000
set_option maxHeartbeats 2000000
namespace Lp
open PySem PySem.Spec PyProof.Rows L2
theorem jv_zero {c : Bytes} (h : LpM.jv (Lace.judge c) = 0) : Lace.judge c = .short := by
  cases e : Lace.judge c with
  | short => rfl
  | wrong => rw [e] at h; exact absurd h (by decide)
  | page k =>
    rw [e] at h
    obtain ⟨_, h27, _, _⟩ := LpM.judge_page e
    have h : (k : Int) = 0 := h
    omega
theorem jv_neg {c : Bytes} (h : LpM.jv (Lace.judge c) = -1) : Lace.judge c = .wrong := by
  cases e : Lace.judge c with
  | short => rw [e] at h; exact absurd h (by decide)
  | wrong => rfl
  | page k =>
    rw [e] at h
    have h : (k : Int) = -1 := h
    omega
section
variable {C PC : Addr} {H H' : Hp} {t a : Addr} {L : RL} {kp : List Addr} {ps : List V} {x : LpM.RS} {fp : List Addr}
theorem RdC.newUn (h : RdC C PC H t a L kp ps x) {p : Addr} {G : Hp} {c : Bytes} (n : H p = none) (s : Same H G) (e : G p = some (.lst (vb c))) : RdC C PC (upd G a (.ins C L.dx (rF (rV { x with un := c } t { L with un := p })))) t a { L with un := p } kp ps { x with un := c } ∧ Frm (core a L ++ kp) (core a { L with un := p } ++ kp) H (upd G a (.ins C L.dx (rF (rV { x with un := c } t { L with un := p })))) :=
  h.next (L' := { L with un := p }) (x' := { x with un := c }) (fun q o e n => by rw [upd_ne (fun z => n (by rw [z]; exact mem_core_a))]; exact s _ _ e) upd_same (by show upd G a _ p = _; rw [upd_ne (ne_of_none h.ins n).symm]; exact e) (by show upd G a _ L.pw = _; rw [upd_ne (ne_ap h)]; exact s _ _ h.pw)
    (by
      show BgAt _ L.bg x.begun
      refine BgAt.upd_ ?_ fun q z => ne_ab h z
      have hb := h.bg
      cases e : L.bg with
      | none => rw [e] at hb; rw [hb.none_of]; exact True.intro
      | some q =>
        rw [e] at hb
        obtain ⟨b, e1, e2⟩ := hb.some_of
        rw [e1]
        exact s _ _ e2) (ne_of_none h.pw n).symm (fun q z => ⟨by
          show q ≠ p
          have z : L.bg = some q := z
          have hb := h.bg
          rw [z] at hb
          obtain ⟨b, _, e2⟩ := hb.some_of
          exact ne_of_none e2 n, (h.neb q z).2⟩) rfl (fun q m => by
      unfold core at m ⊢
      simp only [List.mem_cons] at m ⊢
      rcases m with m | m | m | m
      · exact .inl (.inl m)
      · exact .inr (by rw [m]; exact n)
      · exact .inl (.inr (.inr (.inl m)))
      · exact .inl (.inr (.inr (.inr m))))
end
section
variable {P : Program} {w : World} {K : PySem.W.Frag} {mg : Str → Option Value} {base : Heap} {C PC : Addr}
abbrev sJu : Stmt := inClass (top 39) 5
def spJu (C PC : Addr) : Sp := fun vs H Q _ => ∃ (a t : Addr) (x : LpM.RS) (fp : List Addr), vs = [.ref a] ∧ RdAt C PC H t a x fp ∧ LpM.RunOk x ∧ LpM.sz x + x.un.length ≤ 50000 ∧
  ∀ (H' : Hp) (fp' : List Addr), RdAt C PC H' t a (LpM.judgeU x) fp' → Frm fp fp' H H' → Q .non H'
theorem scJu : FnScope ["self", "start", "verdict"] ["self"] (defScope sJu) := ⟨rfl, rfl, rfl, by decide +kernel, rfl, by decide +kernel, by decide +kernel⟩
theorem ok_ju {f : Addr} {fd : FuncData} (F : Fun K "judge_unjudged" "Reader.judge_unjudged" sJu f fd) (T : RTx K mg C) (B : RCs mg) (fJ : Has P w K mg base 3 "judge" ["table", "data", "start"] (spJud K)) (mM : HasM P w K mg base 5 C "meet_page" ["self", "page"] (spMeet C PC)) :
    FnOk P w K mg base CX0 6 f fd ["self"] (spJu C PC) := by
  refine F.ok scJu (fun vs H Q E h => ?_) (fun cdv A outer s H vs Q E hr h => ?_)
  · obtain ⟨a, t, x, fp, rfl, _⟩ := h
    rfl
  · obtain ⟨a, t, x, fp, rfl, hx, ok, hsz, k⟩ := h
    have hr3 : Room 3 _ := hr.mono (by decide)
    refine ⟨_, pss_cons (ps_set (i := 1) scJu.nd rfl (Or.inl rfl) pe_int)
      (pss_cons (ps_set (i := 2) scJu.nd rfl (Or.inl rfl) (pe_has fJ hr3 (pa_cons (pe_fld (pv 0) rfl) (pa_cons (pe_fld (pv 0) rfl) (pa_cons (pv 1) pa_nil)))))
      (pss_cons (ps_while PassesOwn.never (pt_cmpR op_ne (pv 2) (pe_cst B.waits) (nomark _))
        (pss_cons (ps_if (pt_cmpR op_eq (pv 2) (pe_cst B.noPage) (nomark _))
          (pss_cons (ps_fldaug (pv 0) pe_int in_add) (pss_one (ps_aug (i := 1) scJu.nd rfl (Or.inl rfl) pe_int ip_add)))
          (pss_cons (ps_expr (pe_hasM mM (pv 0) T.cl hr (pa_cons (pe_slice sl_B (pe_fld (pv 0) rfl) (po_some (pv 1)) (po_some (pe_op op_add (pv 1) (pv 2)))) pa_nil))) (pss_one (ps_aug (i := 1) scJu.nd rfl (Or.inl rfl) (pv 2) ip_add))))
        (pss_one (ps_set (i := 2) scJu.nd rfl (Or.inl rfl) (pe_has fJ hr3 (pa_cons (pe_fld (pv 0) rfl) (pa_cons (pe_fld (pv 0) rfl) (pa_cons (pv 1) pa_nil))))))))
      (pss_one (ps_if (pt_cmpR op_gt (pv 1) pe_int (nomark _)) (pss_one (ps_fld (pv 0) (pe_slice sl_Q (pe_fld (pv 0) rfl) (po_some (pv 1)) po_none) rfl)) pss_nil)))), ?_⟩
    obtain ⟨L, kp, ps, hc, efp⟩ := hx.ex
    have eU : LpM.judgeU x = { (LpM.run (x.un.length + 1) x.un 0 x).2 with un := x.un.drop (LpM.run (x.un.length + 1) x.un 0 x).1 } := rfl
    refine ⟨_, rfl, a, C, L.dx, _, _, rfl, hc.ins, T.cl, T.nTable, rfl, _, rfl, a, C, L.dx, _, _, rfl, hc.ins, T.cl, T.nUn, rfl, _, rfl, t, L.un, x.un, 0, rfl, SqL.of hc.tab.at_, SqL.of hc.un, Nat.zero_le _, by omega, fun H1 s1 => ?_⟩
    generalize hU : x.un = U at *
    -- the loop
    refine nx_of (show tSeq _ _ _ _ _ from ?_)
    refine ⟨fun m σ H' => ∃ (s n : Nat) (xi : LpM.RS) (fpi : List Addr), m = U.length - s ∧ s ≤ U.length ∧ U.length < n + s ∧ LpM.run (U.length + 1) U 0 x = LpM.run n U s xi ∧ RdAt C PC H' t a xi fpi ∧ xi.un = U ∧ LpM.RunOk xi ∧ Frm fp fpi H H' ∧ LpM.sz xi + (U.length - s) ≤ 50000 ∧
      σ = [some (.ref a), some (.int (s : Int)), some (.int (LpM.jv (Lace.judge (U.drop s))))], ⟨_, 0, U.length + 1, x, fp, rfl, Nat.zero_le _, by omega, rfl, hx.same s1, hU, ok, Frm.same s1, by omega, rfl⟩, ?_⟩
    rintro m σ H' ⟨s, n, xi, fpi, rfl, hs, hn, hrun, hxi, hui, oki, fi, hszi, rfl⟩
    obtain ⟨Li, kpi, psi, hci, efpi⟩ := hxi.ex
    refine ⟨_, rfl, rfl, _, rfl, iteB (fun hb => ?_) fun hb => ?_⟩
    · have hb' : ¬ V.int (LpM.jv (Lace.judge (U.drop s))) = V.int 0 := by simpa using hb
      have hns : Lace.judge (U.drop s) ≠ .short := fun z => hb' (by rw [z]; rfl)
      refine ⟨fun σ' H' => ∃ m', m' < U.length - s ∧ ∃ (s' n : Nat) (xi : LpM.RS) (fpi : List Addr), m' = U.length - s' ∧ s' ≤ U.length ∧ U.length < n + s' ∧ LpM.run (U.length + 1) U 0 x = LpM.run n U s' xi ∧ RdAt C PC H' t a xi fpi ∧ xi.un = U ∧ LpM.RunOk xi ∧ Frm fp fpi H H' ∧ LpM.sz xi + (U.length - s') ≤ 50000 ∧
        σ' = [some (.ref a), some (.int (s' : Int)), some (.int (LpM.jv (Lace.judge (U.drop s'))))], fun σ' H' h => h, ?_⟩
      cases n with
      | zero =>
        exfalso
        exact hns (by rw [List.drop_of_length_le (by omega)]; exact LpM.judge_nil)
      | succ n =>
        refine seq_of (fun σ3 H3 => ∃ (s' : Nat) (x3 : LpM.RS) (fp3 : List Addr), s < s' ∧ s' ≤ U.length ∧ LpM.run (U.length + 1) U 0 x = LpM.run n U s' x3 ∧ RdAt C PC H3 t a x3 fp3 ∧ x3.un = U ∧ LpM.RunOk x3 ∧ Frm fp fp3 H H3 ∧ LpM.sz x3 + (U.length - s') ≤ 50000 ∧ σ3 = [some (.ref a), some (.int (s' : Int)), some (.int (LpM.jv (Lace.judge (U.drop s))))]) (fun D' hD' => ?_) ?_
        · refine ⟨_, rfl, rfl, _, rfl, iteB (fun hw => ?_) fun hw => ?_⟩
          · have hw' := of_decide_eq_true hw
            injection hw' with hw'
            have hj := jv_neg hw'
            have hlt := LpM.judge_wrong_lt hj
            rw [LpM.run_wrong hj] at hrun
            refine ⟨_, rfl, a, C, Li.dx, _, _, rfl, hci.ins, T.cl, T.nPassed, rfl, _, _, rfl, rfl, Li.dx, _, hci.ins, by show 14 < 1000; decide, ?_⟩
            have g := hci.fld { xi with passed := xi.passed + 1 } rfl rfl rfl
            rw [← efpi] at g
            refine ⟨_, rfl, _, _, rfl, rfl, ?_⟩
            refine hD' _ _ ⟨s + 1, _, fpi, Nat.lt_succ_self s, hlt, hrun, g.1.atE efpi, hui, ⟨oki.num, oki.pks⟩, fi.trans g.2, ?_, rfl⟩
            show LpM.sz xi + _ ≤ _
            omega
          · have hw' := of_decide_eq_false hw
            cases hj : Lace.judge (U.drop s) with
            | short => exact absurd hj hns
            | wrong => exact absurd (by rw [hj]; rfl) hw'
            | page kk =>
              obtain ⟨h27, hk⟩ := LpM.judge_page_le hj
              rw [LpM.run_page hj] at hrun
              have ejv : LpM.jv (Lace.judge (U.drop s)) = (kk : Int) := by rw [hj]; rfl
              have hlen := LpM.take_len hj
              obtain ⟨al, _, _⟩ := LpM.page_alone hj
              have hun : H' Li.un = some (.lst (vb U)) := by rw [← hui]; exact hci.un
              refine ⟨_, rfl, a, Li.dx, _, rfl, hci.ins, rfl, _, rfl, a, C, Li.dx, _, _, rfl, hci.ins, T.cl, T.nUn, rfl, _, rfl, _, rfl, _, rfl, _, rfl, _, _, rfl, rfl, _, rfl, Li.un, U, s, s + kk, rfl, rfl, congrArg some (by show (s : Int) + (kk : Int) = _; omega), SqL.of hun, fun p2 G2 n2 s2 e2 => ?_⟩
              rw [Nat.add_sub_cancel_left] at e2
              have hx2 := hxi.same s2
              refine ⟨a, t, p2, xi, fpi, (U.drop s).take kk, rfl, hx2, ⟨e2, hxi.fresh n2⟩, by omega, by rw [hlen, al], by omega, fun H3 fp3 hx3 f3 => ?_⟩
              obtain ⟨kp3, sz3, nm3, wt3⟩ := LpM.meet_props (Lace.pageOf ((U.drop s).take kk)) xi (LpM.page_num _)
              have hwg := LpM.page_wgt ((U.drop s).take kk)
              rw [al] at hwg
              refine ⟨_, rfl, _, rfl, _, _, rfl, rfl, ?_⟩
              refine hD' _ _ ⟨s + kk, _, fp3, by omega, hk, hrun, hx3, kp3.un.trans hui, ⟨nm3 oki.num, wt3 oki.pks⟩, fi.trans ((Frm.same s2).trans f3), by omega, ?_⟩
              rw [hj]
              rfl
        · rintro σ3 H3 ⟨s', x3, fp3, hlt, hle, hrun3, hx3, hu3, ok3, f3, hsz3, rfl⟩
          obtain ⟨L3, kp3, ps3, hc3, efp3⟩ := hx3.ex
          have hun : H3 L3.un = some (.lst (vb U)) := by rw [← hu3]; exact hc3.un
          refine ⟨_, rfl, a, C, L3.dx, _, _, rfl, hc3.ins, T.cl, T.nTable, rfl, _, rfl, a, C, L3.dx, _, _, rfl, hc3.ins, T.cl, T.nUn, rfl, _, rfl, t, L3.un, U, s', rfl, SqL.of hc3.tab.at_, SqL.of hun, hle, by omega, fun H4 s4 => ?_⟩
          exact ⟨_, by omega, s', n, x3, fp3, rfl, hle, by omega, hrun3, hx3.same s4, hu3, ok3, f3.trans (Frm.same s4), hsz3, rfl⟩
    · have hb' : V.int (LpM.jv (Lace.judge (U.drop s))) = V.int 0 := by simpa using hb
      injection hb' with hb'
      have hj := jv_zero hb'
      cases n with
      | zero => omega
      | succ n =>
        rw [LpM.run_short hj] at hrun
        rw [hrun] at eU
        have eU : LpM.judgeU x = { xi with un := U.drop s } := eU
        refine ⟨_, rfl, _, _, rfl, rfl, _, rfl, iteB (fun hg => ?_) fun hg => ?_⟩
        · have hun : H' Li.un = some (.lst (vb U)) := by rw [← hui]; exact hci.un
          refine ⟨_, rfl, a, C, Li.dx, _, _, rfl, hci.ins, T.cl, T.nUn, rfl, _, rfl, _, rfl, Li.un, _, rfl, SqL.of hun, fun p2 G2 n2 s2 e2 => ?_⟩
          rw [cutb_n0 U s rfl] at e2
          refine ⟨_, rfl, a, C, Li.dx, _, rfl, s2 _ _ hci.ins, T.cl, T.nUn, by show 14 < 1000; decide, ?_⟩
          have g := hci.newUn n2 s2 e2
          rw [← efpi] at g
          refine k _ _ ?_ (fi.trans g.2)
          rw [eU]
          exact g.1.at_
        · have hs0 : s = 0 := by have := of_decide_eq_false hg; omega
          subst hs0
          refine k _ _ ?_ fi
          rw [eU, List.drop_zero, ← hui]
          exact hxi
end
end Lp
end
section
set_option Elab.async false
set_option linter.all false
set_option maxRecDepth 100000
set_option maxHeartbeats 2000000
namespace Lp
open PySem PySem.Spec PyProof.Rows L2
section
variable {P : Program} {w : World} {K : PySem.W.Frag} {mg : Str → Option Value} {base : Heap} {C PC : Addr}
theorem feedC_stop {r : LpM.RS} {l : Bytes} (h : ¬ r.waits = [] ∨ r.closed = true) : LpM.feedC r l = (0, r) := by
  cases l with
  | nil => rfl
  | cons c l =>
    unfold LpM.feedC
    rw [if_pos h]
theorem feedC_go {r : LpM.RS} {c : UInt8} {l : Bytes} (h1 : r.waits = []) (h2 : r.closed = false) : LpM.feedC r (c :: l) = ((LpM.feedC (LpM.feedB r c) l).1 + 1, (LpM.feedC (LpM.feedB r c) l).2) := by
  conv => lhs; unfold LpM.feedC
  rw [if_neg]
  rintro (z | z)
  · exact z h1
  · rw [h2] at z; cases z
abbrev sFeed : Stmt := inClass (top 39) 1
def spFeed (C PC : Addr) : Sp := fun vs H Q _ => ∃ (a t d : Addr) (x : LpM.RS) (fp : List Addr) (b : Bytes), vs = [.ref a, .ref d] ∧ RdAt C PC H t a x fp ∧ Out H d (.lst (vb b)) fp ∧ LpM.RunOk x ∧ LpM.sz x + x.un.length + b.length ≤ 40000 ∧
  ∀ (H' : Hp) (fp' : List Addr), RdAt C PC H' t a (LpM.feedC x b).2 fp' → Frm fp fp' H H' → Q (.int (((LpM.feedC x b).1 : Nat) : Int)) H'
theorem scFeed : FnScope ["self", "data", "took"] ["self", "data"] (defScope sFeed) := ⟨rfl, rfl, rfl, by decide +kernel, rfl, by decide +kernel, by decide +kernel⟩
theorem ok_feed {f : Addr} {fd : FuncData} (F : Fun K "feed_bytes" "Reader.feed_bytes" sFeed f fd) (T : RTx K mg C) (B : RCs mg) (mJ : HasM P w K mg base 6 C "judge_unjudged" ["self"] (spJu C PC)) : FnOk P w K mg base CX0 7 f fd ["self", "data"] (spFeed C PC) := by
  refine F.ok scFeed (fun vs H Q E h => ?_) (fun cdv A outer s H vs Q E hr h => ?_)
  · obtain ⟨a, t, d, x, fp, b, rfl, _⟩ := h
    rfl
  · obtain ⟨a, t, d, x, fp, b, rfl, hx, hd, ok, hsz, k⟩ := h
    refine ⟨_, pss_cons (ps_set (i := 2) scFeed.nd rfl (Or.inl rfl) pe_int)
      (pss_cons (ps_while PassesOwn.never (PW.pt (pw_and (pt_cmpR op_lt (pv 2) (pe_callB call_len_seq rfl B.len PySem.boot_len (pa_cons (pv 1) pa_nil)) (nomark _)) (pw_and (pt_not (pt_truth (pe_fld (pv 0) rfl) (fun _ => rfl))) (pw_and1 (pt_not (pt_truth (pe_fld (pv 0) rfl) (fun _ => rfl)))))))
        (pss_cons (ps_expr (pe_bm PySem.F.plainAttrs_list PySem.F.slot_list_append PySem.F.type_list_append mt_append (pe_fld (pv 0) rfl) (pa_cons (pe_ix ix_list (pv 1) (pv 2) (fun _ _ => rfl)) pa_nil)))
        (pss_cons (ps_aug (i := 2) scFeed.nd rfl (Or.inl rfl) pe_int ip_add)
        (pss_one (ps_expr (pe_hasM0 mJ (pv 0) T.cl hr))))))
      (pss_one (ps_ret (pv 2)))), ?_⟩
    refine nx_of (show tSeq _ _ _ _ _ from ?_)
    refine ⟨fun m σ H' => ∃ (i : Nat) (xi : LpM.RS) (fpi : List Addr), m = b.length - i ∧ i ≤ b.length ∧ LpM.feedC x b = ((LpM.feedC xi (b.drop i)).1 + i, (LpM.feedC xi (b.drop i)).2) ∧ RdAt C PC H' t a xi fpi ∧ LpM.RunOk xi ∧ Frm fp fpi H H' ∧ LpM.sz xi + xi.un.length + (b.length - i) ≤ 40000 ∧
      σ = [some (.ref a), some (.ref d), some (.int (i : Int))], ⟨_, 0, x, fp, rfl, Nat.zero_le _, rfl, hx, ok, .refl _ _, by omega, rfl⟩, ?_⟩
    rintro m σ H' ⟨i, xi, fpi, rfl, hi, hfe, hxi, oki, fi, hszi, rfl⟩
    obtain ⟨L, kp, ps, hc, efp⟩ := hxi.ex
    have hdi := fi.out hd
    have ewt : ps.isEmpty = xi.waits.isEmpty := (Paired.empty hc.pks).symm
    refine and_of (decide ((i : Int) < (((vb b).length : Nat) : Int))) (!(!ps.isEmpty) && !xi.closed) (fun R hR => ⟨_, rfl, _, rfl, d, _, rfl, .inl (SqL.of hdi.at_), _, _, rfl, rfl, _, rfl, hR⟩)
      (fun _ R hR => and_of (!(!ps.isEmpty)) (!xi.closed) (fun R' hR' => ⟨_, rfl, a, C, L.dx, _, _, rfl, hc.ins, T.cl, T.nPw, rfl, _, .inl ⟨_, SqL.of hc.pw, rfl⟩, hR'⟩) (fun _ R' hR' => ⟨_, rfl, a, C, L.dx, _, _, rfl, hc.ins, T.cl, T.nClosed, rfl, _, rfl, hR'⟩) hR) ?_
    rw [ewt, Bool.not_not, vb_length]
    refine iteB (fun hb => ?_) fun hb => ?_
    · rw [Bool.and_eq_true, Bool.and_eq_true, decide_eq_true_eq] at hb
      obtain ⟨h1, h2, h3⟩ := hb
      have h1 : i < b.length := by omega
      have h2 : xi.waits = [] := List.isEmpty_iff.mp h2
      have h3 : xi.closed = false := by simpa using h3
      obtain ⟨c, hcb⟩ : ∃ c, b[i]? = some c := ⟨_, List.getElem?_eq_getElem h1⟩
      refine ⟨fun σ' H' => ∃ m', m' < b.length - i ∧ ∃ (i : Nat) (xi : LpM.RS) (fpi : List Addr), m' = b.length - i ∧ i ≤ b.length ∧ LpM.feedC x b = ((LpM.feedC xi (b.drop i)).1 + i, (LpM.feedC xi (b.drop i)).2) ∧ RdAt C PC H' t a xi fpi ∧ LpM.RunOk xi ∧ Frm fp fpi H H' ∧ LpM.sz xi + xi.un.length + (b.length - i) ≤ 40000 ∧
        σ' = [some (.ref a), some (.ref d), some (.int (i : Int))], fun σ' H' h => h, ?_⟩
      refine ⟨_, rfl, a, C, L.dx, _, _, rfl, hc.ins, T.cl, T.nUn, rfl, .inl ⟨rfl, _, SqL.of hc.un⟩, _, rfl, _, rfl, d, _, _, _, rfl, rfl, SqL.of hdi.at_, at_of (j := i) rfl (vb_at hcb), L.un, _, _, rfl, rfl, hc.un, by rw [vb_length, line_eq]; omega, ?_⟩
      refine ⟨_, rfl, _, _, rfl, rfl, ?_⟩
      have nua := ne_au hc
      have g := hc.next (H' := upd H' L.un (.lst (vb xi.un ++ [.int (c.toNat : Int)]))) (L' := L) (x' := { xi with un := xi.un ++ [c] }) (fun q o e n => by rw [upd_ne (fun z => n (by rw [z]; exact mem_core_un))]; exact e) (by rw [upd_ne nua.symm]; exact hc.ins) (by rw [upd_same]; show _ = some (HO.lst (vb (xi.un ++ [c]))); rw [vb_append]; rfl)
        (by rw [upd_ne hc.ne.symm]; exact hc.pw) (hc.bg.upd_ fun q z => (hc.neb q z).1) hc.ne hc.neb rfl fun q m => .inl m
      rw [← efp] at g
      have gx := g.1.atE efp
      have hl1 : (xi.un ++ [c]).length = xi.un.length + 1 := by rw [List.length_append]; rfl
      obtain ⟨a1, a2, a3⟩ := LpM.feedB_props xi c oki
      refine ⟨_, rfl, a, L.dx, _, rfl, g.1.ins, rfl, a, t, _, fpi, rfl, gx, ⟨oki.num, oki.pks⟩, by show LpM.sz xi + (xi.un ++ [c]).length ≤ 50000; omega, fun H4 fp4 hx4 f4 => ?_⟩
      refine ⟨b.length - (i + 1), by omega, i + 1, LpM.feedB xi c, fp4, rfl, h1, ?_, hx4, a1, (fi.trans g.2).trans f4, by omega, rfl⟩
      rw [hfe, LpM.drop_at hcb, feedC_go h2 h3]
      show (_ + 1 + i, _) = _
      rw [Nat.add_assoc, Nat.add_comm 1 i]
    · refine ⟨_, rfl, ?_⟩
      have e0 : LpM.feedC xi (b.drop i) = (0, xi) := by
        by_cases h1 : i < b.length
        · refine feedC_stop ?_
          by_cases h2 : xi.waits = []
          · refine .inr ?_
            rw [h2] at hb
            cases hcl : xi.closed with
            | true => rfl
            | false =>
              rw [hcl] at hb
              have : decide ((i : Int) < ((b.length : Nat) : Int)) = true := decide_eq_true (by omega)
              rw [this] at hb
              exact absurd hb (by decide)
          · exact .inl h2
        · rw [List.drop_of_length_le (by omega)]
          rfl
      rw [e0] at hfe
      have q := k H' fpi (by rw [hfe]; exact hxi) fi
      rw [hfe] at q
      have e1 : (((0 + i : Nat)) : Int) = (i : Int) := by omega
      have q : Q (.int ((0 + i : Nat) : Int)) H' := q
      rw [e1] at q
      exact q
abbrev sCls : Stmt := inClass (top 39) 2
def spCls (C PC : Addr) : Sp := fun vs H Q _ => ∃ (a t : Addr) (x : LpM.RS) (fp : List Addr), vs = [.ref a] ∧ RdAt C PC H t a x fp ∧ LpM.RunOk x ∧ LpM.sz x + x.un.length ≤ 40000 ∧
  ∀ (H' : Hp) (fp' : List Addr), RdAt C PC H' t a (LpM.closeC x) fp' → Frm fp fp' H H' → Q .non H'
theorem scCls : FnScope ["self"] ["self"] (defScope sCls) := ⟨rfl, rfl, rfl, by decide +kernel, rfl, by decide +kernel, by decide +kernel⟩
theorem ok_cls {f : Addr} {fd : FuncData} (F : Fun K "close_feeding" "Reader.close_feeding" sCls f fd) (T : RTx K mg C) (mJ : HasM P w K mg base 6 C "judge_unjudged" ["self"] (spJu C PC)) (mD : HasM P w K mg base 1 C "drop_begun" ["self"] (spDrp C PC)) : FnOk P w K mg base CX0 7 f fd ["self"] (spCls C PC) := by
  refine F.ok scCls (fun vs H Q E h => ?_) (fun cdv A outer s H vs Q E hr h => ?_)
  · obtain ⟨a, t, x, fp, rfl, _⟩ := h
    rfl
  · obtain ⟨a, t, x, fp, rfl, hx, ok, hsz, k⟩ := h
    have hr1 : Room 1 _ := hr.mono (by decide)
    refine ⟨_, pss_cons (ps_fld (pv 0) pe_bl rfl)
      (pss_cons (ps_while PassesOwn.never (pt_truth (pe_fld (pv 0) rfl) (fun _ => rfl))
        (pss_cons (ps_fldaug (pv 0) pe_int in_add)
        (pss_cons (ps_fld (pv 0) (pe_slice sl_Q (pe_fld (pv 0) rfl) (po_some pe_int) po_none) rfl)
        (pss_one (ps_expr (pe_hasM0 mJ (pv 0) T.cl hr))))))
      (pss_one (ps_expr (pe_hasM0 mD (pv 0) T.cl hr1)))), ?_⟩
    obtain ⟨L, kp, ps, hc, efp⟩ := hx.ex
    refine ⟨_, rfl, a, C, L.dx, _, rfl, hc.ins, T.cl, T.nClosed, by show 14 < 1000; decide, ?_⟩
    have g := hc.fld { x with closed := true } rfl rfl rfl
    rw [← efp] at g
    have g1 := g.1.atE efp
    refine nx_of (show tSeq _ _ _ _ _ from ?_)
    refine ⟨fun m σ H' => ∃ (n : Nat) (xi : LpM.RS) (fpi : List Addr), m = xi.un.length ∧ xi.un.length < n ∧ LpM.tailC (x.un.length + 1) { x with closed := true } = LpM.tailC n xi ∧ RdAt C PC H' t a xi fpi ∧ LpM.RunOk xi ∧ Frm fp fpi H H' ∧ LpM.sz xi + xi.un.length ≤ 40000 ∧
      σ = [some (.ref a)], ⟨_, x.un.length + 1, { x with closed := true }, fp, rfl, Nat.lt_succ_self _, rfl, g1, ⟨ok.num, ok.pks⟩, g.2, hsz, rfl⟩, ?_⟩
    rintro m σ H' ⟨n, xi, fpi, rfl, hn, hte, hxi, oki, fi, hszi, rfl⟩
    obtain ⟨Li, kpi, psi, hci, efpi⟩ := hxi.ex
    refine ⟨_, rfl, a, C, Li.dx, _, _, rfl, hci.ins, T.cl, T.nUn, rfl, _, .inl ⟨_, SqL.of hci.un, rfl⟩, iteB (fun hb => ?_) fun hb => ?_⟩
    · have hne : xi.un ≠ [] := fun z => by
        rw [z] at hb
        exact absurd hb (by decide)
      refine ⟨fun σ' H' => ∃ m', m' < xi.un.length ∧ ∃ (n : Nat) (xi : LpM.RS) (fpi : List Addr), m' = xi.un.length ∧ xi.un.length < n ∧ LpM.tailC (x.un.length + 1) { x with closed := true } = LpM.tailC n xi ∧ RdAt C PC H' t a xi fpi ∧ LpM.RunOk xi ∧ Frm fp fpi H H' ∧ LpM.sz xi + xi.un.length ≤ 40000 ∧
        σ' = [some (.ref a)], fun σ' H' h => h, ?_⟩
      refine ⟨_, rfl, a, C, Li.dx, _, _, rfl, hci.ins, T.cl, T.nPassed, rfl, _, _, rfl, rfl, Li.dx, _, hci.ins, by show 14 < 1000; decide, ?_⟩
      have g := hci.fld { xi with passed := xi.passed + 1 } rfl rfl rfl
      rw [← efpi] at g
      have gc := g.1
      have gf := g.2
      refine ⟨_, rfl, a, C, Li.dx, _, _, rfl, gc.ins, T.cl, T.nUn, rfl, _, rfl, Li.un, _, rfl, SqL.of gc.un, fun p2 G2 n2 s2 e2 => ?_⟩
      have e2 : G2 p2 = some (.lst (cutV (vb xi.un) (some 1) none)) := e2
      rw [show cutV (vb xi.un) (some 1) none = vb (xi.un.drop 1) from cutb_n0 xi.un (z := 1) 1 rfl] at e2
      refine ⟨_, rfl, a, C, Li.dx, _, rfl, s2 _ _ gc.ins, T.cl, T.nUn, by show 14 < 1000; decide, ?_⟩
      have g2 := gc.newUn n2 s2 e2
      rw [← efpi] at g2
      have gx := g2.1.at_
      have gxi := g2.1.ins
      obtain ⟨b1, b2, b3, b4⟩ := LpM.tailB_props xi hne oki
      have hdl : (xi.un.drop 1).length = xi.un.length - 1 := List.length_drop
      refine ⟨_, rfl, a, Li.dx, _, rfl, gxi, rfl, a, t, _, _, rfl, gx, ⟨oki.num, oki.pks⟩, by show LpM.sz xi + (xi.un.drop 1).length ≤ 50000; omega, fun H4 fp4 hx4 f4 => ?_⟩
      cases n with
      | zero => omega
      | succ n =>
        refine ⟨_, b3, n, LpM.tailB xi, fp4, rfl, by omega, ?_, hx4, b1, ((fi.trans gf).trans g2.2).trans f4, by omega, rfl⟩
        rw [hte]
        conv => lhs; unfold LpM.tailC
        rw [if_neg hne]
    · have he : xi.un = [] := by
        have : (vb xi.un).isEmpty = true := by simpa using hb
        have := List.isEmpty_iff.mp this
        exact List.map_eq_nil_iff.mp this
      have e0 : LpM.tailC n xi = xi := by
        cases n with
        | zero => rfl
        | succ n =>
          unfold LpM.tailC
          rw [if_pos he]
      rw [e0] at hte
      refine ⟨_, rfl, a, Li.dx, _, rfl, hci.ins, rfl, a, t, xi, fpi, rfl, hxi, fun H4 fp4 hx4 f4 => ?_⟩
      refine k H4 fp4 ?_ (fi.trans f4)
      unfold LpM.closeC
      rw [hte]
      exact hx4
abbrev sRtw : Stmt := inClass (top 39) 3
def spRtw (C PC : Addr) : Sp := fun vs H Q _ => ∃ (a t : Addr) (x : LpM.RS) (fp : List Addr) (p : Lace.Packet) (l : List Lace.Packet), vs = [.ref a] ∧ RdAt C PC H t a x fp ∧ x.waits = p :: l ∧
  ∀ (H' : Hp) (r dx q : Addr), RdAt C PC H' t a { x with waits := l } fp → Frm fp fp H H' → H' r = some (.ins PC dx (pkF p q)) → H' q = some (.lst (vb p.bytes)) → Q (.ref r) H'
theorem scRtw : FnScope ["self"] ["self"] (defScope sRtw) := ⟨rfl, rfl, rfl, by decide +kernel, rfl, by decide +kernel, by decide +kernel⟩
theorem ok_rtw {f : Addr} {fd : FuncData} (F : Fun K "take_waiting" "Reader.take_waiting" sRtw f fd) (T : RTx K mg C) : FnOk P w K mg base CX0 1 f fd ["self"] (spRtw C PC) := by
  refine F.ok scRtw (fun vs H Q E h => ?_) (fun cdv A outer s H vs Q E hr h => ?_)
  · obtain ⟨a, t, x, fp, p, l, rfl, _⟩ := h
    rfl
  · obtain ⟨a, t, x, fp, p, l, rfl, hx, hw, k⟩ := h
    obtain ⟨L, kp, ps, hc, rfl⟩ := hx.ex
    refine ⟨_, pss_one (ps_ret (pe_bm PySem.F.plainAttrs_list PySem.F.slot_list_pop PySem.F.type_list_pop mt_popAt (pe_fld (pv 0) rfl) (pa_cons pe_int pa_nil))), ?_⟩
    have hpk := hc.pks
    rw [hw] at hpk
    have hpw := hc.pw
    cases hpk with
    | @cons v p' ps' l' hv hpk' =>
      obtain ⟨r, dx, q, rfl, m1, m2, h1, h2⟩ := hv
      refine ⟨_, rfl, a, C, L.dx, _, _, rfl, hc.ins, T.cl, T.nPw, rfl, .inl ⟨rfl, _, SqL.of hpw⟩, L.pw, _, 0, 0, .ref r, rfl, rfl, hpw, by decide, by decide, seq0 _, rfl, ?_⟩
      have keep : ∀ z o, H z = some o → z ≠ L.pw → (upd H L.pw (.lst (((V.ref r) :: ps').eraseIdx 0))) z = some o := fun z o e n => by rw [upd_ne n]; exact e
      have hpw' : (upd H L.pw (.lst (((V.ref r) :: ps').eraseIdx 0))) L.pw = some (.lst ps') := upd_same
      have fr : Frm (core a L ++ kp) (core a L ++ kp) H (upd H L.pw (.lst (((V.ref r) :: ps').eraseIdx 0))) := Frm.up (List.mem_append_left _ mem_core_pw)
      generalize upd H L.pw (.lst (((V.ref r) :: ps').eraseIdx 0)) = H1 at keep hpw' fr ⊢
      have nk : ∀ z ∈ kp, z ≠ L.pw := fun z hz e => (hc.kps z hz).2 (by rw [e]; exact mem_core_pw)
      have nt : t ≠ L.pw := fun e => hc.tab.no (List.mem_append_left _ (by rw [e]; exact mem_core_pw))
      refine k H1 r dx q ⟨L, kp, ps', ⟨keep _ _ hc.ins (ne_ap hc).symm, keep _ _ hc.un hc.ne, hpw', ?_, ?_, hc.ne, hc.neb, ⟨keep _ _ hc.tab.at_ nt, hc.tab.no⟩, fun z hz => ?_⟩, rfl⟩ fr (keep _ _ h1 (nk _ m1)) (keep _ _ h2 (nk _ m2))
      · exact Paired.mapP hpk' fun v p z => z.keep fun q hq o e => keep q o e (nk q hq)
      · have hb := hc.bg
        cases e : L.bg with
        | none => rw [e] at hb; show BgAt H1 none x.begun; rw [hb.none_of]; exact True.intro
        | some g =>
          rw [e] at hb
          obtain ⟨b, e1, e2⟩ := hb.some_of
          show BgAt H1 (some g) x.begun
          rw [e1]
          exact keep _ _ e2 (hc.neb g e).2
      · obtain ⟨⟨o, e⟩, n⟩ := hc.kps z hz
        exact ⟨⟨o, keep _ _ e (nk z hz)⟩, n⟩
abbrev sLc : Stmt := inClass (top 39) 4
def spLc (C PC : Addr) : Sp := fun vs H Q _ => ∃ (a t : Addr) (x : LpM.RS) (fp : List Addr), vs = [.ref a] ∧ RdAt C PC H t a x fp ∧
  ∀ (H' : Hp) (q : Addr), Same H H' → H q = none → H' q = some (.lst (vn [x.taken, x.others, x.strange, x.passed, x.dropped])) → Q (.ref q) H'
theorem scLc : FnScope ["self", "pages"] ["self"] (defScope sLc) := ⟨rfl, rfl, rfl, by decide +kernel, rfl, by decide +kernel, by decide +kernel⟩
theorem ok_lc {f : Addr} {fd : FuncData} (F : Fun K "list_counts" "Reader.list_counts" sLc f fd) (T : RTx K mg C) : FnOk P w K mg base CX0 1 f fd ["self"] (spLc C PC) := by
  refine F.ok scLc (fun vs H Q E h => ?_) (fun cdv A outer s H vs Q E hr h => ?_)
  · obtain ⟨a, t, x, fp, rfl, _⟩ := h
    rfl
  · obtain ⟨a, t, x, fp, rfl, hx, k⟩ := h
    obtain ⟨L, kp, ps, hc, rfl⟩ := hx.ex
    refine ⟨_, pss_cons (ps_set (i := 1) scLc.nd rfl (Or.inl rfl) (pe_lstQ (pa_cons (pe_fld (pv 0) rfl) (pa_cons (pe_fld (pv 0) rfl) (pa_cons (pe_fld (pv 0) rfl) pa_nil)))))
      (pss_one (ps_ret (pe_op op_catQ (pv 1) (pe_lstQ (pa_cons (pe_fld (pv 0) rfl) (pa_cons (pe_fld (pv 0) rfl) pa_nil)))))), ?_⟩
    refine ⟨_, rfl, a, C, L.dx, _, _, rfl, hc.ins, T.cl, T.nTaken, rfl, _, rfl, a, C, L.dx, _, _, rfl, hc.ins, T.cl, T.nOthers, rfl, _, rfl, a, C, L.dx, _, _, rfl, hc.ins, T.cl, T.nLate, rfl, by show 3 ≤ 1000000; decide, fun p1 H1 n1 s1 e1 => ?_⟩
    have hi := s1 _ _ hc.ins
    refine ⟨_, rfl, _, rfl, a, C, L.dx, _, _, rfl, hi, T.cl, T.nPassed, rfl, _, rfl, a, C, L.dx, _, _, rfl, hi, T.cl, T.nDropped, rfl, by show 2 ≤ 1000000; decide, fun p2 H2 n2 s2 e2 => ?_⟩
    refine ⟨p1, p2, _, _, rfl, rfl, s2 _ _ e1, e2, by show 3 + 2 ≤ 1000000; decide, fun p3 H3 n3 s3 e3 => ?_⟩
    exact k H3 p3 ((s1.trans s2).trans s3) ((s1.trans s2).free n3) e3
end
end Lp
end
section
set_option Elab.async false
set_option linter.all false
set_option maxRecDepth 100000
set_option maxHeartbeats 2000000
namespace Lp
open PySem PySem.Spec PyProof.Rows L2
section
variable {P : Program} {w : World} {K : PySem.W.Frag} {mg : Str → Option Value} {base : Heap} {C PC : Addr}
abbrev sRi : Stmt := inClass (top 39) 0
def spRi (C PC : Addr) : Sp := fun vs H Q _ => ∃ (p dx t : Addr) (n : Nat), vs = [.ref p, .int (n : Int), .ref t] ∧ H p = some (.ins C dx []) ∧ H t = some tabO ∧
  ∀ (H' : Hp) (fp : List Addr), RdAt C PC H' t p (LpM.rsInit n) fp → (∀ b o, H b = some o → b ≠ p → H' b = some o) → (∀ b ∈ fp, b = p ∨ H b = none) → Q .non H'
theorem scRi : FnScope ["self", "stream", "table"] ["self", "stream", "table"] (defScope sRi) := ⟨rfl, rfl, rfl, by decide +kernel, rfl, by decide +kernel, by decide +kernel⟩
theorem ok_ri {f : Addr} {fd : FuncData} (F : Fun K "__init__" "Reader.__init__" sRi f fd) (T : RTx K mg C) : FnOk P w K mg base CX0 1 f fd ["self", "stream", "table"] (spRi C PC) := by
  refine F.ok scRi (fun vs H Q E h => ?_) (fun cdv A outer s H vs Q E hr h => ?_)
  · obtain ⟨p, dx, t, n, rfl, _⟩ := h
    rfl
  · obtain ⟨p, dx, t, n, rfl, hp, ht, k⟩ := h
    refine ⟨_, pss_cons (ps_fld (pv 0) (pv 1) rfl) (pss_cons (ps_fld (pv 0) (pv 2) rfl) (pss_cons (ps_fld (pv 0) (pe_lstQ pa_nil) rfl) (pss_cons (ps_fld (pv 0) pe_bl rfl) (pss_cons (ps_fld (pv 0) pe_non rfl) (pss_cons (ps_fld (pv 0) pe_bl rfl) (pss_cons (ps_fld (pv 0) pe_non rfl) (pss_cons (ps_fld (pv 0) pe_int rfl)
      (pss_cons (ps_fld (pv 0) (pe_lstQ pa_nil) rfl) (pss_cons (ps_fld (pv 0) pe_int rfl) (pss_cons (ps_fld (pv 0) pe_int rfl) (pss_cons (ps_fld (pv 0) pe_int rfl) (pss_cons (ps_fld (pv 0) pe_int rfl) (pss_one (ps_fld (pv 0) pe_int rfl)))))))))))))), ?_⟩
    refine ⟨_, rfl, _, rfl, p, C, dx, _, rfl, hp, T.cl, T.nStream, by decide, ?_⟩
    refine ⟨_, rfl, _, rfl, p, C, dx, _, rfl, upd_same, T.cl, T.nTable, by show 1 < 1000; decide, ?_⟩
    refine ⟨by show 0 ≤ 1000000; decide, fun un H3 n3 s3 e3 => ?_⟩
    have m3 : un ≠ p ∧ H un = none := by
      obtain ⟨a1, a2⟩ := upd_none n3
      exact ⟨a1, (upd_none a2).2⟩
    have f3 : ∀ b o, H b = some o → b ≠ p → H3 b = some o := fun b o hb nb => s3 _ _ (by rw [upd_ne nb, upd_ne nb]; exact hb)
    refine ⟨_, rfl, p, C, dx, _, rfl, s3 _ _ upd_same, T.cl, T.nUn, by show 2 < 1000; decide, ?_⟩
    refine ⟨_, rfl, p, C, dx, _, rfl, upd_same, T.cl, T.nClosed, by show 3 < 1000; decide, ?_⟩
    refine ⟨_, rfl, p, C, dx, _, rfl, upd_same, T.cl, T.nNum, by show 4 < 1000; decide, ?_⟩
    refine ⟨_, rfl, p, C, dx, _, rfl, upd_same, T.cl, T.nOver, by show 5 < 1000; decide, ?_⟩
    refine ⟨_, rfl, p, C, dx, _, rfl, upd_same, T.cl, T.nBegun, by show 6 < 1000; decide, ?_⟩
    refine ⟨_, rfl, p, C, dx, _, rfl, upd_same, T.cl, T.nHole, by show 7 < 1000; decide, ?_⟩
    refine ⟨by show 0 ≤ 1000000; decide, fun pw H9 n9 s9 e9 => ?_⟩
    have m9 : pw ≠ p ∧ H3 pw = none := by
      simp only [upd_upd] at n9
      exact upd_none n9
    have f9 : ∀ b o, H3 b = some o → b ≠ p → H9 b = some o := fun b o hb nb => s9 _ _ (by simp only [upd_upd]; rw [upd_ne nb]; exact hb)
    refine ⟨_, rfl, p, C, dx, _, rfl, s9 _ _ upd_same, T.cl, T.nPw, by show 8 < 1000; decide, ?_⟩
    refine ⟨_, rfl, p, C, dx, _, rfl, upd_same, T.cl, T.nTaken, by show 9 < 1000; decide, ?_⟩
    refine ⟨_, rfl, p, C, dx, _, rfl, upd_same, T.cl, T.nOthers, by show 10 < 1000; decide, ?_⟩
    refine ⟨_, rfl, p, C, dx, _, rfl, upd_same, T.cl, T.nLate, by show 11 < 1000; decide, ?_⟩
    refine ⟨_, rfl, p, C, dx, _, rfl, upd_same, T.cl, T.nPassed, by show 12 < 1000; decide, ?_⟩
    refine ⟨_, rfl, p, C, dx, _, rfl, upd_same, T.cl, T.nDropped, by show 13 < 1000; decide, ?_⟩
    simp only [upd_upd]
    have ntp : t ≠ p := ne_of ht hp (by intro z; cases z)
    have kf : ∀ b o, H b = some o → b ≠ p → H9 b = some o := fun b o e n => f9 b o (f3 b o e n) n
    have hpwH : H pw = none := by
      cases e : H pw with
      | none => rfl
      | some o =>
        have := f3 _ _ e m9.1
        rw [m9.2] at this; cases this
    have nup : un ≠ pw := ne_of_none e3 m9.2
    refine k _ [p, un, pw] ⟨⟨dx, un, pw, none⟩, [], [], ⟨upd_same, ?_, ?_, .nil, True.intro, nup, (fun q z => by cases z), ⟨?_, ?_⟩, fun q m => absurd m List.not_mem_nil⟩, rfl⟩ (fun b o e n => by rw [upd_ne n]; exact kf b o e n) fun b hb => ?_
    · show upd H9 p _ un = _
      rw [upd_ne m3.1]; exact f9 _ _ e3 m3.1
    · show upd H9 p _ pw = _
      rw [upd_ne m9.1]; exact e9
    · rw [upd_ne ntp]; exact kf _ _ ht ntp
    · intro m
      have m : t ∈ [p, un, pw] := m
      simp only [List.mem_cons, List.not_mem_nil, or_false] at m
      rcases m with rfl | rfl | rfl
      · exact ntp rfl
      · rw [m3.2] at ht; cases ht
      · rw [hpwH] at ht; cases ht
    · simp only [List.mem_cons, List.not_mem_nil, or_false] at hb
      rcases hb with rfl | rfl | rfl
      · exact .inl rfl
      · exact .inr m3.2
      · exact .inr hpwH
end
end Lp
end
section
set_option Elab.async false
set_option linter.all false
set_option maxRecDepth 100000
set_option maxHeartbeats 2000000
namespace Lp
open PySem PySem.Spec PyProof.Rows L2
def hF (t wa ra : Addr) : List (Str × V) := [(("table" : Str), .ref t), (("writer" : Str), .ref wa), (("reader" : Str), .ref ra)]
structure HTx (K : PySem.W.Frag) (C : Addr) : Prop where
  cl : Cls K C
  nTable : NoAttr K C "table"
  nWriter : NoAttr K C "writer"
  nReader : NoAttr K C "reader"
structure HolC (HC WC RC PC : Addr) (H : Hp) (h dx t wa ra : Addr) (fpw fpr : List Addr) (x : Lace.Wr) (r : LpM.RS) : Prop where
  ins : H h = some (.ins HC dx (hF t wa ra))
  wr : WrAt WC H t wa x fpw
  rd : RdAt RC PC H t ra r fpr
  tw : t ∉ fpw
  dis : ∀ q ∈ fpw, q ∉ fpr
  hw : h ∉ fpw
  hr : h ∉ fpr
structure HolAt (HC WC RC PC : Addr) (H : Hp) (h : Addr) (x : Lace.Wr) (r : LpM.RS) (fp : List Addr) : Prop where
  ex : ∃ (dx t wa ra : Addr) (fpw fpr : List Addr), HolC HC WC RC PC H h dx t wa ra fpw fpr x r ∧ fp = h :: t :: (fpw ++ fpr)
section
variable {C PC : Addr} {H H' : Hp} {t a : Addr} {L : RL} {kp : List Addr} {ps : List V} {x : LpM.RS} {fp : List Addr}
theorem RdC.keep (h : RdC C PC H t a L kp ps x) (k : ∀ q ∈ core a L ++ kp, ∀ o, H q = some o → H' q = some o) (kt : H' t = some tabO) : RdC C PC H' t a L kp ps x := by
  have kc : ∀ q ∈ core a L, ∀ o, H q = some o → H' q = some o := fun q m => k q (List.mem_append_left _ m)
  have kk : ∀ q ∈ kp, ∀ o, H q = some o → H' q = some o := fun q m => k q (List.mem_append_right _ m)
  refine ⟨kc _ mem_core_a _ h.ins, kc _ mem_core_un _ h.un, kc _ mem_core_pw _ h.pw, Paired.mapP h.pks fun v p z => z.keep kk, ?_, h.ne, h.neb, ⟨kt, h.tab.no⟩, fun q m => ?_⟩
  · have hb := h.bg
    cases e : L.bg with
    | none => rw [e] at hb; rw [hb.none_of]; exact True.intro
    | some q =>
      rw [e] at hb
      obtain ⟨b, e1, e2⟩ := hb.some_of
      rw [e1]
      exact kc _ (mem_core_bg e) _ e2
  · obtain ⟨⟨o, e⟩, n⟩ := h.kps q m
    exact ⟨⟨o, kk q m _ e⟩, n⟩
theorem RdAt.keep (h : RdAt C PC H t a x fp) (k : ∀ q ∈ fp, ∀ o, H q = some o → H' q = some o) (kt : H' t = some tabO) : RdAt C PC H' t a x fp := by
  obtain ⟨L, kp, ps, hc, rfl⟩ := h.ex
  exact (hc.keep k kt).at_
end
section
variable {HC WC RC PC : Addr} {H H' : Hp} {h dx t wa ra : Addr} {fpw fpr fpw' fpr' : List Addr} {x x' : Lace.Wr} {r r' : LpM.RS} {fp : List Addr}
theorem HolC.at_ (c : HolC HC WC RC PC H h dx t wa ra fpw fpr x r) : HolAt HC WC RC PC H h x r (h :: t :: (fpw ++ fpr)) := ⟨dx, t, wa, ra, fpw, fpr, c, rfl⟩
theorem HolC.tab (c : HolC HC WC RC PC H h dx t wa ra fpw fpr x r) : H t = some tabO := c.rd.tab.at_
theorem HolC.outw (c : HolC HC WC RC PC H h dx t wa ra fpw fpr x r) : Out H t tabO fpw := ⟨c.tab, c.tw⟩
theorem HolC.th (c : HolC HC WC RC PC H h dx t wa ra fpw fpr x r) : t ≠ h := ne_of c.tab c.ins (by intro z; cases z)
theorem HolC.there (c : HolC HC WC RC PC H h dx t wa ra fpw fpr x r) : ∀ q ∈ h :: t :: (fpw ++ fpr), ∃ o, H q = some o := fun q m => by
  rcases List.mem_cons.mp m with rfl | m
  · exact ⟨_, c.ins⟩
  rcases List.mem_cons.mp m with rfl | m
  · exact ⟨_, c.tab⟩
  · rcases List.mem_append.mp m with m | m
    · exact c.wr.there q m
    · exact c.rd.there q m
theorem HolAt.fresh (c : HolAt HC WC RC PC H h x r fp) {q : Addr} (n : H q = none) : q ∉ fp := fun m => by
  obtain ⟨dx, t, wa, ra, fpw, fpr, c', rfl⟩ := c.ex
  obtain ⟨o, e⟩ := c'.there q m
  rw [n] at e; cases e
theorem HolC.wrote (c : HolC HC WC RC PC H h dx t wa ra fpw fpr x r) (f : Frm fpw fpw' H H') (w' : WrAt WC H' t wa x' fpw') : HolC HC WC RC PC H' h dx t wa ra fpw' fpr x' r ∧ Frm (h :: t :: (fpw ++ fpr)) (h :: t :: (fpw' ++ fpr)) H H' := by
  have nx : ∀ q ∈ fpr, q ∉ fpw := fun q m n => c.dis q n m
  have ht := f.out c.outw
  have hh : Out H' h _ fpw' := f.out ⟨c.ins, c.hw⟩
  refine ⟨⟨hh.at_, w', c.rd.keep (fun q m o e => f.keep q o e (nx q m)) ht.at_, ht.no, fun q m n => ?_, hh.no, c.hr⟩, ⟨fun q o e n => f.keep q o e fun m => n (by simp [m]), fun q m => ?_⟩⟩
  · rcases f.new q m with z | z
    · exact c.dis q z n
    · obtain ⟨o, e⟩ := c.rd.there q n
      rw [z] at e; cases e
  · rcases List.mem_cons.mp m with rfl | m
    · exact .inl (by simp)
    rcases List.mem_cons.mp m with rfl | m
    · exact .inl (by simp)
    · rcases List.mem_append.mp m with m | m
      · rcases f.new q m with z | z
        · exact .inl (by simp [z])
        · exact .inr z
      · exact .inl (by simp [m])
theorem HolC.read (c : HolC HC WC RC PC H h dx t wa ra fpw fpr x r) (f : Frm fpr fpr' H H') (r1 : RdAt RC PC H' t ra r' fpr') : HolC HC WC RC PC H' h dx t wa ra fpw fpr' x r' ∧ Frm (h :: t :: (fpw ++ fpr)) (h :: t :: (fpw ++ fpr')) H H' := by
  have hh : Out H' h _ fpr' := f.out ⟨c.ins, c.hr⟩
  refine ⟨⟨hh.at_, c.wr.keep fun q m o e => f.keep q o e (c.dis q m), r1, c.tw, fun q m n => ?_, c.hw, hh.no⟩, ⟨fun q o e n => f.keep q o e fun m => n (by simp [m]), fun q m => ?_⟩⟩
  · rcases f.new q n with z | z
    · exact c.dis q m z
    · obtain ⟨o, e⟩ := c.wr.there q m
      rw [z] at e; cases e
  · rcases List.mem_cons.mp m with rfl | m
    · exact .inl (by simp)
    rcases List.mem_cons.mp m with rfl | m
    · exact .inl (by simp)
    · rcases List.mem_append.mp m with m | m
      · exact .inl (by simp [m])
      · rcases f.new q m with z | z
        · exact .inl (by simp [z])
        · exact .inr z
theorem HolC.same (c : HolC HC WC RC PC H h dx t wa ra fpw fpr x r) (s : Same H H') : HolC HC WC RC PC H' h dx t wa ra fpw fpr x r :=
  ⟨s _ _ c.ins, c.wr.keep fun q _ o e => s q o e, c.rd.same s, c.tw, c.dis, c.hw, c.hr⟩
theorem HolAt.same (c : HolAt HC WC RC PC H h x r fp) (s : Same H H') : HolAt HC WC RC PC H' h x r fp := by
  obtain ⟨dx, t, wa, ra, fpw, fpr, c', e⟩ := c.ex
  exact ⟨dx, t, wa, ra, fpw, fpr, c'.same s, e⟩
theorem HolC.newW (c : HolC HC WC RC PC H h dx t wa ra fpw fpr x r) {wa' : Addr} (s : Same H H') (w' : WrAt WC H' t wa' x' fpw') (n : ∀ q ∈ fpw', H q = none) : HolC HC WC RC PC (upd H' h (.ins HC dx (hF t wa' ra))) h dx t wa' ra fpw' fpr x' r ∧ Frm (h :: t :: (fpw ++ fpr)) (h :: t :: (fpw' ++ fpr)) H (upd H' h (.ins HC dx (hF t wa' ra))) := by
  have nh : h ∉ fpw' := fun m => by have := c.ins; rw [n h m] at this; cases this
  have nt : t ∉ fpw' := fun m => by have := c.tab; rw [n t m] at this; cases this
  have k : ∀ q o, H' q = some o → q ≠ h → (upd H' h (.ins HC dx (hF t wa' ra))) q = some o := fun q o e nq => by rw [upd_ne nq]; exact e
  refine ⟨⟨upd_same, w'.keep fun q m o e => k q o e fun z => nh (by rw [← z]; exact m), (c.rd.same s).keep (fun q m o e => k q o e fun z => c.hr (by rw [← z]; exact m)) (k _ _ (s _ _ c.tab) c.th), nt, fun q m m2 => ?_, nh, c.hr⟩, ⟨fun q o e nq => k q o (s _ _ e) fun z => nq (by simp [z]), fun q m => ?_⟩⟩
  · obtain ⟨o, e⟩ := c.rd.there q m2
    rw [n q m] at e; cases e
  · rcases List.mem_cons.mp m with rfl | m
    · exact .inl (by simp)
    rcases List.mem_cons.mp m with rfl | m
    · exact .inl (by simp)
    · rcases List.mem_append.mp m with m | m
      · exact .inr (n q m)
      · exact .inl (by simp [m])
theorem HolC.newR (c : HolC HC WC RC PC H h dx t wa ra fpw fpr x r) {ra' : Addr} (s : Same H H') (r1 : RdAt RC PC H' t ra' r' fpr') (n : ∀ q ∈ fpr', H q = none) : HolC HC WC RC PC (upd H' h (.ins HC dx (hF t wa ra'))) h dx t wa ra' fpw fpr' x r' ∧ Frm (h :: t :: (fpw ++ fpr)) (h :: t :: (fpw ++ fpr')) H (upd H' h (.ins HC dx (hF t wa ra'))) := by
  have nh : h ∉ fpr' := fun m => by have := c.ins; rw [n h m] at this; cases this
  have k : ∀ q o, H' q = some o → q ≠ h → (upd H' h (.ins HC dx (hF t wa ra'))) q = some o := fun q o e nq => by rw [upd_ne nq]; exact e
  refine ⟨⟨upd_same, c.wr.keep fun q m o e => k q o (s _ _ e) fun z => c.hw (by rw [← z]; exact m), r1.keep (fun q m o e => k q o e fun z => nh (by rw [← z]; exact m)) (k _ _ (s _ _ c.tab) c.th), c.tw, fun q m m2 => ?_, c.hw, nh⟩, ⟨fun q o e nq => k q o (s _ _ e) fun z => nq (by simp [z]), fun q m => ?_⟩⟩
  · obtain ⟨o, e⟩ := c.wr.there q m
    rw [n q m2] at e; cases e
  · rcases List.mem_cons.mp m with rfl | m
    · exact .inl (by simp)
    rcases List.mem_cons.mp m with rfl | m
    · exact .inl (by simp)
    · rcases List.mem_append.mp m with m | m
      · exact .inl (by simp [m])
      · exact .inr (n q m)
end
theorem HolAt.up {HC WC RC PC : Addr} {H : Hp} {h : Addr} {x : Lace.Wr} {r : LpM.RS} {fp : List Addr} {g : Addr} {o : HO} (c : HolAt HC WC RC PC H h x r fp) (n : g ∉ fp) : HolAt HC WC RC PC (upd H g o) h x r fp := by
  obtain ⟨dx, t, wa, ra, fpw, fpr, c', rfl⟩ := c.ex
  have k : ∀ q ∈ h :: t :: (fpw ++ fpr), ∀ u, H q = some u → upd H g o q = some u := fun q m u e => by rw [upd_ne (fun z => n (by rw [← z]; exact m))]; exact e
  exact ⟨dx, t, wa, ra, fpw, fpr, ⟨k h (by simp) _ c'.ins, c'.wr.keep fun q m => k q (by simp [m]), c'.rd.keep (fun q m => k q (by simp [m])) (k t (by simp) _ c'.tab), c'.tw, c'.dis, c'.hw, c'.hr⟩, rfl⟩
theorem made_free {H : Hp} {p d b : Addr} {o u : HO} (n : H p = none) (h : b = p ∨ upd (upd H d o) p u b = none) : H b = none := by
  rcases h with rfl | h
  · exact n
  · exact (upd_none (upd_none h).2).2
section
variable {P : Program} {w : World} {K : PySem.W.Frag} {mg : Str → Option Value} {base : Heap} {HC WC RC PC : Addr}
abbrev sHi : Stmt := inClass (top 52) 0
def spHi (HC WC RC PC : Addr) : Sp := fun vs H Q _ => ∃ (p dx : Addr), vs = [.ref p] ∧ H p = some (.ins HC dx []) ∧
  ∀ (H' : Hp) (fp : List Addr), HolAt HC WC RC PC H' p (Lace.wrInit 0) (LpM.rsInit 0) fp → (∀ b o, H b = some o → b ≠ p → H' b = some o) → (∀ b ∈ fp, b = p ∨ H b = none) → Q .non H'
theorem scHi : FnScope ["self"] ["self"] (defScope sHi) := ⟨rfl, rfl, rfl, by decide +kernel, rfl, by decide +kernel, by decide +kernel⟩
theorem ok_hi {f : Addr} {fd : FuncData} (F : Fun K "__init__" "Holder.__init__" sHi f fd) (T : HTx K HC) (fM : Has P w K mg base 2 "make_table" [] spMk) (cW : HasC P w K mg base 2 WC "Writer" ["self", "stream", "table"] (spWi WC)) (cR : HasC P w K mg base 1 RC "Reader" ["self", "stream", "table"] (spRi RC PC)) :
    FnOk P w K mg base CX0 4 f fd ["self"] (spHi HC WC RC PC) := by
  refine F.ok scHi (fun vs H Q E h => ?_) (fun cdv A outer s H vs Q E hr h => ?_)
  · obtain ⟨p, dx, rfl, _⟩ := h
    rfl
  · obtain ⟨p, dx, rfl, hp, k⟩ := h
    have hr2 : Room 2 _ := hr.mono (by decide)
    refine ⟨_, pss_cons (ps_fld (pv 0) (pe_has0 fM hr2) rfl) (pss_cons (ps_fld (pv 0) (pe_hasC cW hr (pa_cons pe_int (pa_cons (pe_fld (pv 0) rfl) pa_nil))) rfl) (pss_one (ps_fld (pv 0) (pe_hasC cR hr2 (pa_cons pe_int (pa_cons (pe_fld (pv 0) rfl) pa_nil))) rfl))), ?_⟩
    refine ⟨rfl, fun H1 t s1 nt e1 => ?_⟩
    have hp1 := s1 _ _ hp
    have ntp : t ≠ p := ne_of e1 hp1 (by intro z; cases z)
    refine ⟨_, rfl, p, HC, dx, _, rfl, hp1, T.cl, T.nTable, by decide, ?_⟩
    have ht2 : (upd H1 p (.ins HC dx (putF "table" (.ref t) []))) t = some tabO := by rw [upd_ne ntp]; exact e1
    have hp2 : (upd H1 p (.ins HC dx (putF "table" (.ref t) []))) p = some (.ins HC dx (putF "table" (.ref t) [])) := upd_same
    have k2 : ∀ b o, H b = some o → b ≠ p → (upd H1 p (.ins HC dx (putF "table" (.ref t) []))) b = some o := fun b o e n => by rw [upd_ne n]; exact s1 _ _ e
    generalize upd H1 p (.ins HC dx (putF "table" (.ref t) [])) = H2 at ht2 hp2 k2 ⊢
    -- the writer
    refine ⟨_, rfl, p, HC, dx, _, _, rfl, hp2, T.cl, T.nTable, rfl, fun wa dwa n1 n2 n3 => ?_⟩
    refine ⟨wa, dwa, t, 0, rfl, upd_same, fun H3 fpw hw kw nw => ⟨rfl, ?_⟩⟩
    have s3 : Same H2 H3 := Same.made n1 n2 kw
    have nw2 : ∀ b ∈ fpw, H2 b = none := fun b m => made_free n1 (nw b m)
    refine ⟨_, rfl, p, HC, dx, _, rfl, s3 _ _ hp2, T.cl, T.nWriter, by show 1 < 1000; decide, ?_⟩
    have npw : p ∉ fpw := fun m => by rw [nw2 p m] at hp2; cases hp2
    have ntw : t ∉ fpw := fun m => by rw [nw2 t m] at ht2; cases ht2
    have hw4 : WrAt WC (upd H3 p (.ins HC dx (putF "writer" (.ref wa) (putF "table" (.ref t) [])))) t wa (Lace.wrInit 0) fpw := hw.keep fun b hb o ho => by rw [upd_ne (fun z => npw (by rw [← z]; exact hb))]; exact ho
    have ht4 : (upd H3 p (.ins HC dx (putF "writer" (.ref wa) (putF "table" (.ref t) [])))) t = some tabO := by rw [upd_ne ntp]; exact s3 _ _ ht2
    have hp4 : (upd H3 p (.ins HC dx (putF "writer" (.ref wa) (putF "table" (.ref t) [])))) p = some (.ins HC dx (putF "writer" (.ref wa) (putF "table" (.ref t) []))) := upd_same
    have k4 : ∀ b o, H2 b = some o → b ≠ p → (upd H3 p (.ins HC dx (putF "writer" (.ref wa) (putF "table" (.ref t) [])))) b = some o := fun b o e n => by rw [upd_ne n]; exact s3 _ _ e
    generalize upd H3 p (.ins HC dx (putF "writer" (.ref wa) (putF "table" (.ref t) []))) = H4 at hw4 ht4 hp4 k4 ⊢
    -- the reader
    refine ⟨_, rfl, p, HC, dx, _, _, rfl, hp4, T.cl, T.nTable, rfl, fun ra dra m1 m2 m3 => ?_⟩
    have htu : (upd (upd H4 dra (.own ra)) ra (.ins RC dra [])) t = some tabO := by rw [upd_ne (ne_of_none ht4 m1), upd_ne (ne_of_none ht4 m2)]; exact ht4
    refine ⟨ra, dra, t, 0, rfl, upd_same, htu, fun H5 fpr hr5 kr nr => ⟨rfl, ?_⟩⟩
    have s5 : Same H4 H5 := Same.made m1 m2 kr
    have nr4 : ∀ b ∈ fpr, H4 b = none := fun b m => made_free m1 (nr b m)
    refine ⟨_, rfl, p, HC, dx, _, rfl, s5 _ _ hp4, T.cl, T.nReader, by show 2 < 1000; decide, ?_⟩
    have npr : p ∉ fpr := fun m => by rw [nr4 p m] at hp4; cases hp4
    have ku : ∀ b o, H5 b = some o → b ≠ p → (upd H5 p (.ins HC dx (putF "reader" (.ref ra) (putF "writer" (.ref wa) (putF "table" (.ref t) []))))) b = some o := fun b o e n => by rw [upd_ne n]; exact e
    refine k _ (p :: t :: (fpw ++ fpr)) ⟨dx, t, wa, ra, fpw, fpr, ⟨upd_same, hw4.keep fun b hb o ho => ku _ _ (s5 _ _ ho) fun z => npw (by rw [← z]; exact hb), hr5.keep (fun b hb o ho => ku _ _ ho fun z => npr (by rw [← z]; exact hb)) (ku _ _ (s5 _ _ ht4) ntp), ntw, fun q m n => ?_, npw, npr⟩, rfl⟩ (fun b o e n => ku _ _ (s5 _ _ (k4 _ _ (k2 _ _ e n) n)) n) fun b hb => ?_
    · obtain ⟨o, e⟩ := hw4.there q m
      rw [nr4 q n] at e; cases e
    · have fr : ∀ b, b ≠ p → H2 b = none → H b = none := fun b nb e => by
        cases q : H b with
        | none => rfl
        | some o => rw [k2 _ _ q nb] at e; cases e
      rcases List.mem_cons.mp hb with hb | hb
      · exact .inl hb
      rcases List.mem_cons.mp hb with hb | hb
      · exact .inr (by rw [hb]; exact nt)
      · rcases List.mem_append.mp hb with m | m
        · exact .inr (fr b (fun z => npw (by rw [← z]; exact m)) (nw2 b m))
        · have nb : b ≠ p := fun z => npr (by rw [← z]; exact m)
          refine .inr (fr b nb ?_)
          cases q : H2 b with
          | none => rfl
          | some o =>
            have := nr4 b m
            rw [k4 _ _ q nb] at this; cases this
theorem chain_leV {tb : TE} {lo hi x : Int} {σ : L2.St} {H : Hp} {Q : VK} (hb : ∀ Q : VK, Q (.int x) H → tb σ H Q) (h : Q (.bl (LacePageSeed.within lo hi x)) H) : tChain (rI0 fun i j => .bl (decide (i ≤ j))) (rI0 fun i j => .bl (decide (i ≤ j))) (tC (.int lo)) tb (tC (.int hi)) σ H Q := by
  refine hb _ ⟨lo, x, rfl, rfl, _, rfl, ?_⟩
  unfold LacePageSeed.within at h
  by_cases g : lo ≤ x
  · rw [decide_eq_true g] at h ⊢
    exact iteT ⟨x, hi, rfl, rfl, h⟩
  · rw [decide_eq_false g] at h ⊢
    exact iteF h
theorem chain_le {tb : TE} {lo hi x : Int} {σ : L2.St} {H : Hp} {R : Bool → Hp → Prop} (hb : ∀ Q : VK, Q (.int x) H → tb σ H Q) (h : R (LacePageSeed.within lo hi x) H) : tTest (tChain (rI0 fun i j => .bl (decide (i ≤ j))) (rI0 fun i j => .bl (decide (i ≤ j))) (tC (.int lo)) tb (tC (.int hi))) σ H R :=
  chain_leV (Q := fun x H' => ∃ k, x = .bl k ∧ R k H') hb ⟨_, rfl, h⟩
theorem vi_length (l : List Int) : (vi l).length = l.length := List.length_map ..
theorem vi_get {b : List Int} {i : Nat} {x : V} (h : (vi b)[i]? = some x) : ∃ c : Int, b[i]? = some c ∧ x = .int c := by
  unfold vi at h
  rw [List.getElem?_map] at h
  cases e : b[i]? with
  | none => rw [e] at h; cases h
  | some c => rw [e] at h; exact ⟨c, rfl, (Option.some.inj h).symm⟩
theorem vi_at {b : List Int} {i : Nat} {c : Int} (h : b[i]? = some c) : (vi b)[i]? = some (.int c) := by
  unfold vi
  rw [List.getElem?_map, h]; rfl
theorem vi_append (a b : List Int) : vi (a ++ b) = vi a ++ vi b := List.map_append ..
theorem vi_nums (b : Bytes) : vi (LacePageSeed.nums b) = vb b := by
  unfold vi LacePageSeed.nums vb
  rw [List.map_map]
  rfl
theorem bytes_vi {b : List Int} (h : LacePageSeed.areBytes b = true) : vi b = vb (LacePageSeed.bytesOf b) := by
  unfold LacePageSeed.areBytes at h
  rw [Bool.and_eq_true] at h
  replace h := h.2
  induction b with
  | nil => rfl
  | cons x l ih =>
    rw [List.all_cons, Bool.and_eq_true] at h
    have hx := h.1
    unfold LacePageSeed.within at hx
    rw [Bool.and_eq_true, decide_eq_true_eq, decide_eq_true_eq] at hx
    show V.int x :: vi l = V.int ((UInt8.ofNat x.toNat).toNat : Int) :: vb (LacePageSeed.bytesOf l)
    rw [ih h.2, LpM.ofNat_toNat, show ((x.toNat % 256 : Nat) : Int) = x by omega]
theorem bytes_len {b : List Int} : (LacePageSeed.bytesOf b).length = b.length := List.length_map ..
theorem bytes_most {b : List Int} (h : LacePageSeed.areBytes b = true) : b.length ≤ 9000 := by
  unfold LacePageSeed.areBytes at h
  rw [Bool.and_eq_true, decide_eq_true_eq] at h
  exact h.1
abbrev sAb : Stmt := top 53
def spAb (K : PySem.W.Frag) : Sp := fun vs H Q _ => ∃ (d : Addr) (b : List Int), vs = [.ref d] ∧ SqL K H d (vi b) ∧ b.length ≤ 100000 ∧ ∀ H', Same H H' → Q (.bl (LacePageSeed.areBytes b)) H'
theorem scAb : FnScope ["row", "value"] ["row"] (defScope sAb) := ⟨rfl, rfl, rfl, by decide +kernel, rfl, by decide +kernel, by decide +kernel⟩
theorem all_map (l : List Int) (f : Int → Bool) : (l.map f).all id = l.all f := by
  rw [List.all_map]
  rfl
theorem ok_ab {f : Addr} {fd : FuncData} (F : Fun K "are_bytes" "are_bytes" sAb f fd) (hn : mg "len" = none) (ha : mg "all" = none) (cM : Cst mg "MOST_BYTES" 9000) : FnOk P w K mg base CX0 1 f fd ["row"] (spAb K) := by
  refine F.ok scAb (fun vs H Q E h => ?_) (fun cdv A outer s H vs Q E hr h => ?_)
  · obtain ⟨d, b, rfl, _⟩ := h
    rfl
  · obtain ⟨d, b, rfl, hd, hbl, k⟩ := h
    refine ⟨_, pss_one (ps_ret (pe_and (pe_cmpR op_le (pe_callB call_len_seq rfl hn PySem.boot_len (pa_cons (pv 0) pa_nil)) (pe_cst cM) (nomark _)) (pe_one (pe_callB (cr_all rfl) rfl ha PyProof.Rows.boot_all (pa_cons (pe_lc (own := [("value", 1)]) (g := gName 1) (tt := tYes) (te := tChain (rI0 fun i j => .bl (decide (i ≤ j))) (rI0 fun i j => .bl (decide (i ≤ j))) (tC (.int 0)) (tVar 1) (tC (.int 255))) rfl scAb.nd (pi_list (pv 0)) (blkOk_by (by show blkC ["row", "value"] (defScope sAb) _ _ = true; decide +kernel))
      ?hg ?ht ?he) pa_nil))))), ?body⟩
    case hg => exact fun _ _ _ _ _ => pg_name (i := 1) scAb.nd rfl (Or.inl rfl)
    case ht => exact fun _ _ _ _ _ => pts_nil
    case he => exact fun _ _ _ _ _ => pe_chain op_le op_le pe_int (pv 1) pe_int
    refine ⟨_, rfl, d, _, rfl, .inl hd, _, _, rfl, rfl, _, rfl, ?_⟩
    rw [vi_length]
    have eB : LacePageSeed.areBytes b = (decide ((b.length : Int) ≤ 9000) && b.all (LacePageSeed.within 0 255)) := by
      unfold LacePageSeed.areBytes
      congr 1
      exact decide_eq_decide.mpr (by show b.length ≤ 9000 ↔ _; omega)
    rw [eB] at k
    refine iteB (fun hb => ?_) fun hb => ?_
    · rw [hb, Bool.true_and] at k
      refine ⟨_, rfl, d, rfl, ⟨_, hd⟩, fun D hD => lc_list (g := gName 1) (tt := tYes) (te := tChain (rI0 fun i j => .bl (decide (i ≤ j))) (rI0 fun i j => .bl (decide (i ≤ j))) (tC (.int 0)) (tVar 1) (tC (.int 255))) (vs := [1]) (K := K) (a := d) (xs := vi b) (fun i H' => Same H H' ∧ H' D = some (.lst (((b.take i).map (LacePageSeed.within 0 255)).map V.bl))) ⟨Same.up hD, upd_same⟩ (fun i H' _ ⟨s1, _⟩ => s1.seq hd) (fun i v H' hi ⟨s1, hl⟩ => ?_) fun H' ⟨s1, hl⟩ => ?_⟩
      · obtain ⟨c, hc, rfl⟩ := vi_get hi
        refine ⟨rfl, ?_⟩
        unfold tYes
        refine iteT ?_
        refine chain_leV (x := c) (fun Q hQ => ⟨_, rfl, hQ⟩) ⟨_, hl, ?_, s1.wr hD, ?_⟩
        · rw [List.length_map, List.length_map, List.length_take, line_eq]
          omega
        · rw [upd_same, take_snoc hc, List.map_append, List.map_append]
          rfl
      · rw [vi_length, List.take_length] at hl
        refine ⟨D, _, rfl, SqL.of hl, ?_⟩
        rw [all_map]
        exact k H' s1
    · rw [hb, Bool.false_and] at k
      exact k H (Same.refl H)
end
end Lp
end
section
set_option Elab.async false
set_option linter.all false
set_option maxRecDepth 100000
set_option maxHeartbeats 2000000
namespace Lp
open PySem PySem.Spec PyProof.Rows L2
inductive IsCall : Nat → List Int → List Int → LacePageSeed.Call → Prop
  | writer (n : Int) (b : List Int) : IsCall 1 [n] b (.writer n)
  | put (p z : Int) (b : List Int) : IsCall 2 [p, z] b (.put p z b)
  | flush (b : List Int) : IsCall 3 [] b .flush
  | page (b : List Int) : IsCall 4 [] b .page
  | reader (n : Int) (b : List Int) : IsCall 5 [n] b (.reader n)
  | feed (b : List Int) : IsCall 6 [] b (.feed b)
  | close (b : List Int) : IsCall 7 [] b .close
  | waits (b : List Int) : IsCall 8 [] b .waits
  | next (n : Int) (b : List Int) : IsCall 9 [n] b (.next n)
  | counts (b : List Int) : IsCall 10 [] b .counts
  | sum (b : List Int) : IsCall 11 [] b (.sum b)
  | check (b : List Int) : IsCall 12 [] b (.check b)
structure Good (s : LacePageSeed.State) (r : LpM.RS) (N : Nat) : Prop where
  rd : s.r = LpM.toRd r r.un
  ok : LpM.RsOk r
  sz : LpM.sz r + r.un.length ≤ N
  wl : LpM.WrL s.w
  fin : ∀ l v, s.w.lacing = l ++ [v] → v ≠ 255
  wt : s.w.waits.length ≤ 100
  pg : ∀ c ∈ s.w.waits, c.length ≤ 5000
theorem Good.mono {s : LacePageSeed.State} {r : LpM.RS} {N M : Nat} (g : Good s r N) (h : N ≤ M) : Good s r M := { g with sz := Nat.le_trans g.sz h }
theorem Good.setW {s : LacePageSeed.State} {r : LpM.RS} {N : Nat} (g : Good s r N) {x : Lace.Wr} (wl : LpM.WrL x) (fin : ∀ l v, x.lacing = l ++ [v] → v ≠ 255) (wt : x.waits.length ≤ 100) (pg : ∀ c ∈ x.waits, c.length ≤ 5000) : Good { s with w := x } r N := ⟨g.rd, g.ok, g.sz, wl, fin, wt, pg⟩
theorem Good.setR {s : LacePageSeed.State} {r : LpM.RS} {N M : Nat} (g : Good s r N) {r' : LpM.RS} {y : Lace.Rd} (e : y = LpM.toRd r' r'.un) (ok : LpM.RsOk r') (sz : LpM.sz r' + r'.un.length ≤ M) : Good { s with r := y } r' M := ⟨e, ok, sz, g.wl, g.fin, g.wt, g.pg⟩
def spA (HC WC RC PC : Addr) (j : Nat) : Sp := fun vs H Q _ => ∃ (h nn rr : Addr) (s : LacePageSeed.State) (r : LpM.RS) (N : Nat) (fp : List Addr) (ns row : List Int) (c : LacePageSeed.Call), vs = [.ref h, .ref nn, .ref rr] ∧ IsCall j ns row c ∧ HolAt HC WC RC PC H h s.w r fp ∧ Good s r N ∧ N + row.length ≤ 16000 ∧ Out H nn (.lst (vi ns)) fp ∧ Out H rr (.lst (vi row)) fp ∧
  ∀ (H' : Hp) (fp' : List Addr) (q : Addr) (r' : LpM.RS), HolAt HC WC RC PC H' h (LacePageSeed.step s c).1.w r' fp' → Good (LacePageSeed.step s c).1 r' (N + row.length) → Frm fp fp' H H' → H' q = some (.lst (vi (LacePageSeed.step s c).2)) → (LacePageSeed.step s c).2.length ≤ 10000 → (∀ b o, H b = some o → b ∉ fp → q ≠ b) → Q (.ref q) H'
structure ACs (mg : Str → Option Value) : Prop where
  done : Cst mg "DONE" 0
  no : Cst mg "NOT_AS_TOLD" (-1)
  long : Cst mg "TOO_LONG" (-2)
  last : Cst mg "LAST_CAME" (-3)
  pw : Cst mg "PAGES_WAIT" (-4)
  none : Cst mg "NONE_WAITS" (-5)
  ts : Cst mg "TOP_STREAM" 4294967295
  tp : Cst mg "TOP_POSITION" 9223372036854775807
  longest : Cst mg "LONGEST_PACKET" 8192
  len : mg "len" = Option.none
theorem Frm.ne {fp fp' : List Addr} {H H' : Hp} {q : Addr} (f : Frm fp fp' H H') (n : H' q = none) : ∀ b o, H b = some o → b ∉ fp → q ≠ b := fun b o e m z => by
  rw [z, f.keep b o e m] at n; cases n
theorem seq_test {t : TT} {a r : TS} {D : Ends} {σ : L2.St} {H : Hp} (c : Bool) (h0 : ∀ R : Bool → Hp → Prop, (∀ H1, Same H H1 → R c H1) → t σ H R) (ht : c = true → ∀ H1, Same H H1 → a { D with nx := r D } σ H1) (hf : c = false → ∀ H1, Same H H1 → r D σ H1) : tSeq (tIfS t a tNext) r D σ H := by
  refine h0 (fun b H1 => if b = true then a { D with nx := r D } σ H1 else tNext { D with nx := r D } σ H1) fun H1 s1 => ?_
  cases c with
  | true => exact iteT (ht rfl H1 s1)
  | false => exact iteF (hf rfl H1 s1)
theorem not_of {t : TT} {σ : L2.St} {H : Hp} {c : Bool} (h : ∀ R : Bool → Hp → Prop, (∀ H1, Same H H1 → R c H1) → t σ H R) : ∀ R : Bool → Hp → Prop, (∀ H1, Same H H1 → R (!c) H1) → tNot t σ H R := fun R hR => h (fun b H1 => R (!b) H1) hR
section
variable {P : Program} {w : World} {K : PySem.W.Frag} {mg : Str → Option Value} {base : Heap} {HC WC RC PC : Addr}
theorem HolAt.parts {H : Hp} {h : Addr} {x : Lace.Wr} {r : LpM.RS} {fp : List Addr} (c : HolAt HC WC RC PC H h x r fp) : ∃ (dx t wa ra : Addr) (fpw fpr : List Addr), HolC HC WC RC PC H h dx t wa ra fpw fpr x r ∧ fp = h :: t :: (fpw ++ fpr) := c.ex
abbrev sA1 : Stmt := top 54
theorem scA1 : FnScope ["holder", "numbers", "row"] ["holder", "numbers", "row"] (defScope sA1) := ⟨rfl, rfl, rfl, by decide +kernel, rfl, by decide +kernel, by decide +kernel⟩
theorem ok_a1 {f : Addr} {fd : FuncData} (F : Fun K "answer_writer" "answer_writer" sA1 f fd) (T : HTx K HC) (A : ACs mg) (cW : HasC P w K mg base 2 WC "Writer" ["self", "stream", "table"] (spWi WC)) : FnOk P w K mg base CX0 8 f fd ["holder", "numbers", "row"] (spA HC WC RC PC 1) := by
  refine F.ok scA1 (fun vs H Q E h => ?_) (fun cdv Ar outer s H vs Q E hr h => ?_)
  · obtain ⟨h, nn, rr, s, r, N, fp, ns, row, c, rfl, _⟩ := h
    rfl
  · obtain ⟨h, nn, rr, s, r, N, fp, ns, row, c, rfl, hc, hh, hg, hN, hnn, hrr, k⟩ := h
    cases hc with
    | writer n =>
    have hr3 : Room 3 _ := hr.mono (by decide)
    refine ⟨_, pss_cons (ps_if (pt_not (pt_chain op_le op_le pe_int (pe_ix ix_list (pv 1) pe_int (fun _ _ => rfl)) (pe_cst A.ts))) (pss_one (ps_ret (pe_lstQ (pa_cons (pe_cst A.no) pa_nil)))) pss_nil)
      (pss_cons (ps_fld (pv 0) (pe_hasC cW hr3 (pa_cons (pe_ix ix_list (pv 1) pe_int (fun _ _ => rfl)) (pa_cons (pe_fld (pv 0) rfl) pa_nil))) rfl)
      (pss_one (ps_ret (pe_lstQ (pa_cons (pe_cst A.done) pa_nil))))), ?_⟩
    have hix : ∀ Q : VK, Q (.int n) H → tOp (rIxL K) (tVar 1) (tC (.int 0)) (start ["holder", "numbers", "row"] [V.ref h, V.ref nn, V.ref rr]) H Q := fun Q hQ => ⟨_, rfl, nn, _, _, _, rfl, rfl, SqL.of hnn.at_, at_of (j := 0) rfl rfl, hQ⟩
    have e : LacePageSeed.step s (.writer n) = if LacePageSeed.within 0 LacePageSeed.WORD n = true then ({ s with w := Lace.wrInit n.toNat }, LacePageSeed.tells []) else (s, LacePageSeed.no 1) := rfl
    refine seq_test (!LacePageSeed.within 0 LacePageSeed.WORD n) (not_of fun R hR => chain_le (x := n) hix (hR H (Same.refl H))) (fun hb H1 s1 => ?_) fun hb H1 s1 => ?_
    · rw [if_neg (by simpa using hb)] at e
      rw [e] at k
      refine ⟨by show 1 ≤ 1000000; decide, fun q H2 n2 s2 e2 => ?_⟩
      exact k H2 fp q r (hh.same (s1.trans s2)) (hg.mono (Nat.le_add_right _ _)) (Frm.same (s1.trans s2)) e2 (by show 1 ≤ 10000; decide) (Frm.ne (fp := fp) (Frm.same s1) n2)
    · have hb : LacePageSeed.within 0 LacePageSeed.WORD n = true := by simpa using hb
      rw [if_pos hb] at e
      rw [e] at k
      unfold LacePageSeed.within at hb
      rw [Bool.and_eq_true, decide_eq_true_eq, decide_eq_true_eq] at hb
      have f1 : Frm fp fp H H1 := Frm.same s1
      obtain ⟨dx, t, wa, ra, fpw, fpr, c, efp⟩ := (hh.same s1).parts
      refine ⟨_, rfl, nn, _, _, _, rfl, rfl, SqL.of (f1.out hnn).at_, at_of (j := 0) rfl rfl, _, rfl, h, HC, dx, _, _, rfl, c.ins, T.cl, T.nTable, rfl, fun p dp n1 n2 n3 => ?_⟩
      refine ⟨p, dp, t, n.toNat, ?_, upd_same, fun H3 fp3 hw kw nw => ⟨rfl, ?_⟩⟩
      · show [V.ref p, V.int n, V.ref t] = _
        rw [show ((n.toNat : Nat) : Int) = n by omega]
      have s3 : Same H1 H3 := Same.made n1 n2 kw
      refine ⟨_, rfl, h, HC, dx, _, rfl, s3 _ _ c.ins, T.cl, T.nWriter, by show 3 < 1000; decide, ?_⟩
      have g := c.newW s3 hw fun b m => made_free n1 (nw b m)
      refine ⟨by show 1 ≤ 1000000; decide, fun q H4 n4 s4 e4 => ?_⟩
      refine k H4 _ q r (g.1.same s4).at_ ((hg.setW (x := Lace.wrInit n.toNat) ⟨fun v m => absurd m List.not_mem_nil, by show 0 < 16; decide, Nat.le_refl _⟩ (fun l v z => ?_) (by show 0 ≤ 100; decide) (fun c m => absurd m List.not_mem_nil)).mono (Nat.le_add_right _ _)) ?_ e4 (by show 1 ≤ 10000; decide) ?_
      · have z : ([] : List Nat) = l ++ [v] := z
        simp at z
      · rw [efp]
        exact (Frm.same s1).trans (g.2.trans (Frm.same s4))
      · rw [efp]
        exact Frm.ne ((Frm.same s1).trans g.2) n4
abbrev sA5 : Stmt := top 58
theorem scA5 : FnScope ["holder", "numbers", "row"] ["holder", "numbers", "row"] (defScope sA5) := ⟨rfl, rfl, rfl, by decide +kernel, rfl, by decide +kernel, by decide +kernel⟩
theorem ok_a5 {f : Addr} {fd : FuncData} (F : Fun K "answer_reader" "answer_reader" sA5 f fd) (T : HTx K HC) (A : ACs mg) (cR : HasC P w K mg base 1 RC "Reader" ["self", "stream", "table"] (spRi RC PC)) : FnOk P w K mg base CX0 8 f fd ["holder", "numbers", "row"] (spA HC WC RC PC 5) := by
  refine F.ok scA5 (fun vs H Q E h => ?_) (fun cdv Ar outer s H vs Q E hr h => ?_)
  · obtain ⟨h, nn, rr, s, r, N, fp, ns, row, c, rfl, _⟩ := h
    rfl
  · obtain ⟨h, nn, rr, s, r, N, fp, ns, row, c, rfl, hc, hh, hg, hN, hnn, hrr, k⟩ := h
    cases hc with
    | reader n =>
    have hr2 : Room 2 _ := hr.mono (by decide)
    refine ⟨_, pss_cons (ps_if (pt_not (pt_chain op_le op_le pe_int (pe_ix ix_list (pv 1) pe_int (fun _ _ => rfl)) (pe_cst A.ts))) (pss_one (ps_ret (pe_lstQ (pa_cons (pe_cst A.no) pa_nil)))) pss_nil)
      (pss_cons (ps_fld (pv 0) (pe_hasC cR hr2 (pa_cons (pe_ix ix_list (pv 1) pe_int (fun _ _ => rfl)) (pa_cons (pe_fld (pv 0) rfl) pa_nil))) rfl)
      (pss_one (ps_ret (pe_lstQ (pa_cons (pe_cst A.done) pa_nil))))), ?_⟩
    have hix : ∀ Q : VK, Q (.int n) H → tOp (rIxL K) (tVar 1) (tC (.int 0)) (start ["holder", "numbers", "row"] [V.ref h, V.ref nn, V.ref rr]) H Q := fun Q hQ => ⟨_, rfl, nn, _, _, _, rfl, rfl, SqL.of hnn.at_, at_of (j := 0) rfl rfl, hQ⟩
    have e : LacePageSeed.step s (.reader n) = if LacePageSeed.within 0 LacePageSeed.WORD n = true then ({ s with r := Lace.rdInit n.toNat }, LacePageSeed.tells []) else (s, LacePageSeed.no 1) := rfl
    refine seq_test (!LacePageSeed.within 0 LacePageSeed.WORD n) (not_of fun R hR => chain_le (x := n) hix (hR H (Same.refl H))) (fun hb H1 s1 => ?_) fun hb H1 s1 => ?_
    · rw [if_neg (by simpa using hb)] at e
      rw [e] at k
      refine ⟨by show 1 ≤ 1000000; decide, fun q H2 n2 s2 e2 => ?_⟩
      exact k H2 fp q r (hh.same (s1.trans s2)) (hg.mono (Nat.le_add_right _ _)) (Frm.same (s1.trans s2)) e2 (by show 1 ≤ 10000; decide) (Frm.ne (fp := fp) (Frm.same s1) n2)
    · have hb : LacePageSeed.within 0 LacePageSeed.WORD n = true := by simpa using hb
      rw [if_pos hb] at e
      rw [e] at k
      unfold LacePageSeed.within at hb
      rw [Bool.and_eq_true, decide_eq_true_eq, decide_eq_true_eq] at hb
      have f1 : Frm fp fp H H1 := Frm.same s1
      obtain ⟨dx, t, wa, ra, fpw, fpr, c, efp⟩ := (hh.same s1).parts
      refine ⟨_, rfl, nn, _, _, _, rfl, rfl, SqL.of (f1.out hnn).at_, at_of (j := 0) rfl rfl, _, rfl, h, HC, dx, _, _, rfl, c.ins, T.cl, T.nTable, rfl, fun p dp n1 n2 n3 => ?_⟩
      have htu : (upd (upd H1 dp (.own p)) p (.ins RC dp [])) t = some tabO := by rw [upd_ne (ne_of_none c.tab n1), upd_ne (ne_of_none c.tab n2)]; exact c.tab
      refine ⟨p, dp, t, n.toNat, ?_, upd_same, htu, fun H3 fp3 hw kw nw => ⟨rfl, ?_⟩⟩
      · show [V.ref p, V.int n, V.ref t] = _
        rw [show ((n.toNat : Nat) : Int) = n by omega]
      have s3 : Same H1 H3 := Same.made n1 n2 kw
      refine ⟨_, rfl, h, HC, dx, _, rfl, s3 _ _ c.ins, T.cl, T.nReader, by show 3 < 1000; decide, ?_⟩
      have g := c.newR s3 hw fun b m => made_free n1 (nw b m)
      refine ⟨by show 1 ≤ 1000000; decide, fun q H4 n4 s4 e4 => ?_⟩
      refine k H4 _ q (LpM.rsInit n.toNat) (g.1.same s4).at_ (hg.setR (LpM.toRd_init n.toNat).symm (LpM.init_ok _) (Nat.zero_le _)) ?_ e4 (by show 1 ≤ 10000; decide) ?_
      · rw [efp]
        exact (Frm.same s1).trans (g.2.trans (Frm.same s4))
      · rw [efp]
        exact Frm.ne ((Frm.same s1).trans g.2) n4
end
end Lp
end
section
set_option Elab.async false
set_option linter.all false
set_option maxRecDepth 100000
set_option maxHeartbeats 2000000
namespace Lp
open PySem PySem.Spec PyProof.Rows L2
theorem bnot_t {b : Bool} (h : (!b) = true) : b = false := by
  cases b with
  | false => rfl
  | true => cases h
theorem bnot_f {b : Bool} (h : (!b) = false) : b = true := by
  cases b with
  | true => rfl
  | false => cases h
section
variable {P : Program} {w : World} {K : PySem.W.Frag} {mg : Str → Option Value} {base : Heap} {HC WC RC PC : Addr}
abbrev sA2 : Stmt := top 55
theorem scA2 : FnScope ["holder", "numbers", "row"] ["holder", "numbers", "row"] (defScope sA2) := ⟨rfl, rfl, rfl, by decide +kernel, rfl, by decide +kernel, by decide +kernel⟩
theorem ok_a2 {f : Addr} {fd : FuncData} (F : Fun K "answer_put" "answer_put" sA2 f fd) (T : HTx K HC) (TW : WTx K mg WC) (A : ACs mg) (fA : Has P w K mg base 1 "are_bytes" ["row"] (spAb K)) (mP : HasM P w K mg base 5 WC "put_packet" ["self", "position", "last", "packet"] (spPut WC)) : FnOk P w K mg base CX0 8 f fd ["holder", "numbers", "row"] (spA HC WC RC PC 2) := by
  refine F.ok scA2 (fun vs H Q E h => ?_) (fun cdv Ar outer s H vs Q E hr h => ?_)
  · obtain ⟨h, nn, rr, s, r, N, fp, ns, row, c, rfl, _⟩ := h
    rfl
  · obtain ⟨h, nn, rr, s, r, N, fp, ns, row, c, rfl, hc, hh, hg, hN, hnn, hrr, k⟩ := h
    cases hc with
    | put p z =>
    have hr1 : Room 1 _ := hr.mono (by decide)
    have hr5 : Room 5 _ := hr.mono (by decide)
    refine ⟨_, pss_cons (ps_if (pt_not (PW.pt (pw_and (pt_chain op_le op_le pe_int (pe_ix ix_list (pv 1) pe_int (fun _ _ => rfl)) (pe_cst A.tp)) (pw_and (pt_chain op_le op_le pe_int (pe_ix ix_list (pv 1) pe_int (fun _ _ => rfl)) pe_int) (pw_and1 (pt_truth (pe_has fA hr1 (pa_cons (pv 2) pa_nil)) (fun _ => rfl))))))) (pss_one (ps_ret (pe_lstQ (pa_cons (pe_cst A.no) pa_nil)))) pss_nil)
      (pss_cons (ps_if (pt_truth (pe_fld (pe_fld (pv 0) rfl) rfl) (fun _ => rfl)) (pss_one (ps_ret (pe_lstQ (pa_cons (pe_cst A.last) pa_nil)))) pss_nil)
      (pss_cons (ps_if (pt_cmpR op_gt (pe_callB call_len_seq rfl A.len PySem.boot_len (pa_cons (pv 2) pa_nil)) (pe_cst A.longest) (nomark _)) (pss_one (ps_ret (pe_lstQ (pa_cons (pe_cst A.long) pa_nil)))) pss_nil)
      (pss_cons (ps_if (pt_truth (pe_fld (pe_fld (pv 0) rfl) rfl) (fun _ => rfl)) (pss_one (ps_ret (pe_lstQ (pa_cons (pe_cst A.pw) pa_nil)))) pss_nil)
      (pss_cons (ps_expr (pe_hasM mP (pe_fld (pv 0) rfl) TW.cl hr5 (pa_cons (pe_ix ix_list (pv 1) pe_int (fun _ _ => rfl)) (pa_cons (pe_ix ix_list (pv 1) pe_int (fun _ _ => rfl)) (pa_cons (pv 2) pa_nil)))))
      (pss_one (ps_ret (pe_lstQ (pa_cons (pe_cst A.done) pa_nil)))))))), ?_⟩
    have hix0 : ∀ Q : VK, Q (.int p) H → tOp (rIxL K) (tVar 1) (tC (.int 0)) (start ["holder", "numbers", "row"] [V.ref h, V.ref nn, V.ref rr]) H Q := fun Q hQ => ⟨_, rfl, nn, _, _, _, rfl, rfl, SqL.of hnn.at_, at_of (j := 0) rfl rfl, hQ⟩
    have hix1 : ∀ Q : VK, Q (.int z) H → tOp (rIxL K) (tVar 1) (tC (.int 1)) (start ["holder", "numbers", "row"] [V.ref h, V.ref nn, V.ref rr]) H Q := fun Q hQ => ⟨_, rfl, nn, _, _, _, rfl, rfl, SqL.of hnn.at_, at_of (j := 1) rfl rfl, hQ⟩
    have e : LacePageSeed.step s (.put p z row) = if LacePageSeed.within 0 LacePageSeed.TOP p = false ∨ LacePageSeed.within 0 1 z = false ∨ LacePageSeed.areBytes row = false then (s, LacePageSeed.no 1) else if s.w.ended = true then (s, LacePageSeed.no 3) else if Lace.LONGEST < row.length then (s, LacePageSeed.no 2) else if s.w.waits ≠ [] then (s, LacePageSeed.no 4) else ({ s with w := { (Lace.lay p.toNat (z == 1) s.w (Lace.values row.length) (LacePageSeed.bytesOf row)) with ended := z == 1 } }, LacePageSeed.tells []) := rfl
    refine seq_test (!(LacePageSeed.within 0 LacePageSeed.TOP p && (LacePageSeed.within 0 1 z && LacePageSeed.areBytes row))) (not_of fun R hR => ?_) (fun hb H1 s1 => ?_) fun hb H1 s1 => ?_
    · refine chain_le (x := p) hix0 ?_
      have eT : LacePageSeed.within 0 LacePageSeed.TOP p = LacePageSeed.within 0 9223372036854775807 p := rfl
      rw [eT] at hR
      generalize LacePageSeed.within 0 9223372036854775807 p = b1 at hR ⊢
      cases b1 with
      | false => exact hR H (Same.refl H)
      | true =>
        refine chain_le (x := z) hix1 ?_
        generalize LacePageSeed.within 0 1 z = b2 at hR ⊢
        cases b2 with
        | false => exact hR H (Same.refl H)
        | true => exact ⟨_, rfl, rr, row, rfl, SqL.of hrr.at_, by omega, fun H1 s1 => ⟨_, rfl, hR H1 s1⟩⟩
    · have hb := bnot_t hb
      rw [if_pos (by
        rw [Bool.and_eq_false_iff, Bool.and_eq_false_iff] at hb
        exact hb)] at e
      rw [e] at k
      refine ⟨by show 1 ≤ 1000000; decide, fun q H2 n2 s2 e2 => ?_⟩
      exact k H2 fp q r (hh.same (s1.trans s2)) (hg.mono (Nat.le_add_right _ _)) (Frm.same (s1.trans s2)) e2 (by show 1 ≤ 10000; decide) (Frm.ne (fp := fp) (Frm.same s1) n2)
    have hb := bnot_f hb
    rw [Bool.and_eq_true, Bool.and_eq_true] at hb
    obtain ⟨hb1, hb2, hb3⟩ := hb
    rw [if_neg (by rw [hb1, hb2, hb3]; simp)] at e
    have hvb := bytes_vi hb3
    unfold LacePageSeed.within at hb1 hb2
    rw [Bool.and_eq_true, decide_eq_true_eq, decide_eq_true_eq] at hb1 hb2
    have f1 : Frm fp fp H H1 := Frm.same s1
    have hh1 := hh.same s1
    have hnn1 := f1.out hnn
    have hrr1 := f1.out hrr
    obtain ⟨dx, t, wa, ra, fpw, fpr, c, efp⟩ := hh1.parts
    obtain ⟨dxw, pw, la, bo, ps, hA, hPw, hPs, hLa, hBo, ds, efw⟩ := c.wr.ex
    refine ⟨_, rfl, h, HC, dx, _, _, rfl, c.ins, T.cl, T.nWriter, rfl, wa, WC, dxw, _, _, rfl, hA, TW.cl, TW.nLast, rfl, _, rfl, iteB (fun hb => ?_) fun hb => ?_⟩
    · rw [if_pos hb] at e
      rw [e] at k
      refine ⟨by show 1 ≤ 1000000; decide, fun q H2 n2 s2 e2 => ?_⟩
      exact k H2 fp q r (hh1.same s2) (hg.mono (Nat.le_add_right _ _)) (f1.trans (Frm.same s2)) e2 (by show 1 ≤ 10000; decide) (f1.ne n2)
    rw [if_neg (by rw [hb]; exact Bool.false_ne_true)] at e
    refine ⟨_, rfl, rr, _, rfl, .inl (SqL.of hrr1.at_), _, _, rfl, rfl, _, rfl, iteB (fun hb => ?_) fun hb => ?_⟩
    · have hb := of_decide_eq_true hb
      rw [vi_length] at hb
      rw [if_pos (by show 8192 < row.length; omega)] at e
      rw [e] at k
      refine ⟨by show 1 ≤ 1000000; decide, fun q H2 n2 s2 e2 => ?_⟩
      exact k H2 fp q r (hh1.same s2) (hg.mono (Nat.le_add_right _ _)) (f1.trans (Frm.same s2)) e2 (by show 1 ≤ 10000; decide) (f1.ne n2)
    have hb := of_decide_eq_false hb
    rw [vi_length] at hb
    rw [if_neg (by show ¬ 8192 < row.length; omega)] at e
    refine ⟨_, rfl, h, HC, dx, _, _, rfl, c.ins, T.cl, T.nWriter, rfl, wa, WC, dxw, _, _, rfl, hA, TW.cl, TW.nPw, rfl, _, .inl ⟨_, SqL.of hPw, rfl⟩, iteB (fun hb => ?_) fun hb => ?_⟩
    · have hne : s.w.waits ≠ [] := fun z => by
        rw [z] at hPs
        cases hPs
        exact absurd hb (by decide)
      rw [if_pos hne] at e
      rw [e] at k
      refine ⟨by show 1 ≤ 1000000; decide, fun q H2 n2 s2 e2 => ?_⟩
      exact k H2 fp q r (hh1.same s2) (hg.mono (Nat.le_add_right _ _)) (f1.trans (Frm.same s2)) e2 (by show 1 ≤ 10000; decide) (f1.ne n2)
    have hem : s.w.waits = [] := by
      have hp0 : ps = [] := by
        have : (ps.map V.ref).isEmpty = true := by simpa using hb
        exact List.map_eq_nil_iff.mp (List.isEmpty_iff.mp this)
      rw [hp0] at hPs
      generalize s.w.waits = ww at hPs
      cases hPs
      rfl
    rw [if_neg (fun q => q hem)] at e
    rw [e] at k
    have hz : z = (((z == 1).toNat : Nat) : Int) := by
      have : z = 0 ∨ z = 1 := by omega
      rcases this with rfl | rfl <;> rfl
    have hp : ((p.toNat : Nat) : Int) = p := by omega
    have hrw : Out H1 rr (.lst (vb (LacePageSeed.bytesOf row))) fpw := ⟨by rw [← hvb]; exact hrr1.at_, fun m => hrr1.no (by rw [efp]; simp [m])⟩
    refine ⟨_, rfl, h, HC, dx, _, _, rfl, c.ins, T.cl, T.nWriter, rfl, wa, dxw, _, rfl, hA, rfl, _, rfl, nn, _, _, _, rfl, rfl, SqL.of hnn1.at_, at_of (j := 0) rfl rfl, _, rfl, nn, _, _, _, rfl, rfl, SqL.of hnn1.at_, at_of (j := 1) rfl rfl, _, rfl,
      wa, t, rr, s.w, fpw, p.toNat, z == 1, LacePageSeed.bytesOf row, ?_, c.wr, c.outw, hrw, hg.wl, by rw [hem]; decide, hg.pg, by rw [bytes_len]; exact bytes_most hb3, fun H2 fp2 y ey hw2 wl2 fin2 wt2 pg2 f2 => ?_⟩
    · show [V.ref wa, V.int p, V.int z, V.ref rr] = _
      rw [hp, ← hz]
    rw [bytes_len] at ey
    have g := c.wrote f2 hw2
    refine ⟨by show 1 ≤ 1000000; decide, fun q H3 n3 s3 e3 => ?_⟩
    refine k H3 (h :: t :: (fp2 ++ fpr)) q r ?_ ?_ ?_ e3 (by show 1 ≤ 10000; decide) ?_
    · rw [← ey]
      exact (g.1.same s3).at_
    · rw [← ey]
      exact (hg.setW wl2 fin2 wt2 pg2).mono (Nat.le_add_right _ _)
    · rw [efp]
      rw [efp] at f1
      exact f1.trans (g.2.trans (Frm.same s3))
    · rw [efp] at f1 ⊢
      exact Frm.ne (f1.trans g.2) n3
abbrev sA3 : Stmt := top 56
theorem scA3 : FnScope ["holder", "numbers", "row"] ["holder", "numbers", "row"] (defScope sA3) := ⟨rfl, rfl, rfl, by decide +kernel, rfl, by decide +kernel, by decide +kernel⟩
theorem ok_a3 {f : Addr} {fd : FuncData} (F : Fun K "answer_flush" "answer_flush" sA3 f fd) (T : HTx K HC) (TW : WTx K mg WC) (A : ACs mg) (mF : HasM P w K mg base 5 WC "flush_page" ["self"] (spFls WC)) : FnOk P w K mg base CX0 8 f fd ["holder", "numbers", "row"] (spA HC WC RC PC 3) := by
  refine F.ok scA3 (fun vs H Q E h => ?_) (fun cdv Ar outer s H vs Q E hr h => ?_)
  · obtain ⟨h, nn, rr, s, r, N, fp, ns, row, c, rfl, _⟩ := h
    rfl
  · obtain ⟨h, nn, rr, s, r, N, fp, ns, row, c, rfl, hc, hh, hg, hN, hnn, hrr, k⟩ := h
    cases hc with
    | flush =>
    have hr5 : Room 5 _ := hr.mono (by decide)
    refine ⟨_, pss_cons (ps_if (pt_truth (pe_fld (pe_fld (pv 0) rfl) rfl) (fun _ => rfl)) (pss_one (ps_ret (pe_lstQ (pa_cons (pe_cst A.pw) pa_nil)))) pss_nil)
      (pss_cons (ps_expr (pe_hasM0 mF (pe_fld (pv 0) rfl) TW.cl hr5))
      (pss_one (ps_ret (pe_lstQ (pa_cons (pe_cst A.done) pa_nil))))), ?_⟩
    obtain ⟨dx, t, wa, ra, fpw, fpr, c, efp⟩ := hh.parts
    obtain ⟨dxw, pw, la, bo, ps, hA, hPw, hPs, hLa, hBo, ds, efw⟩ := c.wr.ex
    have e : LacePageSeed.step s .flush = if s.w.waits ≠ [] then (s, LacePageSeed.no 4) else if s.w.lacing = [] then (s, LacePageSeed.tells []) else ({ s with w := s.w.done false false }, LacePageSeed.tells []) := rfl
    refine ⟨_, rfl, h, HC, dx, _, _, rfl, c.ins, T.cl, T.nWriter, rfl, wa, WC, dxw, _, _, rfl, hA, TW.cl, TW.nPw, rfl, _, .inl ⟨_, SqL.of hPw, rfl⟩, iteB (fun hb => ?_) fun hb => ?_⟩
    · have hne : s.w.waits ≠ [] := fun z => by
        rw [z] at hPs
        cases hPs
        exact absurd hb (by decide)
      rw [if_pos hne] at e
      rw [e] at k
      refine ⟨by show 1 ≤ 1000000; decide, fun q H2 n2 s2 e2 => ?_⟩
      exact k H2 fp q r (hh.same s2) (hg.mono (Nat.le_add_right _ _)) (Frm.same s2) e2 (by show 1 ≤ 10000; decide) (Frm.ne (Frm.refl fp H) n2)
    have hem : s.w.waits = [] := by
      have hp0 : ps = [] := by
        have : (ps.map V.ref).isEmpty = true := by simpa using hb
        exact List.map_eq_nil_iff.mp (List.isEmpty_iff.mp this)
      rw [hp0] at hPs
      generalize s.w.waits = ww at hPs
      cases hPs
      rfl
    rw [if_neg (fun q => q hem)] at e
    refine ⟨_, rfl, h, HC, dx, _, _, rfl, c.ins, T.cl, T.nWriter, rfl, wa, dxw, _, rfl, hA, rfl, wa, t, s.w, fpw, rfl, c.wr, c.outw, hg.wl, hg.fin, by rw [hem]; decide, fun H2 fp2 hw2 f2 => ?_⟩
    have g := c.wrote f2 hw2
    have es : LacePageSeed.step s .flush = ({ s with w := flushed s.w }, LacePageSeed.tells []) := by
      rw [e]
      unfold flushed
      by_cases q : s.w.lacing = []
      · rw [if_pos q, if_pos q]
      · rw [if_neg q, if_neg q]
    rw [es] at k
    refine ⟨by show 1 ≤ 1000000; decide, fun q H3 n3 s3 e3 => ?_⟩
    refine k H3 (h :: t :: (fp2 ++ fpr)) q r (g.1.same s3).at_ (Good.mono (N := N) ?_ (Nat.le_add_right _ _)) ?_ e3 (by show 1 ≤ 10000; decide) ?_
    · unfold flushed
      by_cases q : s.w.lacing = []
      · rw [if_pos q]
        exact hg
      · rw [if_neg q]
        refine hg.setW (LpM.done_ok _ _ _) (fun l v z => ?_) ?_ (LpM.done_pgs ⟨hg.wl.small, Nat.le_of_lt hg.wl.len, hg.wl.body⟩ hg.pg)
        · have z : ([] : List Nat) = l ++ [v] := z
          simp at z
        · show (s.w.waits ++ [_]).length ≤ 100
          rw [hem]
          show 1 ≤ 100
          decide
    · rw [efp]
      exact g.2.trans (Frm.same s3)
    · rw [efp]
      exact g.2.ne n3
abbrev sA4 : Stmt := top 57
theorem scA4 : FnScope ["holder", "numbers", "row"] ["holder", "numbers", "row"] (defScope sA4) := ⟨rfl, rfl, rfl, by decide +kernel, rfl, by decide +kernel, by decide +kernel⟩
theorem ok_a4 {f : Addr} {fd : FuncData} (F : Fun K "answer_page" "answer_page" sA4 f fd) (T : HTx K HC) (TW : WTx K mg WC) (A : ACs mg) (mT : HasM P w K mg base 1 WC "take_waiting" ["self"] (spTw WC)) : FnOk P w K mg base CX0 8 f fd ["holder", "numbers", "row"] (spA HC WC RC PC 4) := by
  refine F.ok scA4 (fun vs H Q E h => ?_) (fun cdv Ar outer s H vs Q E hr h => ?_)
  · obtain ⟨h, nn, rr, s, r, N, fp, ns, row, c, rfl, _⟩ := h
    rfl
  · obtain ⟨h, nn, rr, s, r, N, fp, ns, row, c, rfl, hc, hh, hg, hN, hnn, hrr, k⟩ := h
    cases hc with
    | page =>
    have hr1 : Room 1 _ := hr.mono (by decide)
    refine ⟨_, pss_cons (ps_if (pt_not (pt_truth (pe_fld (pe_fld (pv 0) rfl) rfl) (fun _ => rfl))) (pss_one (ps_ret (pe_lstQ (pa_cons (pe_cst A.none) pa_nil)))) pss_nil)
      (pss_one (ps_ret (pe_op op_catQ (pe_lstQ (pa_cons (pe_cst A.done) pa_nil)) (pe_hasM0 mT (pe_fld (pv 0) rfl) TW.cl hr1)))), ?_⟩
    obtain ⟨dx, t, wa, ra, fpw, fpr, c, efp⟩ := hh.parts
    obtain ⟨dxw, pw, la, bo, ps, hA, hPw, hPs, hLa, hBo, ds, efw⟩ := c.wr.ex
    have e : LacePageSeed.step s .page = match s.w.waits with
      | [] => (s, LacePageSeed.no 5)
      | x :: l => ({ s with w := { s.w with waits := l } }, LacePageSeed.tells (LacePageSeed.nums x)) := rfl
    refine ⟨_, rfl, h, HC, dx, _, _, rfl, c.ins, T.cl, T.nWriter, rfl, wa, WC, dxw, _, _, rfl, hA, TW.cl, TW.nPw, rfl, _, .inl ⟨_, SqL.of hPw, rfl⟩, ?_⟩
    cases hww : s.w.waits with
    | nil =>
      rw [hww] at hPs e
      cases hPs
      simp only at e
      rw [e] at k
      refine ⟨by show 1 ≤ 1000000; decide, fun q H2 n2 s2 e2 => ?_⟩
      exact k H2 fp q r (hh.same s2) (hg.mono (Nat.le_add_right _ _)) (Frm.same s2) e2 (by show 1 ≤ 10000; decide) (Frm.ne (Frm.refl fp H) n2)
    | cons x l =>
      rw [hww] at hPs e
      simp only at e
      rw [e] at k
      cases hPs with
      | @cons p0 _ ps' _ hp0 hPs' =>
      refine ⟨by show 1 ≤ 1000000; decide, fun q1 H1 n1 s1 e1 => ?_⟩
      have c1 := c.same s1
      obtain ⟨dxw1, pw1, la1, bo1, ps1, hA1, _⟩ := c1.wr.ex
      refine ⟨_, rfl, h, HC, dx, _, _, rfl, c1.ins, T.cl, T.nWriter, rfl, wa, dxw1, _, rfl, hA1, rfl, wa, t, s.w, fpw, x, l, rfl, c1.wr, hww, fun H2 fp2 q2 hw2 f2 e2 => ?_⟩
      have g := c1.wrote f2 hw2
      have hq1 : q1 ∉ fpw := fun m => by
        obtain ⟨o, eo⟩ := c.wr.there q1 m
        rw [n1] at eo; cases eo
      have hxl : x.length ≤ 5000 := hg.pg x (by rw [hww]; exact List.mem_cons_self)
      refine ⟨q1, q2, _, _, rfl, rfl, (f2.out ⟨e1, hq1⟩).at_, e2, by rw [vb_length]; show 1 + _ ≤ _; omega, fun q3 H3 n3 s3 e3 => ?_⟩
      refine k H3 (h :: t :: (fp2 ++ fpr)) q3 r (g.1.same s3).at_ ((hg.setW (x := { s.w with waits := l }) ⟨hg.wl.small, hg.wl.len, hg.wl.body⟩ hg.fin ?_ ?_).mono (Nat.le_add_right _ _)) ?_ ?_ ?_ ?_
      · have := hg.wt
        rw [hww] at this
        show l.length ≤ 100
        have : l.length + 1 ≤ 100 := this
        omega
      · exact fun c m => hg.pg c (by rw [hww]; exact List.mem_cons_of_mem _ m)
      · rw [efp]
        exact (Frm.same s1).trans (g.2.trans (Frm.same s3))
      · rw [e3]
        show some (HO.lst ([V.int 0] ++ vb x)) = some (HO.lst (V.int 0 :: vi (LacePageSeed.nums x)))
        rw [vi_nums]
        rfl
      · show (LacePageSeed.nums x).length + 1 ≤ 10000
        rw [show (LacePageSeed.nums x).length = x.length from List.length_map ..]
        omega
      · rw [efp]
        exact Frm.ne ((Frm.same s1).trans g.2) n3
end
end Lp
end
section
set_option Elab.async false
set_option linter.all false
set_option maxRecDepth 100000
set_option maxHeartbeats 2000000
namespace Lp
open PySem PySem.Spec PyProof.Rows L2
section
variable {P : Program} {w : World} {K : PySem.W.Frag} {mg : Str → Option Value} {base : Heap} {HC WC RC PC : Addr}
abbrev sA6 : Stmt := top 59
theorem scA6 : FnScope ["holder", "numbers", "row"] ["holder", "numbers", "row"] (defScope sA6) := ⟨rfl, rfl, rfl, by decide +kernel, rfl, by decide +kernel, by decide +kernel⟩
theorem ok_a6 {f : Addr} {fd : FuncData} (F : Fun K "answer_feed" "answer_feed" sA6 f fd) (T : HTx K HC) (TR : RTx K mg RC) (A : ACs mg) (fA : Has P w K mg base 1 "are_bytes" ["row"] (spAb K)) (mF : HasM P w K mg base 7 RC "feed_bytes" ["self", "data"] (spFeed RC PC)) : FnOk P w K mg base CX0 8 f fd ["holder", "numbers", "row"] (spA HC WC RC PC 6) := by
  refine F.ok scA6 (fun vs H Q E h => ?_) (fun cdv Ar outer s H vs Q E hr h => ?_)
  · obtain ⟨h, nn, rr, s, r, N, fp, ns, row, c, rfl, _⟩ := h
    rfl
  · obtain ⟨h, nn, rr, s, r, N, fp, ns, row, c, rfl, hc, hh, hg, hN, hnn, hrr, k⟩ := h
    cases hc with
    | feed =>
    have hr1 : Room 1 _ := hr.mono (by decide)
    refine ⟨_, pss_cons (ps_if (pt_not (pt_truth (pe_has fA hr1 (pa_cons (pv 2) pa_nil)) (fun _ => rfl))) (pss_one (ps_ret (pe_lstQ (pa_cons (pe_cst A.no) pa_nil)))) pss_nil)
      (pss_one (ps_ret (pe_lstQ (pa_cons (pe_cst A.done) (pa_cons (pe_hasM mF (pe_fld (pv 0) rfl) TR.cl hr (pa_cons (pv 2) pa_nil)) pa_nil))))), ?_⟩
    have e : LacePageSeed.step s (.feed row) = if LacePageSeed.areBytes row = false then (s, LacePageSeed.no 1) else ({ s with r := (Lace.feed s.r (LacePageSeed.bytesOf row)).2 }, LacePageSeed.tells [((Lace.feed s.r (LacePageSeed.bytesOf row)).1 : Int)]) := rfl
    refine seq_test (!LacePageSeed.areBytes row) (not_of fun R hR => ⟨_, rfl, rr, row, rfl, SqL.of hrr.at_, by omega, fun H1 s1 => ⟨_, rfl, hR H1 s1⟩⟩) (fun hb H1 s1 => ?_) fun hb H1 s1 => ?_
    · rw [if_pos (bnot_t hb)] at e
      rw [e] at k
      refine ⟨by show 1 ≤ 1000000; decide, fun q H2 n2 s2 e2 => ?_⟩
      exact k H2 fp q r (hh.same (s1.trans s2)) (hg.mono (Nat.le_add_right _ _)) (Frm.same (s1.trans s2)) e2 (by show 1 ≤ 10000; decide) (Frm.ne (fp := fp) (Frm.same s1) n2)
    have hb := bnot_f hb
    rw [if_neg (by rw [hb]; simp), hg.rd, LpM.feed_eq _ r hg.ok.run] at e
    rw [e] at k
    have hvb := bytes_vi hb
    have f1 : Frm fp fp H H1 := Frm.same s1
    have hrr1 := f1.out hrr
    obtain ⟨dx, t, wa, ra, fpw, fpr, c, efp⟩ := (hh.same s1).parts
    obtain ⟨L, kp, ps, hC, efr⟩ := c.rd.ex
    have hrw : Out H1 rr (.lst (vb (LacePageSeed.bytesOf row))) fpr := ⟨by rw [← hvb]; exact hrr1.at_, fun m => hrr1.no (by rw [efp]; simp [m])⟩
    have hbl : (LacePageSeed.bytesOf row).length = row.length := bytes_len
    have hsz := hg.sz
    refine ⟨_, rfl, h, HC, dx, _, _, rfl, c.ins, T.cl, T.nReader, rfl, ra, L.dx, _, rfl, hC.ins, rfl, _, rfl, ra, t, rr, r, fpr, LacePageSeed.bytesOf row, rfl, c.rd, hrw, hg.ok.run, by omega, fun H2 fp2 hx2 f2 => ?_⟩
    have g := c.read f2 hx2
    obtain ⟨ok2, sz2⟩ := LpM.feedC_ok r (LacePageSeed.bytesOf row) hg.ok
    refine ⟨by show 2 ≤ 1000000; decide, fun q H3 n3 s3 e3 => ?_⟩
    refine k H3 (h :: t :: (fpw ++ fp2)) q _ (g.1.same s3).at_ (hg.setR rfl ok2 (by omega)) ?_ e3 (by show 2 ≤ 10000; decide) ?_
    · rw [efp] at f1 ⊢
      exact f1.trans (g.2.trans (Frm.same s3))
    · rw [efp] at f1 ⊢
      exact Frm.ne (f1.trans g.2) n3
abbrev sA7 : Stmt := top 60
theorem scA7 : FnScope ["holder", "numbers", "row"] ["holder", "numbers", "row"] (defScope sA7) := ⟨rfl, rfl, rfl, by decide +kernel, rfl, by decide +kernel, by decide +kernel⟩
theorem ok_a7 {f : Addr} {fd : FuncData} (F : Fun K "answer_close" "answer_close" sA7 f fd) (T : HTx K HC) (TR : RTx K mg RC) (A : ACs mg) (mC : HasM P w K mg base 7 RC "close_feeding" ["self"] (spCls RC PC)) : FnOk P w K mg base CX0 8 f fd ["holder", "numbers", "row"] (spA HC WC RC PC 7) := by
  refine F.ok scA7 (fun vs H Q E h => ?_) (fun cdv Ar outer s H vs Q E hr h => ?_)
  · obtain ⟨h, nn, rr, s, r, N, fp, ns, row, c, rfl, _⟩ := h
    rfl
  · obtain ⟨h, nn, rr, s, r, N, fp, ns, row, c, rfl, hc, hh, hg, hN, hnn, hrr, k⟩ := h
    cases hc with
    | close =>
    refine ⟨_, pss_cons (ps_expr (pe_hasM0 mC (pe_fld (pv 0) rfl) TR.cl hr)) (pss_one (ps_ret (pe_lstQ (pa_cons (pe_cst A.done) pa_nil)))), ?_⟩
    have e : LacePageSeed.step s .close = ({ s with r := Lace.close s.r }, LacePageSeed.tells []) := rfl
    rw [hg.rd, LpM.close_eq r hg.ok] at e
    rw [e] at k
    obtain ⟨dx, t, wa, ra, fpw, fpr, c, efp⟩ := hh.parts
    obtain ⟨L, kp, ps, hC, efr⟩ := c.rd.ex
    have hsz := hg.sz
    refine ⟨_, rfl, h, HC, dx, _, _, rfl, c.ins, T.cl, T.nReader, rfl, ra, L.dx, _, rfl, hC.ins, rfl, ra, t, r, fpr, rfl, c.rd, hg.ok.run, by omega, fun H2 fp2 hx2 f2 => ?_⟩
    have g := c.read f2 hx2
    obtain ⟨ok2, sz2⟩ := LpM.closeC_ok r hg.ok
    refine ⟨by show 1 ≤ 1000000; decide, fun q H3 n3 s3 e3 => ?_⟩
    refine k H3 (h :: t :: (fpw ++ fp2)) q _ (g.1.same s3).at_ (hg.setR rfl ok2 (by omega)) ?_ e3 (by show 1 ≤ 10000; decide) ?_
    · rw [efp]
      exact g.2.trans (Frm.same s3)
    · rw [efp]
      exact g.2.ne n3
abbrev sA8 : Stmt := top 61
theorem scA8 : FnScope ["holder", "numbers", "row"] ["holder", "numbers", "row"] (defScope sA8) := ⟨rfl, rfl, rfl, by decide +kernel, rfl, by decide +kernel, by decide +kernel⟩
theorem ok_a8 {f : Addr} {fd : FuncData} (F : Fun K "answer_waits" "answer_waits" sA8 f fd) (T : HTx K HC) (TR : RTx K mg RC) (TP : PTx K PC) (A : ACs mg) : FnOk P w K mg base CX0 8 f fd ["holder", "numbers", "row"] (spA HC WC RC PC 8) := by
  refine F.ok scA8 (fun vs H Q E h => ?_) (fun cdv Ar outer s H vs Q E hr h => ?_)
  · obtain ⟨h, nn, rr, s, r, N, fp, ns, row, c, rfl, _⟩ := h
    rfl
  · obtain ⟨h, nn, rr, s, r, N, fp, ns, row, c, rfl, hc, hh, hg, hN, hnn, hrr, k⟩ := h
    cases hc with
    | waits =>
    refine ⟨_, pss_cons (ps_if (pt_not (pt_truth (pe_fld (pe_fld (pv 0) rfl) rfl) (fun _ => rfl))) (pss_one (ps_ret (pe_lstQ (pa_cons (pe_cst A.none) pa_nil)))) pss_nil)
      (pss_one (ps_ret (pe_lstQ (pa_cons (pe_cst A.done) (pa_cons (pe_callB call_len_seq rfl A.len PySem.boot_len (pa_cons (pe_fld (pe_ix ix_list (pe_fld (pe_fld (pv 0) rfl) rfl) pe_int (fun _ _ => rfl)) rfl) pa_nil)) pa_nil))))), ?_⟩
    obtain ⟨dx, t, wa, ra, fpw, fpr, c, efp⟩ := hh.parts
    obtain ⟨L, kp, ps, hC, efr⟩ := c.rd.ex
    have e : LacePageSeed.step s .waits = (s, match s.r.waits with
      | [] => LacePageSeed.no 5
      | p :: _ => LacePageSeed.tells [(p.bytes.length : Int)]) := rfl
    have ew : s.r.waits = r.waits := by rw [hg.rd]; rfl
    rw [ew] at e
    have hpk := hC.pks
    have hpw := hC.pw
    refine ⟨_, rfl, h, HC, dx, _, _, rfl, c.ins, T.cl, T.nReader, rfl, ra, RC, L.dx, _, _, rfl, hC.ins, TR.cl, TR.nPw, rfl, _, .inl ⟨_, SqL.of hpw, rfl⟩, ?_⟩
    cases hww : r.waits with
    | nil =>
      rw [hww] at hpk e
      simp only at e
      rw [e] at k
      have hps : ps = [] := by cases hpk; rfl
      rw [hps]
      refine ⟨by show 1 ≤ 1000000; decide, fun q H2 n2 s2 e2 => ?_⟩
      exact k H2 fp q r (hh.same s2) (hg.mono (Nat.le_add_right _ _)) (Frm.same s2) e2 (by show 1 ≤ 10000; decide) (Frm.ne (Frm.refl fp H) n2)
    | cons p l =>
      rw [hww] at hpk e
      simp only at e
      rw [e] at k
      obtain ⟨v, ps', hps, hv⟩ : ∃ v ps', ps = v :: ps' ∧ PkAt PC H kp v p := by
        cases hpk with
        | @cons v _ ps' _ hv _ => exact ⟨v, ps', rfl, hv⟩
      rw [hps] at hpw ⊢
      obtain ⟨rp, dxp, lp, rfl, m1, m2, h1, h2⟩ := hv
      refine ⟨_, rfl, h, HC, dx, _, _, rfl, c.ins, T.cl, T.nReader, rfl, ra, RC, L.dx, _, _, rfl, hC.ins, TR.cl, TR.nPw, rfl, L.pw, _, _, _, rfl, rfl, SqL.of hpw, at_of (j := 0) rfl rfl, rp, PC, dxp, _, _, rfl, h1, TP.cl, TP.nBody, rfl, lp, _, rfl, .inl (SqL.of h2), by show 2 ≤ 1000000; decide, fun q H2 n2 s2 e2 => ?_⟩
      refine k H2 fp q r (hh.same s2) (hg.mono (Nat.le_add_right _ _)) (Frm.same s2) ?_ (by show 2 ≤ 10000; decide) (Frm.ne (Frm.refl fp H) n2)
      rw [e2, vb_length]
      rfl
abbrev sA9 : Stmt := top 62
theorem scA9 : FnScope ["holder", "numbers", "row", "packet"] ["holder", "numbers", "row"] (defScope sA9) := ⟨rfl, rfl, rfl, by decide +kernel, rfl, by decide +kernel, by decide +kernel⟩
theorem ok_a9 {f : Addr} {fd : FuncData} (F : Fun K "answer_next" "answer_next" sA9 f fd) (T : HTx K HC) (TR : RTx K mg RC) (TP : PTx K PC) (A : ACs mg) (mT : HasM P w K mg base 1 RC "take_waiting" ["self"] (spRtw RC PC)) : FnOk P w K mg base CX0 8 f fd ["holder", "numbers", "row"] (spA HC WC RC PC 9) := by
  refine F.ok scA9 (fun vs H Q E h => ?_) (fun cdv Ar outer s H vs Q E hr h => ?_)
  · obtain ⟨h, nn, rr, s, r, N, fp, ns, row, c, rfl, _⟩ := h
    rfl
  · obtain ⟨h, nn, rr, s, r, N, fp, ns, row, c, rfl, hc, hh, hg, hN, hnn, hrr, k⟩ := h
    cases hc with
    | next n =>
    have hr1 : Room 1 _ := hr.mono (by decide)
    refine ⟨_, pss_cons (ps_if (pt_cmpR op_lt (pe_ix ix_list (pv 1) pe_int (fun _ _ => rfl)) pe_int (nomark _)) (pss_one (ps_ret (pe_lstQ (pa_cons (pe_cst A.no) pa_nil)))) pss_nil)
      (pss_cons (ps_if (pt_not (pt_truth (pe_fld (pe_fld (pv 0) rfl) rfl) (fun _ => rfl))) (pss_one (ps_ret (pe_lstQ (pa_cons (pe_cst A.none) pa_nil)))) pss_nil)
      (pss_cons (ps_if (pt_cmpR op_gt (pe_callB call_len_seq rfl A.len PySem.boot_len (pa_cons (pe_fld (pe_ix ix_list (pe_fld (pe_fld (pv 0) rfl) rfl) pe_int (fun _ _ => rfl)) rfl) pa_nil)) (pe_ix ix_list (pv 1) pe_int (fun _ _ => rfl)) (nomark _)) (pss_one (ps_ret (pe_lstQ (pa_cons (pe_cst A.long) pa_nil)))) pss_nil)
      (pss_cons (ps_set (i := 3) scA9.nd rfl (Or.inl rfl) (pe_hasM0 mT (pe_fld (pv 0) rfl) TR.cl hr1))
      (pss_one (ps_ret (pe_op op_catQ (pe_lstQ (pa_cons (pe_cst A.done) (pa_cons (pe_fld (pv 3) rfl) (pa_cons (pe_fld (pv 3) rfl) (pa_cons (pe_fld (pv 3) rfl) pa_nil))))) (pe_fld (pv 3) rfl))))))), ?_⟩
    obtain ⟨dx, t, wa, ra, fpw, fpr, c, efp⟩ := hh.parts
    obtain ⟨L, kp, ps, hC, efr⟩ := c.rd.ex
    have e : LacePageSeed.step s (.next n) = if n < 0 then (s, LacePageSeed.no 1) else (match s.r.waits with
      | [] => (s, LacePageSeed.no 5)
      | p :: l => if n < (p.bytes.length : Int) then (s, LacePageSeed.no 2) else ({ s with r := { s.r with waits := l } }, LacePageSeed.tells (LacePageSeed.packetNums p))) := rfl
    have ew : s.r.waits = r.waits := by rw [hg.rd]; rfl
    rw [ew] at e
    have hpk := hC.pks
    have hpw := hC.pw
    refine ⟨_, rfl, nn, _, _, _, rfl, rfl, SqL.of hnn.at_, at_of (j := 0) rfl rfl, _, _, rfl, rfl, _, rfl, iteB (fun hb => ?_) fun hb => ?_⟩
    · rw [if_pos (of_decide_eq_true hb)] at e
      rw [e] at k
      refine ⟨by show 1 ≤ 1000000; decide, fun q H2 n2 s2 e2 => ?_⟩
      exact k H2 fp q r (hh.same s2) (hg.mono (Nat.le_add_right _ _)) (Frm.same s2) e2 (by show 1 ≤ 10000; decide) (Frm.ne (Frm.refl fp H) n2)
    rw [if_neg (of_decide_eq_false hb)] at e
    refine ⟨_, rfl, h, HC, dx, _, _, rfl, c.ins, T.cl, T.nReader, rfl, ra, RC, L.dx, _, _, rfl, hC.ins, TR.cl, TR.nPw, rfl, _, .inl ⟨_, SqL.of hpw, rfl⟩, ?_⟩
    cases hww : r.waits with
    | nil =>
      rw [hww] at hpk e
      simp only at e
      rw [e] at k
      have hps : ps = [] := by cases hpk; rfl
      rw [hps]
      refine ⟨by show 1 ≤ 1000000; decide, fun q H2 n2 s2 e2 => ?_⟩
      exact k H2 fp q r (hh.same s2) (hg.mono (Nat.le_add_right _ _)) (Frm.same s2) e2 (by show 1 ≤ 10000; decide) (Frm.ne (Frm.refl fp H) n2)
    | cons p l =>
      rw [hww] at hpk e
      simp only at e
      obtain ⟨v, ps', hps, hv⟩ : ∃ v ps', ps = v :: ps' ∧ PkAt PC H kp v p := by
        cases hpk with
        | @cons v _ ps' _ hv _ => exact ⟨v, ps', rfl, hv⟩
      rw [hps] at hpw ⊢
      obtain ⟨rp, dxp, lp, rfl, m1, m2, h1, h2⟩ := hv
      refine ⟨_, rfl, h, HC, dx, _, _, rfl, c.ins, T.cl, T.nReader, rfl, ra, RC, L.dx, _, _, rfl, hC.ins, TR.cl, TR.nPw, rfl, L.pw, _, _, _, rfl, rfl, SqL.of hpw, at_of (j := 0) rfl rfl, rp, PC, dxp, _, _, rfl, h1, TP.cl, TP.nBody, rfl, lp, _, rfl, .inl (SqL.of h2), _, rfl, nn, _, _, _, rfl, rfl, SqL.of hnn.at_, at_of (j := 0) rfl rfl, _, _, rfl, rfl, _, rfl, ?_⟩
      rw [vb_length]
      refine iteB (fun hb => ?_) fun hb => ?_
      · rw [if_pos (of_decide_eq_true hb)] at e
        rw [e] at k
        refine ⟨by show 1 ≤ 1000000; decide, fun q H2 n2 s2 e2 => ?_⟩
        exact k H2 fp q r (hh.same s2) (hg.mono (Nat.le_add_right _ _)) (Frm.same s2) e2 (by show 1 ≤ 10000; decide) (Frm.ne (Frm.refl fp H) n2)
      rw [if_neg (of_decide_eq_false hb)] at e
      rw [e] at k
      have hpl : p.bytes.length ≤ 8192 := hg.ok.pks p (by rw [hww]; exact List.mem_cons_self)
      refine ⟨_, rfl, h, HC, dx, _, _, rfl, c.ins, T.cl, T.nReader, rfl, ra, L.dx, _, rfl, hC.ins, rfl, ra, t, r, fpr, p, l, rfl, c.rd, hww, fun H2 r2 dx2 q2 hx2 f2 g1 g2 => ?_⟩
      have g := c.read f2 hx2
      refine ⟨_, rfl, r2, PC, dx2, _, _, rfl, g1, TP.cl, TP.nPos, rfl, _, rfl, r2, PC, dx2, _, _, rfl, g1, TP.cl, TP.nHole, rfl, _, rfl, r2, PC, dx2, _, _, rfl, g1, TP.cl, TP.nLast, rfl, by show 4 ≤ 1000000; decide, fun q3 H3 n3 s3 e3 => ?_⟩
      refine ⟨_, rfl, r2, PC, dx2, _, _, rfl, s3 _ _ g1, TP.cl, TP.nBody, rfl, q3, q2, _, _, rfl, rfl, e3, s3 _ _ g2, by rw [vb_length]; show 4 + _ ≤ _; omega, fun q4 H4 n4 s4 e4 => ?_⟩
      have hsz := hg.sz
      have s34 := s3.trans s4
      refine k H4 (h :: t :: (fpw ++ fpr)) q4 { r with waits := l } (g.1.same s34).at_ (hg.setR (by rw [hg.rd]; rfl) ⟨hg.ok.num, fun p m => hg.ok.pks p (by rw [hww]; exact List.mem_cons_of_mem _ m), hg.ok.cls⟩ ?_) ?_ ?_ ?_ ?_
      · show LpM.blen r.begun + l.length + r.un.length ≤ _
        have : LpM.sz r = LpM.blen r.begun + r.waits.length := rfl
        rw [hww] at this
        have : LpM.sz r = LpM.blen r.begun + (l.length + 1) := this
        omega
      · rw [efp]
        exact g.2.trans (Frm.same s34)
      · rw [e4]
        show some (HO.lst ([V.int 0, V.int (LacePageSeed.placeNum p.position), V.int ((p.hole.toNat : Nat) : Int), V.int ((p.last.toNat : Nat) : Int)] ++ vb p.bytes)) = some (HO.lst (V.int 0 :: V.int (LacePageSeed.placeNum p.position) :: V.int (LacePageSeed.flag p.hole) :: V.int (LacePageSeed.flag p.last) :: vi (LacePageSeed.nums p.bytes)))
        rw [vi_nums]
        cases p.hole <;> cases p.last <;> rfl
      · show (LacePageSeed.nums p.bytes).length + 3 + 1 ≤ 10000
        rw [show (LacePageSeed.nums p.bytes).length = p.bytes.length from List.length_map ..]
        omega
      · rw [efp]
        exact Frm.ne (g.2.trans (Frm.same s3)) n4
abbrev sA10 : Stmt := top 63
theorem scA10 : FnScope ["holder", "numbers", "row"] ["holder", "numbers", "row"] (defScope sA10) := ⟨rfl, rfl, rfl, by decide +kernel, rfl, by decide +kernel, by decide +kernel⟩
theorem ok_a10 {f : Addr} {fd : FuncData} (F : Fun K "answer_counts" "answer_counts" sA10 f fd) (T : HTx K HC) (TR : RTx K mg RC) (A : ACs mg) (mL : HasM P w K mg base 1 RC "list_counts" ["self"] (spLc RC PC)) : FnOk P w K mg base CX0 8 f fd ["holder", "numbers", "row"] (spA HC WC RC PC 10) := by
  refine F.ok scA10 (fun vs H Q E h => ?_) (fun cdv Ar outer s H vs Q E hr h => ?_)
  · obtain ⟨h, nn, rr, s, r, N, fp, ns, row, c, rfl, _⟩ := h
    rfl
  · obtain ⟨h, nn, rr, s, r, N, fp, ns, row, c, rfl, hc, hh, hg, hN, hnn, hrr, k⟩ := h
    cases hc with
    | counts =>
    have hr1 : Room 1 _ := hr.mono (by decide)
    refine ⟨_, pss_one (ps_ret (pe_op op_catQ (pe_lstQ (pa_cons (pe_cst A.done) pa_nil)) (pe_hasM0 mL (pe_fld (pv 0) rfl) TR.cl hr1))), ?_⟩
    have e : LacePageSeed.step s .counts = (s, LacePageSeed.tells [(s.r.taken : Int), (s.r.others : Int), (s.r.strange : Int), (s.r.passed : Int), (s.r.dropped : Int)]) := rfl
    rw [hg.rd] at e
    rw [e] at k
    obtain ⟨dx, t, wa, ra, fpw, fpr, c, efp⟩ := hh.parts
    refine ⟨by show 1 ≤ 1000000; decide, fun q1 H1 n1 s1 e1 => ?_⟩
    have c1 := c.same s1
    obtain ⟨L, kp, ps, hC, efr⟩ := c1.rd.ex
    refine ⟨_, rfl, h, HC, dx, _, _, rfl, c1.ins, T.cl, T.nReader, rfl, ra, L.dx, _, rfl, hC.ins, rfl, ra, t, r, fpr, rfl, c1.rd, fun H2 q2 s2 n2 e2 => ?_⟩
    refine ⟨q1, q2, _, _, rfl, rfl, s2 _ _ e1, e2, by show 1 + 5 ≤ 1000000; decide, fun q3 H3 n3 s3 e3 => ?_⟩
    have s123 := (s1.trans s2).trans s3
    exact k H3 fp q3 r (hh.same s123) (hg.mono (Nat.le_add_right _ _)) (Frm.same s123) e3 (by show 6 ≤ 10000; decide) (Frm.ne (fp := fp) (Frm.same (s1.trans s2)) n3)
abbrev sA11 : Stmt := top 64
theorem scA11 : FnScope ["holder", "numbers", "row"] ["holder", "numbers", "row"] (defScope sA11) := ⟨rfl, rfl, rfl, by decide +kernel, rfl, by decide +kernel, by decide +kernel⟩
theorem ok_a11 {f : Addr} {fd : FuncData} (F : Fun K "answer_sum" "answer_sum" sA11 f fd) (T : HTx K HC) (A : ACs mg) (fA : Has P w K mg base 1 "are_bytes" ["row"] (spAb K)) (fS : Has P w K mg base 1 "sum_of_bytes" ["table", "data"] (spSum K)) : FnOk P w K mg base CX0 8 f fd ["holder", "numbers", "row"] (spA HC WC RC PC 11) := by
  refine F.ok scA11 (fun vs H Q E h => ?_) (fun cdv Ar outer s H vs Q E hr h => ?_)
  · obtain ⟨h, nn, rr, s, r, N, fp, ns, row, c, rfl, _⟩ := h
    rfl
  · obtain ⟨h, nn, rr, s, r, N, fp, ns, row, c, rfl, hc, hh, hg, hN, hnn, hrr, k⟩ := h
    cases hc with
    | sum =>
    have hr1 : Room 1 _ := hr.mono (by decide)
    refine ⟨_, pss_cons (ps_if (pt_not (pt_truth (pe_has fA hr1 (pa_cons (pv 2) pa_nil)) (fun _ => rfl))) (pss_one (ps_ret (pe_lstQ (pa_cons (pe_cst A.no) pa_nil)))) pss_nil)
      (pss_one (ps_ret (pe_lstQ (pa_cons (pe_cst A.done) (pa_cons (pe_has fS hr1 (pa_cons (pe_fld (pv 0) rfl) (pa_cons (pv 2) pa_nil))) pa_nil))))), ?_⟩
    have e : LacePageSeed.step s (.sum row) = (s, if LacePageSeed.areBytes row = false then LacePageSeed.no 1 else LacePageSeed.tells [(Lace.sum (LacePageSeed.bytesOf row) : Int)]) := rfl
    refine seq_test (!LacePageSeed.areBytes row) (not_of fun R hR => ⟨_, rfl, rr, row, rfl, SqL.of hrr.at_, by omega, fun H1 s1 => ⟨_, rfl, hR H1 s1⟩⟩) (fun hb H1 s1 => ?_) fun hb H1 s1 => ?_
    · rw [if_pos (bnot_t hb)] at e
      rw [e] at k
      refine ⟨by show 1 ≤ 1000000; decide, fun q H2 n2 s2 e2 => ?_⟩
      exact k H2 fp q r (hh.same (s1.trans s2)) (hg.mono (Nat.le_add_right _ _)) (Frm.same (s1.trans s2)) e2 (by show 1 ≤ 10000; decide) (Frm.ne (fp := fp) (Frm.same s1) n2)
    have hb := bnot_f hb
    rw [if_neg (by rw [hb]; simp)] at e
    rw [e] at k
    have hvb := bytes_vi hb
    have hrr1 : H1 rr = some (.lst (vb (LacePageSeed.bytesOf row))) := by rw [← hvb]; exact s1 _ _ hrr.at_
    obtain ⟨dx, t, wa, ra, fpw, fpr, c, efp⟩ := (hh.same s1).parts
    refine ⟨_, rfl, h, HC, dx, _, _, rfl, c.ins, T.cl, T.nTable, rfl, _, rfl, t, rr, _, rfl, SqL.of c.tab, SqL.of hrr1, by show 2 ≤ 1000000; decide, fun q H2 n2 s2 e2 => ?_⟩
    exact k H2 fp q r (hh.same (s1.trans s2)) (hg.mono (Nat.le_add_right _ _)) (Frm.same (s1.trans s2)) e2 (by show 2 ≤ 10000; decide) (Frm.ne (fp := fp) (Frm.same s1) n2)
abbrev sA12 : Stmt := top 65
theorem scA12 : FnScope ["holder", "numbers", "row"] ["holder", "numbers", "row"] (defScope sA12) := ⟨rfl, rfl, rfl, by decide +kernel, rfl, by decide +kernel, by decide +kernel⟩
theorem ok_a12 {f : Addr} {fd : FuncData} (F : Fun K "answer_check" "answer_check" sA12 f fd) (T : HTx K HC) (A : ACs mg) (fA : Has P w K mg base 1 "are_bytes" ["row"] (spAb K)) (fJ : Has P w K mg base 3 "judge" ["table", "data", "start"] (spJud K)) : FnOk P w K mg base CX0 8 f fd ["holder", "numbers", "row"] (spA HC WC RC PC 12) := by
  refine F.ok scA12 (fun vs H Q E h => ?_) (fun cdv Ar outer s H vs Q E hr h => ?_)
  · obtain ⟨h, nn, rr, s, r, N, fp, ns, row, c, rfl, _⟩ := h
    rfl
  · obtain ⟨h, nn, rr, s, r, N, fp, ns, row, c, rfl, hc, hh, hg, hN, hnn, hrr, k⟩ := h
    cases hc with
    | check =>
    have hr1 : Room 1 _ := hr.mono (by decide)
    have hr3 : Room 3 _ := hr.mono (by decide)
    refine ⟨_, pss_cons (ps_if (pt_not (pt_truth (pe_has fA hr1 (pa_cons (pv 2) pa_nil)) (fun _ => rfl))) (pss_one (ps_ret (pe_lstQ (pa_cons (pe_cst A.no) pa_nil)))) pss_nil)
      (pss_one (ps_ret (pe_lstQ (pa_cons (pe_cst A.done) (pa_cons (pe_has fJ hr3 (pa_cons (pe_fld (pv 0) rfl) (pa_cons (pv 2) (pa_cons pe_int pa_nil)))) pa_nil))))), ?_⟩
    have e : LacePageSeed.step s (.check row) = (s, if LacePageSeed.areBytes row = false then LacePageSeed.no 1 else match Lace.judge (LacePageSeed.bytesOf row) with
      | .page n => LacePageSeed.tells [(n : Int)]
      | .short => LacePageSeed.tells [0]
      | .wrong => LacePageSeed.tells [-1]) := rfl
    refine seq_test (!LacePageSeed.areBytes row) (not_of fun R hR => ⟨_, rfl, rr, row, rfl, SqL.of hrr.at_, by omega, fun H1 s1 => ⟨_, rfl, hR H1 s1⟩⟩) (fun hb H1 s1 => ?_) fun hb H1 s1 => ?_
    · rw [if_pos (bnot_t hb)] at e
      rw [e] at k
      refine ⟨by show 1 ≤ 1000000; decide, fun q H2 n2 s2 e2 => ?_⟩
      exact k H2 fp q r (hh.same (s1.trans s2)) (hg.mono (Nat.le_add_right _ _)) (Frm.same (s1.trans s2)) e2 (by show 1 ≤ 10000; decide) (Frm.ne (fp := fp) (Frm.same s1) n2)
    have hb := bnot_f hb
    have e : LacePageSeed.step s (.check row) = (s, LacePageSeed.tells [LpM.jv (Lace.judge (LacePageSeed.bytesOf row))]) := by
      rw [e, if_neg (by rw [hb]; simp)]
      cases Lace.judge (LacePageSeed.bytesOf row) <;> rfl
    rw [e] at k
    have hvb := bytes_vi hb
    have hrr1 : H1 rr = some (.lst (vb (LacePageSeed.bytesOf row))) := by rw [← hvb]; exact s1 _ _ hrr.at_
    have hbl : (LacePageSeed.bytesOf row).length = row.length := bytes_len
    obtain ⟨dx, t, wa, ra, fpw, fpr, c, efp⟩ := (hh.same s1).parts
    refine ⟨_, rfl, h, HC, dx, _, _, rfl, c.ins, T.cl, T.nTable, rfl, _, rfl, t, rr, _, 0, rfl, SqL.of c.tab, SqL.of hrr1, Nat.zero_le _, by omega, fun H3 s3 => ⟨by show 2 ≤ 1000000; decide, fun q H2 n2 s2 e2 => ?_⟩⟩
    have st := (s1.trans s3).trans s2
    exact k H2 fp q r (hh.same st) (hg.mono (Nat.le_add_right _ _)) (Frm.same st) e2 (by show 2 ≤ 10000; decide) (Frm.ne (fp := fp) (Frm.same (s1.trans s3)) n2)
end
end Lp
end
section
set_option Elab.async false
set_option linter.all false
set_option maxRecDepth 100000
namespace Lp
def nn : Nat → Nat
  | 1 => 1 | 2 => 2 | 5 => 1 | 9 => 1 | _ => 0
def rn : Nat → Nat
  | 2 => 1 | 6 => 1 | 11 => 1 | 12 => 1 | _ => 0
def Rest (l : List Int) (i j : Nat) (row : List Int) (beh : Nat) : Prop :=
  (rn j = 0 ∧ row = [] ∧ beh = i + 1 + nn j) ∨ (rn j = 1 ∧ ∃ m : Nat, l[i + 1 + nn j]? = some (m : Int) ∧ row = (l.drop (i + 1 + nn j + 1)).take m ∧ beh = i + 1 + nn j + 1 + m)
structure OneCall (l : List Int) (i j : Nat) (ns row : List Int) (beh : Nat) (c : List (List Int)) (sc : LacePageSeed.Call) : Prop where
  lo : 1 ≤ j
  hi : j ≤ 12
  at_ : l[i]? = some (j : Int)
  nns : ns = (l.drop (i + 1)).take (nn j)
  rest : Rest l i j row beh
  len : beh ≤ l.length
  big : i < beh
  rlen : row.length + i ≤ beh
  is : IsCall j ns row sc
  of : PageNeutral.callOf (PyWqadan.whole c) = some sc
theorem shape_some {p : Int} {n k : Nat} (h : PyWqadan.shape p = some (n, k)) : ∃ j : Nat, p = (j : Int) ∧ 1 ≤ j ∧ j ≤ 12 ∧ n = nn j ∧ k = rn j := by
  unfold PyWqadan.shape at h
  by_cases e1 : p = 1
  · rw [if_pos e1] at h
    injection h with h
    injection h with h1 h2
    exact ⟨1, e1, by decide, by decide, h1.symm, h2.symm⟩
  rw [if_neg e1] at h
  by_cases e2 : p = 2
  · rw [if_pos e2] at h
    injection h with h
    injection h with h1 h2
    exact ⟨2, e2, by decide, by decide, h1.symm, h2.symm⟩
  rw [if_neg e2] at h
  by_cases e3 : p = 3
  · rw [if_pos e3] at h
    injection h with h
    injection h with h1 h2
    exact ⟨3, e3, by decide, by decide, h1.symm, h2.symm⟩
  rw [if_neg e3] at h
  by_cases e4 : p = 4
  · rw [if_pos e4] at h
    injection h with h
    injection h with h1 h2
    exact ⟨4, e4, by decide, by decide, h1.symm, h2.symm⟩
  rw [if_neg e4] at h
  by_cases e5 : p = 5
  · rw [if_pos e5] at h
    injection h with h
    injection h with h1 h2
    exact ⟨5, e5, by decide, by decide, h1.symm, h2.symm⟩
  rw [if_neg e5] at h
  by_cases e6 : p = 6
  · rw [if_pos e6] at h
    injection h with h
    injection h with h1 h2
    exact ⟨6, e6, by decide, by decide, h1.symm, h2.symm⟩
  rw [if_neg e6] at h
  by_cases e7 : p = 7
  · rw [if_pos e7] at h
    injection h with h
    injection h with h1 h2
    exact ⟨7, e7, by decide, by decide, h1.symm, h2.symm⟩
  rw [if_neg e7] at h
  by_cases e8 : p = 8
  · rw [if_pos e8] at h
    injection h with h
    injection h with h1 h2
    exact ⟨8, e8, by decide, by decide, h1.symm, h2.symm⟩
  rw [if_neg e8] at h
  by_cases e9 : p = 9
  · rw [if_pos e9] at h
    injection h with h
    injection h with h1 h2
    exact ⟨9, e9, by decide, by decide, h1.symm, h2.symm⟩
  rw [if_neg e9] at h
  by_cases e10 : p = 10
  · rw [if_pos e10] at h
    injection h with h
    injection h with h1 h2
    exact ⟨10, e10, by decide, by decide, h1.symm, h2.symm⟩
  rw [if_neg e10] at h
  by_cases e11 : p = 11
  · rw [if_pos e11] at h
    injection h with h
    injection h with h1 h2
    exact ⟨11, e11, by decide, by decide, h1.symm, h2.symm⟩
  rw [if_neg e11] at h
  by_cases e12 : p = 12
  · rw [if_pos e12] at h
    injection h with h
    injection h with h1 h2
    exact ⟨12, e12, by decide, by decide, h1.symm, h2.symm⟩
  rw [if_neg e12] at h
  cases h
theorem row_some {l x t : List Int} (h : PyFlat.row l = some (x, t)) : ∃ m : Nat, l[0]? = some (m : Int) ∧ m + 1 ≤ l.length ∧ x = (l.drop 1).take m ∧ t = l.drop (1 + m) := by
  cases l with
  | nil => cases h
  | cons n r =>
    have h : (if 0 ≤ n ∧ n.toNat ≤ r.length then some (r.take n.toNat, r.drop n.toNat) else none) = some (x, t) := h
    by_cases g : 0 ≤ n ∧ n.toNat ≤ r.length
    · rw [if_pos g] at h
      injection h with h
      injection h with h1 h2
      refine ⟨n.toNat, ?_, ?_, ?_, ?_⟩
      · show some n = _
        rw [show ((n.toNat : Nat) : Int) = n by omega]
      · show _ ≤ r.length + 1
        omega
      · rw [← h1]; rfl
      · rw [← h2, Nat.add_comm]; rfl
    · rw [if_neg g] at h
      cases h
theorem is_call {j : Nat} (h1 : 1 ≤ j) (h12 : j ≤ 12) {ns row : List Int} (hn : ns.length = nn j) : (rn j = 0 → ∃ sc, IsCall j ns row sc ∧ PageNeutral.callOf (PyWqadan.whole [(j : Int) :: ns]) = some sc) ∧ (rn j = 1 → ∃ sc, IsCall j ns row sc ∧ PageNeutral.callOf (PyWqadan.whole [(j : Int) :: ns, row]) = some sc) := by
  have hj : j = 1 ∨ j = 2 ∨ j = 3 ∨ j = 4 ∨ j = 5 ∨ j = 6 ∨ j = 7 ∨ j = 8 ∨ j = 9 ∨ j = 10 ∨ j = 11 ∨ j = 12 := by omega
  rcases hj with rfl | rfl | rfl | rfl | rfl | rfl | rfl | rfl | rfl | rfl | rfl | rfl
  · obtain ⟨x, rfl⟩ := List.length_eq_one_iff.mp hn
    exact ⟨fun _ => ⟨_, .writer x row, rfl⟩, fun z => absurd z (by decide)⟩
  · match ns, hn with
    | [x, y], _ => exact ⟨fun z => absurd z (by decide), fun _ => ⟨_, .put x y row, rfl⟩⟩
  · cases List.length_eq_zero_iff.mp hn
    exact ⟨fun _ => ⟨_, .flush row, rfl⟩, fun z => absurd z (by decide)⟩
  · cases List.length_eq_zero_iff.mp hn
    exact ⟨fun _ => ⟨_, .page row, rfl⟩, fun z => absurd z (by decide)⟩
  · obtain ⟨x, rfl⟩ := List.length_eq_one_iff.mp hn
    exact ⟨fun _ => ⟨_, .reader x row, rfl⟩, fun z => absurd z (by decide)⟩
  · cases List.length_eq_zero_iff.mp hn
    exact ⟨fun z => absurd z (by decide), fun _ => ⟨_, .feed row, rfl⟩⟩
  · cases List.length_eq_zero_iff.mp hn
    exact ⟨fun _ => ⟨_, .close row, rfl⟩, fun z => absurd z (by decide)⟩
  · cases List.length_eq_zero_iff.mp hn
    exact ⟨fun _ => ⟨_, .waits row, rfl⟩, fun z => absurd z (by decide)⟩
  · obtain ⟨x, rfl⟩ := List.length_eq_one_iff.mp hn
    exact ⟨fun _ => ⟨_, .next x row, rfl⟩, fun z => absurd z (by decide)⟩
  · cases List.length_eq_zero_iff.mp hn
    exact ⟨fun _ => ⟨_, .counts row, rfl⟩, fun z => absurd z (by decide)⟩
  · cases List.length_eq_zero_iff.mp hn
    exact ⟨fun z => absurd z (by decide), fun _ => ⟨_, .sum row, rfl⟩⟩
  · cases List.length_eq_zero_iff.mp hn
    exact ⟨fun z => absurd z (by decide), fun _ => ⟨_, .check row, rfl⟩⟩
theorem rn_01 (j : Nat) : rn j = 0 ∨ rn j = 1 := by
  unfold rn
  split <;> simp
theorem calls_step {l : List Int} {i fuel : Nat} {cs : List (List (List Int))} (hi : i < l.length) (h : PyFlat.calls PyWqadan.shape fuel (l.drop i) = some cs) :
    ∃ (j : Nat) (ns row : List Int) (beh : Nat) (c : List (List Int)) (sc : LacePageSeed.Call) (cs' : List (List (List Int))) (fuel' : Nat), OneCall l i j ns row beh c sc ∧ cs = c :: cs' ∧ PyFlat.calls PyWqadan.shape fuel' (l.drop beh) = some cs' := by
  obtain ⟨p, hp⟩ : ∃ p, l[i]? = some p := ⟨_, List.getElem?_eq_getElem hi⟩
  rw [LpM.drop_at hp] at h
  cases fuel with
  | zero => cases h
  | succ f =>
    have h : (match PyFlat.call PyWqadan.shape (p :: l.drop (i + 1)) with
      | none => none
      | some (c, t) => match PyFlat.calls PyWqadan.shape f t with
        | none => none
        | some cs => some (c :: cs)) = some cs := h
    cases hc : PyFlat.call PyWqadan.shape (p :: l.drop (i + 1)) with
    | none => rw [hc] at h; cases h
    | some ct =>
      obtain ⟨c, t⟩ := ct
      rw [hc] at h
      simp only at h
      cases hcs : PyFlat.calls PyWqadan.shape f t with
      | none => rw [hcs] at h; cases h
      | some cs' =>
        rw [hcs] at h
        injection h with hfin
        have hc : (match PyWqadan.shape p with
          | none => none
          | some (n, k) => if (l.drop (i + 1)).length < n then none else match PyFlat.rows k ((l.drop (i + 1)).drop n) with
            | none => none
            | some (xs, t) => some ((p :: (l.drop (i + 1)).take n) :: xs, t)) = some (c, t) := hc
        cases hs : PyWqadan.shape p with
        | none => rw [hs] at hc; cases hc
        | some nk =>
          obtain ⟨n, k⟩ := nk
          rw [hs] at hc
          simp only at hc
          obtain ⟨j, rfl, h1, h12, rfl, rfl⟩ := shape_some hs
          by_cases hl : (l.drop (i + 1)).length < nn j
          · rw [if_pos hl] at hc; cases hc
          rw [if_neg hl] at hc
          have hl2 := hl
          rw [List.length_drop] at hl2
          have hns : ((l.drop (i + 1)).take (nn j)).length = nn j := by rw [List.length_take, List.length_drop]; omega
          rw [List.drop_drop] at hc
          rcases rn_01 j with hr | hr
          · rw [hr] at hc
            have hc : some (((j : Int) :: (l.drop (i + 1)).take (nn j)) :: [], l.drop (i + 1 + nn j)) = some (c, t) := hc
            injection hc with hc
            injection hc with hc1 hc2
            obtain ⟨sc, hsc, hof⟩ := (is_call (row := []) h1 h12 hns).1 hr
            refine ⟨j, (l.drop (i + 1)).take (nn j), [], i + 1 + nn j, c, sc, cs', f, ⟨h1, h12, hp, rfl, .inl ⟨hr, rfl, rfl⟩, by omega, by omega, by show 0 + i ≤ _; omega, hsc, by rw [← hc1]; exact hof⟩, hfin.symm, ?_⟩
            rw [hc2]
            exact hcs
          · rw [hr] at hc
            have hc : (match PyFlat.row (l.drop (i + 1 + nn j)) with
              | none => none
              | some (x, s) => match (some ([], s) : Option (List (List Int) × List Int)) with
                | none => none
                | some (xs, t) => some (x :: xs, t)) = none → False := fun z => by
              have hc' : (match (match PyFlat.row (l.drop (i + 1 + nn j)) with
                | none => none
                | some (x, s) => match (some ([], s) : Option (List (List Int) × List Int)) with
                  | none => none
                  | some (xs, t) => some (x :: xs, t)) with
                | none => none
                | some (xs, t) => some (((j : Int) :: (l.drop (i + 1)).take (nn j)) :: xs, t)) = some (c, t) := hc
              rw [z] at hc'
              cases hc'
            cases hrow : PyFlat.row (l.drop (i + 1 + nn j)) with
            | none => exact absurd (by rw [hrow]) hc
            | some xs =>
              obtain ⟨x, s⟩ := xs
              rename_i hc0
              have hc1 : some (((j : Int) :: (l.drop (i + 1)).take (nn j)) :: [x], s) = some (c, t) := by
                have hc' : (match (match PyFlat.row (l.drop (i + 1 + nn j)) with
                  | none => none
                  | some (x, s) => match (some ([], s) : Option (List (List Int) × List Int)) with
                    | none => none
                    | some (xs, t) => some (x :: xs, t)) with
                  | none => none
                  | some (xs, t) => some (((j : Int) :: (l.drop (i + 1)).take (nn j)) :: xs, t)) = some (c, t) := hc0
                rw [hrow] at hc'
                exact hc'
              injection hc1 with hc1
              injection hc1 with hc1 hc2
              obtain ⟨m, e1, e2, e3, e4⟩ := row_some hrow
              rw [List.getElem?_drop, Nat.add_zero] at e1
              rw [List.length_drop] at e2
              rw [List.drop_drop] at e3 e4
              obtain ⟨sc, hsc, hof⟩ := (is_call (row := x) h1 h12 hns).2 hr
              refine ⟨j, (l.drop (i + 1)).take (nn j), x, i + 1 + nn j + 1 + m, c, sc, cs', f, ⟨h1, h12, hp, rfl, .inr ⟨hr, m, e1, e3, rfl⟩, by omega, by omega, ?_, hsc, by rw [← hc1]; exact hof⟩, hfin.symm, ?_⟩
              · rw [e3, List.length_take]
                omega
              · rw [show i + 1 + nn j + 1 + m = i + 1 + nn j + (1 + m) by omega, ← e4, hc2]
                exact hcs
theorem calls_nil {fuel : Nat} {cs : List (List (List Int))} (h : PyFlat.calls PyWqadan.shape fuel [] = some cs) : cs = [] := by
  cases fuel <;> (injection h with h; exact h.symm)
end Lp
end
section
set_option Elab.async false
set_option linter.all false
set_option maxRecDepth 100000
set_option maxHeartbeats 2000000
namespace Lp
open PySem PySem.Spec PyProof.Rows L2
def KGet (K : PySem.W.Frag) (a : Addr) (k : Int) (v : V) : Prop := ∃ (o : Obj) (es : Array DictEntry) (ep : Nat) (u : Value), K.lookup a = some o ∧ o.ExactDict ∧ o.data = .dict es ep ∧ (∀ e ∈ es, ∃ k, Value.isInt k e.key = true ∧ e.hash = hashInt k) ∧ findBy Value.isInt es k = some u ∧ RelV v u
structure HasF (P : Program) (w : World) (K : PySem.W.Frag) (mg : Str → Option Value) (base : Heap) (k : Nat) (f : Addr) (ps : List Str) (sp : Sp) : Prop where
  ex : ∃ fd : FuncData, PySem.W.keepIn K (.ref f) = true ∧ Binds K fd ps [] ∧ FnOk P w K mg base CX0 k f fd ps sp
section
variable {X : Cx} {x : Str} {p pos : Pos} {i func e : Expr} {es : List Expr} {ti t0 : TE} {t : TA} {a : Addr} {k : Nat} {ps : List Str}
def tKGet (K : PySem.W.Frag) (a : Addr) (ti : TE) : TE := fun σ H Q => ti σ H fun y H1 => ∃ k v, y = .int k ∧ KGet K a k v ∧ Q v H1
theorem pe_kget (hm : X.mg x = some (.ref a)) (hi : PE X i ti) (hs : NoSl i) (hg : Gl X x := by rfl) (hd : (x == ("__debug__" : Str)) = false := by decide) : PE X (.Subscript (.Name x p) i pos) (tKGet X.K a ti) := by
  intro pins s σ H Q I h
  have ho : PE X (.Name x p) (tC (.ref a)) := pe_glob hg hm rfl hd
  refine subD_of PySem.F.slot_dict_getitem.lookup hs (thn (ho pins s σ H (fun v H1 => v = .ref a ∧ tKGet X.K a ti σ H1 Q) I ⟨rfl, h⟩) fun u s1 ⟨y, H1, I1, ry, ey, q1⟩ => thn (hi pins s1 σ H1 _ I1 q1) fun iv s2 ⟨z, H2, I2, rz, k, v, ez, hk, q2⟩ => ?_)
  subst ey
  subst ez
  obtain rfl : u = Value.ref a := ry
  obtain ⟨tk, rfl⟩ := (show ∃ t, iv = Value.int k t from rz)
  obtain ⟨o, es, ep, w', lk, ex, dt, ks, fb, rw'⟩ := hk
  have hM : s2.heap.MapOf (intKind X.prog X.w) a (fun k => findBy Value.isInt es k) := ⟨o, es, ep, I2.kIn a o lk, ex, dt, ks, fun _ => rfl⟩
  exact ⟨hM.typeIs, wpAny_getItem_of (knd := intKind X.prog X.w) (k := k) (by show Value.isInt k (.int k tk) = true; simp [Value.isInt]) hM fb ⟨v, H2, I2.tok _, rw', q2⟩⟩
def tCallV (P : Program) (w : World) (K : PySem.W.Frag) (mg : Str → Option Value) (base : Heap) (k : Nat) (ps : List Str) (t0 : TE) (t : TA) : TE := fun σ H Q => t0 σ H fun x H1 => ∃ (f : Addr) (sp : Sp), x = .ref f ∧ HasF P w K mg base k f ps sp ∧ t σ H1 fun vs H2 => sp (vs ++ []) H2 Q E0
theorem pe_callV (hf : PE X func t0) (hr : Room k X.A) (ha : PA X (e :: es) t)
    (hev : eval (.Call func (e :: es) [] pos) X.env = (do callWith pos (← eval func X.env) [] (backTo pos (starEach (e :: es) X.env)) (backToKw pos (keywordEach [] X.env))) := by rfl)
    (he : starEach (e :: es) X.env = (false, eval e X.env) :: starEach es X.env := by rfl) (hpl : (backTo pos (starEach es X.env)).any (·.1) = false := by rfl) : PE X (.Call func (e :: es) [] pos) (tCallV X.prog X.w X.K X.mg X.base k ps t0 t) := by
  intro pins s σ H Q I h
  refine Call_ (thn (hf pins s σ H _ I h) fun u s1 ⟨x, H1, I1, rx, f, sp, ex, hF, q⟩ => ?_) hev
  subst ex
  obtain rfl : u = Value.ref f := rx
  obtain ⟨fd, kp, b, F⟩ := hF.ex
  refine PySem.W.callWith_K (h₀ := X.base) I1.ok.mod.kin kp (thn (ha pos pins s1 σ H1 _ I1 q) fun us s2 ⟨vs, H2, I2, r, q2⟩ => ⟨I2.kIn, ?_⟩) he hpl
  exact run_fn F hr b .nil pass0 I2 r q2
end
def cF (n b : Int) (na ra : Addr) : List (Str × V) := [(("number" : Str), .int n), (("behind" : Str), .int b), (("numbers" : Str), .ref na), (("row" : Str), .ref ra)]
structure CTx (K : PySem.W.Frag) (C : Addr) : Prop where
  cl : Cls K C
  nNumber : NoAttr K C "number"
  nBehind : NoAttr K C "behind"
  nNumbers : NoAttr K C "numbers"
  nRow : NoAttr K C "row"
def Shapes (K : PySem.W.Frag) (mg : Str → Option Value) : Prop := ∃ a : Addr, mg "SHAPES" = some (.ref a) ∧ ∀ j : Nat, 1 ≤ j → j ≤ 12 → ∃ tj : Addr, KGet K a (j : Int) (.ref tj) ∧ ∀ H : Hp, SqT K H tj [.int (nn j : Nat), .int (rn j : Nat)]
theorem vi_take (l : List Int) (n : Nat) : vi (l.take n) = (vi l).take n := List.map_take ..
theorem vi_drop (l : List Int) (n : Nat) : vi (l.drop n) = (vi l).drop n := List.map_drop ..
theorem cuti (l : List Int) {z y : Int} (i j : Nat) (h1 : z = (i : Int)) (h2 : y = (j : Int)) : cutV (vi l) (some z) (some y) = vi ((l.drop i).take (j - i)) := by
  rw [h1, h2, cut_nn, vi_take, vi_drop]
section
variable {P : Program} {w : World} {K : PySem.W.Frag} {mg : Str → Option Value} {base : Heap} {CC : Addr}
abbrev sCi : Stmt := inClass (top 68) 0
def spCi (K : PySem.W.Frag) (CC : Addr) : Sp := fun vs H Q _ => ∃ (p dx a : Addr) (l : List Int) (i j : Nat) (ns row : List Int) (beh : Nat), vs = [.ref p, .ref a, .int (i : Int)] ∧ H p = some (.ins CC dx []) ∧ SqL K H a (vi l) ∧ l.length ≤ 100000 ∧ 1 ≤ j ∧ j ≤ 12 ∧ l[i]? = some (j : Int) ∧ ns = (l.drop (i + 1)).take (nn j) ∧ Rest l i j row beh ∧ beh ≤ l.length ∧
  ∀ (H' : Hp) (na ra : Addr), H' p = some (.ins CC dx (cF j beh na ra)) → H na = none → H ra = none → H' na = some (.lst (vi ns)) → H' ra = some (.lst (vi row)) → (∀ b o, H b = some o → b ≠ p → H' b = some o) → Q .non H'
theorem scCi : FnScope ["self", "calls", "place", "shape", "row_begin", "row_end"] ["self", "calls", "place"] (defScope sCi) := ⟨rfl, rfl, rfl, by decide +kernel, rfl, by decide +kernel, by decide +kernel⟩
theorem SqL.keep_ {H H' : Hp} {a p : Addr} {xs : List V} (h : SqL K H a xs) (n : ∀ C dx fs, H p = some (.ins C dx fs) → True) (k : ∀ b o, H b = some o → b ≠ p → H' b = some o) (hp : ∃ C dx fs, H p = some (HO.ins C dx fs)) : SqL K H' a xs := by
  obtain ⟨C, dx, fs, hp⟩ := hp
  rcases h with (h | ⟨o, h⟩) | h
  · exact .inl (.inl (k _ _ h (ne_of h hp (by intro z; cases z))))
  · exact .inl (.inr ⟨o, k _ _ h (ne_of h hp (by intro z; cases z))⟩)
  · exact .inr h
theorem ok_ci {f : Addr} {fd : FuncData} (F : Fun K "__init__" "Call.__init__" sCi f fd) (T : CTx K CC) (hS : Shapes K mg) : FnOk P w K mg base CX0 1 f fd ["self", "calls", "place"] (spCi K CC) := by
  refine F.ok scCi (fun vs H Q E h => ?_) (fun cdv Ar outer s H vs Q E hr h => ?_)
  · obtain ⟨p, dx, a, l, i, j, ns, row, beh, rfl, _⟩ := h
    rfl
  · obtain ⟨p, dx, a, l, i, j, ns, row, beh, rfl, hp, ha, hlen, h1, h12, hj, hns, hrest, hbl, k⟩ := h
    obtain ⟨aS, hmS, hsh⟩ := hS
    obtain ⟨tj, hkt, hsq⟩ := hsh j h1 h12
    refine ⟨_, pss_cons (ps_fld (pv 0) (pe_ix ix_list (pv 1) (pv 2) (fun _ _ => rfl)) rfl)
      (pss_cons (ps_set (i := 3) scCi.nd rfl (Or.inl rfl) (pe_kget hmS (pe_fld (pv 0) rfl) (fun _ _ => rfl)))
      (pss_cons (ps_fld (pv 0) (pe_op op_add (pe_op op_add (pv 2) pe_int) (pe_ix ix_tup (pv 3) pe_int (fun _ _ => rfl))) rfl)
      (pss_cons (ps_fld (pv 0) (pe_slice sl_Q (pv 1) (po_some (pe_op op_add (pv 2) pe_int)) (po_some (pe_fld (pv 0) rfl))) rfl)
      (pss_cons (ps_fld (pv 0) (pe_lstQ pa_nil) rfl)
      (pss_one (ps_if (pt_cmpR op_eq (pe_ix ix_tup (pv 3) pe_int (fun _ _ => rfl)) pe_int (nomark _))
        (pss_cons (ps_set (i := 4) scCi.nd rfl (Or.inl rfl) (pe_op op_add (pe_fld (pv 0) rfl) pe_int))
        (pss_cons (ps_set (i := 5) scCi.nd rfl (Or.inl rfl) (pe_op op_add (pv 4) (pe_ix ix_list (pv 1) (pe_fld (pv 0) rfl) (fun _ _ => rfl))))
        (pss_cons (ps_fld (pv 0) (pe_slice sl_Q (pv 1) (po_some (pv 4)) (po_some (pv 5))) rfl)
        (pss_one (ps_fld (pv 0) (pv 5) rfl))))) pss_nil)))))), ?_⟩
    -- self.number
    refine ⟨_, rfl, _, rfl, a, _, _, _, rfl, rfl, ha, at_of (j := i) rfl (vi_at hj), _, rfl, p, CC, dx, _, rfl, hp, T.cl, T.nNumber, by decide, ?_⟩
    -- shape
    refine ⟨_, rfl, p, CC, dx, _, _, rfl, upd_same, T.cl, T.nNumber, rfl, _, _, rfl, hkt, ?_⟩
    -- self.behind
    refine ⟨_, rfl, _, _, rfl, rfl, _, rfl, tj, _, _, _, rfl, rfl, hsq _, at_of (j := 0) rfl rfl, _, _, rfl, rfl, _, rfl, p, CC, dx, _, rfl, upd_same, T.cl, T.nBehind, by show 1 < 1000; decide, ?_⟩
    rw [upd_upd]
    have hA2 : ∀ o : HO, SqL K (upd H p o) a (vi l) := fun o => SqL.keep_ ha (fun _ _ _ _ => trivial) (fun b u e n => by rw [upd_ne n]; exact e) ⟨_, _, _, hp⟩
    -- self.numbers
    refine ⟨_, rfl, _, rfl, _, _, rfl, rfl, _, rfl, _, rfl, p, CC, dx, _, _, rfl, upd_same, T.cl, T.nBehind, rfl, _, rfl, a, vi l, rfl, hA2 _, fun na H3 n3 s3 e3 => ?_⟩
    obtain ⟨nap, nan⟩ := upd_none n3
    rw [cuti l (i + 1) (i + 1 + nn j) (by omega) (by omega), Nat.add_sub_cancel_left, ← hns] at e3
    refine ⟨_, rfl, p, CC, dx, _, rfl, s3 _ _ upd_same, T.cl, T.nNumbers, by show 2 < 1000; decide, ?_⟩
    have k3 : ∀ b o, H b = some o → b ≠ p → H3 b = some o := fun b o e n => s3 _ _ (by rw [upd_ne n]; exact e)
    -- self.row = []
    refine ⟨by show 0 ≤ 1000000; decide, fun ra H4 n4 s4 e4 => ?_⟩
    obtain ⟨rap, ran⟩ := upd_none n4
    have ranH : H ra = none := by
      cases e : H ra with
      | none => rfl
      | some o => rw [k3 _ _ e rap] at ran; cases ran
    have k4 : ∀ b o, H3 b = some o → b ≠ p → H4 b = some o := fun b o e n => s4 _ _ (by rw [upd_ne n]; exact e)
    refine ⟨_, rfl, p, CC, dx, _, rfl, s4 _ _ upd_same, T.cl, T.nRow, by show 3 < 1000; decide, ?_⟩
    -- if shape[1] == 1
    refine ⟨_, rfl, tj, _, _, _, rfl, rfl, hsq _, at_of (j := 1) rfl rfl, rfl, _, rfl, iteB (fun hb => ?_) fun hb => ?_⟩
    · have hb := of_decide_eq_true hb
      injection hb with hb
      have hr1 : rn j = 1 := by omega
      rcases hrest with ⟨z, _⟩ | ⟨_, m, hm, hrow, hbeh⟩
      · omega
      have e0 : ((i : Int) + 1 + ((nn j : Nat) : Int)) = ((i + 1 + nn j : Nat) : Int) := by omega
      refine ⟨_, rfl, p, CC, dx, _, _, rfl, upd_same, T.cl, T.nBehind, rfl, _, _, rfl, rfl, ?_⟩
      have hA5 : ∀ o : HO, SqL K (upd H4 p o) a (vi l) := fun o => SqL.keep_ ha (fun _ _ _ _ => trivial) (fun b u e n => by rw [upd_ne n]; exact k4 _ _ (k3 _ _ e n) n) ⟨_, _, _, hp⟩
      refine ⟨_, rfl, _, rfl, _, rfl, p, CC, dx, _, _, rfl, upd_same, T.cl, T.nBehind, rfl, a, _, _, _, rfl, rfl, hA5 _, at_of (j := i + 1 + nn j) e0 (vi_at hm), _, _, rfl, rfl, ?_⟩
      refine ⟨_, rfl, _, rfl, _, rfl, _, rfl, _, rfl, a, vi l, rfl, hA5 _, fun rb H6 n6 s6 e6 => ?_⟩
      obtain ⟨rbp, rbn⟩ := upd_none n6
      rw [cuti l (i + 1 + nn j + 1) (i + 1 + nn j + 1 + m) (by omega) (by omega), Nat.add_sub_cancel_left, ← hrow] at e6
      refine ⟨_, rfl, p, CC, dx, _, rfl, s6 _ _ upd_same, T.cl, T.nRow, by show 4 < 1000; decide, ?_⟩
      refine ⟨_, rfl, _, rfl, p, CC, dx, _, rfl, upd_same, T.cl, T.nBehind, by show 4 < 1000; decide, ?_⟩
      rw [upd_upd]
      have k6 : ∀ b o, H4 b = some o → b ≠ p → H6 b = some o := fun b o e n => s6 _ _ (by rw [upd_ne n]; exact e)
      have rbH : H rb = none := by
        cases e : H rb with
        | none => rfl
        | some o => rw [k4 _ _ (k3 _ _ e rbp) rbp] at rbn; cases rbn
      refine k _ na rb ?_ nan rbH ?_ ?_ ?_
      · rw [upd_same]
        show some (HO.ins CC dx [_, (_, V.int ((i : Int) + 1 + ((nn j : Nat) : Int) + 1 + (m : Int))), _, _]) = some (HO.ins CC dx [_, (_, V.int (beh : Int)), _, _])
        rw [show (i : Int) + 1 + ((nn j : Nat) : Int) + 1 + (m : Int) = (beh : Int) by omega]
      · rw [upd_ne nap]; exact k6 _ _ (k4 _ _ e3 nap) nap
      · rw [upd_ne rbp]; exact e6
      · intro b o e n
        rw [upd_ne n]; exact k6 _ _ (k4 _ _ (k3 _ _ e n) n) n
    · have hb := of_decide_eq_false hb
      have hr1 : ¬ rn j = 1 := fun z => hb (by rw [z]; rfl)
      rcases hrest with ⟨_, hrow, hbeh⟩ | ⟨z, _⟩
      · refine k _ na ra ?_ nan ranH ?_ ?_ ?_
        · rw [upd_same, hbeh]
          rfl
        · rw [upd_ne nap]; exact k4 _ _ e3 nap
        · rw [upd_ne rap, hrow]; exact e4
        · intro b o e n
          rw [upd_ne n]; exact k4 _ _ (k3 _ _ e n) n
      · exact absurd z hr1
end
end Lp
end
section
set_option Elab.async false
set_option linter.all false
set_option maxRecDepth 100000
set_option maxHeartbeats 2000000
namespace Lp
open PySem PySem.Spec PyProof.Rows L2
def Disp (P : Program) (w : World) (K : PySem.W.Frag) (mg : Str → Option Value) (base : Heap) (HC WC RC PC : Addr) : Prop := ∃ a : Addr, mg "ANSWERS" = some (.ref a) ∧ ∀ j : Nat, 1 ≤ j → j ≤ 12 → ∃ f : Addr, KGet K a (j : Int) (.ref f) ∧ HasF P w K mg base 8 f ["holder", "numbers", "row"] (spA HC WC RC PC j)
theorem _root_.L2.Same.frm {H0 H H' : Hp} {fp fp' : List Addr} (s : Same H0 H) (f : Frm fp fp' H H') (n : ∀ q ∈ fp, H0 q = none) : Same H0 H' ∧ ∀ q ∈ fp', H0 q = none :=
  ⟨fun b o e => f.keep b o (s b o e) (fun m => by rw [n b m] at e; cases e), fun q m => (f.new q m).elim (n q) fun z => s.free z⟩
theorem told_cons (a : List Int) (l : List (List Int)) : PyFlat.told (a :: l) = ((a.length : Int) :: a) ++ PyFlat.told l := rfl
section
variable {P : Program} {w : World} {K : PySem.W.Frag} {mg : Str → Option Value} {base : Heap} {HC WC RC PC CC : Addr}
abbrev sAll : Stmt := top 69
def spAll (K : PySem.W.Frag) : Sp := fun vs H Q _ => ∃ (a : Addr) (l : List Int), vs = [.ref a] ∧ SqL K H a (vi l) ∧ l.length ≤ 16000 ∧ PyWqadan.answers_asked l = true ∧ ∀ (H' : Hp) (p : Addr), H' p = some (.lst (vi (PyWqadan.answers l))) → Q (.ref p) H'
theorem scAll : FnScope ["calls", "holder", "given", "place", "call", "answer"] ["calls"] (defScope sAll) := ⟨rfl, rfl, rfl, by decide +kernel, rfl, by decide +kernel, by decide +kernel⟩
theorem ok_all {f : Addr} {fd : FuncData} (F : Fun K "answers" "answers" sAll f fd) (T : CTx K CC) (hn : mg "len" = none) (cH : HasC P w K mg base 4 HC "Holder" ["self"] (spHi HC WC RC PC)) (cC : HasC P w K mg base 1 CC "Call" ["self", "calls", "place"] (spCi K CC)) (hD : Disp P w K mg base HC WC RC PC) : FnOk P w K mg base CX0 9 f fd ["calls"] (spAll K) := by
  refine F.ok scAll (fun vs H Q E h => ?_) (fun cdv Ar outer s H vs Q E hr h => ?_)
  · obtain ⟨a, l, rfl, _⟩ := h
    rfl
  · obtain ⟨a, l, rfl, ha, hlen, hask, k⟩ := h
    obtain ⟨aA, hmA, hdisp⟩ := hD
    have hr5 : Room 5 _ := hr.mono (by decide)
    have hr2 : Room 2 _ := hr.mono (by decide)
    refine ⟨_, pss_cons (ps_set (i := 1) scAll.nd rfl (Or.inl rfl) (pe_hasC0 cH hr5))
      (pss_cons (ps_set (i := 2) scAll.nd rfl (Or.inl rfl) (pe_lstQ pa_nil))
      (pss_cons (ps_set (i := 3) scAll.nd rfl (Or.inl rfl) pe_int)
      (pss_cons (ps_while PassesOwn.never (pt_cmpR op_lt (pv 3) (pe_callB call_len_seq rfl hn PySem.boot_len (pa_cons (pv 0) pa_nil)) (nomark _))
        (pss_cons (ps_set (i := 4) scAll.nd rfl (Or.inl rfl) (pe_hasC cC hr2 (pa_cons (pv 0) (pa_cons (pv 3) pa_nil))))
        (pss_cons (ps_set (i := 5) scAll.nd rfl (Or.inl rfl) (pe_callV (ps := ["holder", "numbers", "row"]) (pe_kget hmA (pe_fld (pv 4) rfl) (fun _ _ => rfl)) hr (pa_cons (pv 1) (pa_cons (pe_fld (pv 4) rfl) (pa_cons (pe_fld (pv 4) rfl) pa_nil)))))
        (pss_cons (ps_expr (pe_bm PySem.F.plainAttrs_list PySem.F.slot_list_append PySem.F.type_list_append mt_append (pv 2) (pa_cons (pe_callB call_len_seq rfl hn PySem.boot_len (pa_cons (pv 5) pa_nil)) pa_nil)))
        (pss_cons (ps_expr (pe_bm PySem.F.plainAttrs_list PySem.F.slot_list_extend PySem.F.type_list_extend mt_extend (pv 2) (pa_cons (pv 5) pa_nil)))
        (pss_one (ps_set (i := 3) scAll.nd rfl (Or.inl rfl) (pe_fld (pv 4) rfl))))))))
      (pss_one (ps_ret (pv 2)))))), ?_⟩
    -- holder
    intro h dh n1 n2 n3
    refine ⟨h, dh, rfl, upd_same, fun H1 fp1 hh1 k1 m1 => ⟨rfl, ?_⟩⟩
    have s1 : Same H H1 := Same.made n1 n2 k1
    have m1' : ∀ q ∈ fp1, H q = none := fun q m => made_free n1 (m1 q m)
    -- given
    refine ⟨by show 0 ≤ 1000000; decide, fun gl H2 ng s2 eg => ?_⟩
    have hgl : gl ∉ fp1 := hh1.fresh ng
    have hglH : H gl = none := s1.free ng
    -- what is asked
    unfold PyWqadan.answers_asked PyWqadan.calls at hask
    have eans : PyWqadan.answers l = (match PyWqadan.calls l with
      | none => []
      | some cs => PyFlat.told (PyFlat.played PageNeutral.step PageNeutral.start cs)) := rfl
    unfold PyWqadan.calls at eans
    cases hcs : PyFlat.calls PyWqadan.shape l.length l with
    | none => rw [hcs] at hask; exact absurd hask (by decide)
    | some cs =>
    rw [hcs] at hask eans
    simp only at hask eans
    have hmost : cs.length ≤ 100 := by
      rw [Bool.and_eq_true] at hask
      have := of_decide_eq_true hask.1
      rw [List.length_map] at this
      exact this
    have g0 : Good LacePageSeed.start (LpM.rsInit 0) 0 := ⟨rfl, LpM.init_ok 0, Nat.le_refl _, ⟨fun v m => absurd m List.not_mem_nil, by show 0 < 16; decide, Nat.le_refl _⟩, fun l v z => by
      have z : ([] : List Nat) = l ++ [v] := z
      simp at z, by show 0 ≤ 100; decide, fun c m => absurd m List.not_mem_nil⟩
    refine nx_of (show tSeq _ _ _ _ _ from ?_)
    refine ⟨fun m σ H' => ∃ (v4 v5 : Option V) (i : Nat) (s : LacePageSeed.State) (r : LpM.RS) (fp : List Addr) (g : List Int) (cs : List (List (List Int))) (fuel nc : Nat), m = l.length - i ∧ i ≤ l.length ∧ PyFlat.calls PyWqadan.shape fuel (l.drop i) = some cs ∧ PyWqadan.answers l = g ++ PyFlat.told (PyFlat.played PageNeutral.step s (cs.map PyWqadan.whole)) ∧ cs.length + nc ≤ 100 ∧ g.length ≤ 10001 * nc ∧ HolAt HC WC RC PC H' h s.w r fp ∧ Good s r i ∧ Same H H' ∧ (∀ q ∈ fp, H q = none) ∧ Out H' gl (.lst (vi g)) fp ∧
      σ = [some (.ref a), some (.ref h), some (.ref gl), some (.int (i : Int)), v4, v5], ⟨_, none, none, 0, LacePageSeed.start, LpM.rsInit 0, fp1, [], cs, l.length, 0, rfl, Nat.zero_le _, hcs, eans, by omega, by show 0 ≤ _; omega, hh1.same s2, g0, s1.trans s2, m1', ⟨eg, hgl⟩, rfl⟩, ?_⟩
    rintro m σ H' ⟨v4, v5, i, s, r, fp, g, cs, fuel, nc, rfl, hi, hcs, hans, hnc, hgl1, hh, hg, sm, fr, hgo, rfl⟩
    have haL := sm.seq ha
    refine ⟨_, rfl, _, rfl, a, _, rfl, .inl haL, _, _, rfl, rfl, _, rfl, ?_⟩
    rw [vi_length]
    refine iteB (fun hb => ?_) fun hb => ?_
    · have hb := of_decide_eq_true hb
      have hil : i < l.length := by omega
      refine ⟨fun σ' H' => ∃ m', m' < l.length - i ∧ ∃ (v4 v5 : Option V) (i : Nat) (s : LacePageSeed.State) (r : LpM.RS) (fp : List Addr) (g : List Int) (cs : List (List (List Int))) (fuel nc : Nat), m' = l.length - i ∧ i ≤ l.length ∧ PyFlat.calls PyWqadan.shape fuel (l.drop i) = some cs ∧ PyWqadan.answers l = g ++ PyFlat.told (PyFlat.played PageNeutral.step s (cs.map PyWqadan.whole)) ∧ cs.length + nc ≤ 100 ∧ g.length ≤ 10001 * nc ∧ HolAt HC WC RC PC H' h s.w r fp ∧ Good s r i ∧ Same H H' ∧ (∀ q ∈ fp, H q = none) ∧ Out H' gl (.lst (vi g)) fp ∧
        σ' = [some (.ref a), some (.ref h), some (.ref gl), some (.int (i : Int)), v4, v5], fun σ' H' h => h, ?_⟩
      obtain ⟨j, ns, row, beh, c, sc, cs', fuel', oc, rfl, hcs'⟩ := calls_step hil hcs
      have hlo := oc.lo
      have hhi := oc.hi
      have hbl := oc.len
      have hbig := oc.big
      have hrl := oc.rlen
      -- call
      refine ⟨_, rfl, _, rfl, fun q dq p1 p2 p3 => ?_⟩
      have hau : SqL K (upd (upd H' dq (.own q)) q (.ins CC dq [])) a (vi l) := by
        have su : Same H' (upd (upd H' dq (.own q)) q (.ins CC dq [])) := fun b o e => by rw [upd_ne (ne_of_none e p1), upd_ne (ne_of_none e p2)]; exact e
        exact su.seq haL
      refine ⟨q, dq, a, l, i, j, ns, row, beh, rfl, upd_same, hau, by omega, hlo, hhi, oc.at_, oc.nns, oc.rest, hbl, fun H3 na ra e3 f1 f2 e4 e5 k3 => ⟨rfl, ?_⟩⟩
      have s3 : Same H' H3 := Same.made p1 p2 k3
      have hh3 := hh.same s3
      have nna : H' na = none := (upd_none (upd_none f1).2).2
      have nra : H' ra = none := (upd_none (upd_none f2).2).2
      -- answer
      obtain ⟨fj, hkg, hF⟩ := hdisp j hlo hhi
      refine ⟨_, rfl, q, CC, dq, _, _, rfl, e3, T.cl, T.nNumber, rfl, _, _, rfl, hkg, fj, _, rfl, hF, _, rfl, _, rfl, q, CC, dq, _, _, rfl, e3, T.cl, T.nNumbers, rfl, _, rfl, q, CC, dq, _, _, rfl, e3, T.cl, T.nRow, rfl,
        h, na, ra, s, r, i, fp, ns, row, sc, rfl, oc.is, hh3, hg, by omega, ⟨e4, hh.fresh nna⟩, ⟨e5, hh.fresh nra⟩, fun H4 fp4 qa r4 hh4 hg4 f4 e6 hal hne => ?_⟩
      have sf := (sm.trans s3).frm f4 fr
      have hgo3 : Out H3 gl (.lst (vi g)) fp := ⟨s3 _ _ hgo.at_, hgo.no⟩
      have hgo4 := f4.out hgo3
      have hq3 : Out H3 q (.ins CC dq (cF j beh na ra)) fp := ⟨e3, hh.fresh p1⟩
      have hq4 := f4.out hq3
      have hstep : PageNeutral.step s (PyWqadan.whole c) = LacePageSeed.step s sc := by
        unfold PageNeutral.step
        rw [oc.of]
      have hplay : PyFlat.played PageNeutral.step s ((c :: cs').map PyWqadan.whole) = (LacePageSeed.step s sc).2 :: PyFlat.played PageNeutral.step (LacePageSeed.step s sc).1 (cs'.map PyWqadan.whole) := by
        show (PageNeutral.step s (PyWqadan.whole c)).2 :: PyFlat.played PageNeutral.step (PageNeutral.step s (PyWqadan.whole c)).1 (cs'.map PyWqadan.whole) = _
        rw [hstep]
      rw [hplay, told_cons, ← List.append_assoc] at hans
      generalize LacePageSeed.step s sc = sr at hh4 hg4 e6 hal hans
      have nqg : qa ≠ gl := hne gl _ hgo3.at_ hgo3.no
      have hcl : cs'.length + 1 + nc ≤ 100 := hnc
      -- given.append(len(answer))
      refine ⟨_, rfl, .inl ⟨rfl, _, SqL.of hgo4.at_⟩, _, rfl, qa, _, rfl, .inl (SqL.of e6), gl, _, _, rfl, rfl, hgo4.at_, by rw [vi_length, line_eq]; omega, ?_⟩
      -- given.extend(answer)
      refine ⟨_, rfl, .inl ⟨rfl, _, SqL.of upd_same⟩, _, rfl, gl, qa, _, _, rfl, rfl, upd_same, by rw [upd_ne nqg]; exact e6, ?_, ?_⟩
      · rw [List.length_append, vi_length, vi_length, line_eq]
        show _ + 1 + _ ≤ _
        omega
      rw [upd_upd]
      have nqgl : q ≠ gl := (ne_of_none hgo.at_ p1).symm
      refine ⟨_, rfl, q, CC, dq, _, _, rfl, by rw [upd_ne nqgl]; exact hq4.at_, T.cl, T.nBehind, rfl, ?_⟩
      refine ⟨l.length - beh, by omega, some (.ref q), some (.ref qa), beh, sr.1, r4, fp4, g ++ (((sr.2.length : Nat) : Int) :: sr.2), cs', fuel', nc + 1, rfl, hbl, hcs', hans, by omega, ?_, hh4.up hgo4.no, hg4.mono (by omega), ?_, sf.2, ⟨?_, hgo4.no⟩, rfl⟩
      · rw [List.length_append]
        show _ + (sr.2.length + 1) ≤ _
        omega
      · exact fun b o e => by rw [upd_ne (ne_of_none e hglH)]; exact sf.1 b o e
      · rw [upd_same, vi_append, List.append_assoc]
        show some (HO.lst (vi g ++ ([V.int (((vi sr.2).length : Nat) : Int)] ++ vi sr.2))) = _
        rw [vi_length]
        rfl
    · have hb := of_decide_eq_false hb
      have hil : i = l.length := by omega
      subst hil
      rw [List.drop_length] at hcs
      cases calls_nil hcs
      have hans : PyWqadan.answers l = g ++ [] := hans
      rw [List.append_nil] at hans
      refine ⟨_, rfl, ?_⟩
      refine k H' gl ?_
      rw [hans]
      exact hgo.at_
end
end Lp
end
section
set_option Elab.async false
set_option linter.all false
set_option maxRecDepth 100000
set_option maxHeartbeats 4000000
namespace Lp
open PySem PySem.Spec PyProof.Rows L2
def GFun (K : PySem.W.Frag) (mg : Str → Option Value) (x : Str) (st : Stmt) : Prop := ∃ (f : Addr) (fd : FuncData), mg x = some (.ref f) ∧ Fun K x x st f fd
def FFun (K : PySem.W.Frag) (f : Addr) (x : Str) (st : Stmt) : Prop := ∃ fd : FuncData, Fun K x x st f fd
def MFun (K : PySem.W.Frag) (C : Addr) (m qual : Str) (st : Stmt) : Prop := ∃ (f : Addr) (fd : FuncData), Meth K C m f ∧ Fun K m qual st f fd
structure GCls (K : PySem.W.Frag) (mg : Str → Option Value) (x : Str) (C : Addr) : Prop where
  at_ : mg x = some (.ref C)
  cl : Cls K C
  mks : PySem.W.makesIn K C = true
  kc : PySem.W.keepIn K (.ref C) = true
section
variable {P : Program} {w : World} {K : PySem.W.Frag} {mg : Str → Option Value} {base h : Heap}
theorem gfun {x : Str} {st : Stmt} {f : Addr} {oc kV doc pm cdv ct : Value} {od an : Option Addr} {osl : Array (Option Value)} (X : K.In h) (G : h.Ns mainGlobals mg) (a : PySem.W.nsIn K mainGlobals x = some (some (.ref f)))
    (l : K.lookup f = some ⟨oc, od, .func (PySem.W.fnOf x x (defArgs st) (defBody st) (defScope st) .none kV doc pm an cdv ct), osl⟩) (c : PySem.W.codeIn K cdv x = true) (k : PySem.W.keepIn K (.ref f) = true) : GFun K mg x st := ⟨f, _, PySem.W.mg_of X G a, fun_mk l c k⟩
theorem ffun {x : Str} {st : Stmt} {f : Addr} {oc kV doc pm cdv ct : Value} {od an : Option Addr} {osl : Array (Option Value)}
    (l : K.lookup f = some ⟨oc, od, .func (PySem.W.fnOf x x (defArgs st) (defBody st) (defScope st) .none kV doc pm an cdv ct), osl⟩) (c : PySem.W.codeIn K cdv x = true) (k : PySem.W.keepIn K (.ref f) = true) : FFun K f x st := ⟨_, fun_mk l c k⟩
theorem mfun {C : Addr} {m qual : Str} {st : Stmt} {f : Addr} {oc kV doc pm cdv ct : Value} {od an : Option Addr} {osl : Array (Option Value)} (a : PySem.W.findIn K (.ref C) m = some (some (.ref f))) (i : PySem.W.isFn K (.ref f) = true)
    (l : K.lookup f = some ⟨oc, od, .func (PySem.W.fnOf m qual (defArgs st) (defBody st) (defScope st) .none kV doc pm an cdv ct), osl⟩) (c : PySem.W.codeIn K cdv qual = true) (k : PySem.W.keepIn K (.ref f) = true) : MFun K C m qual st := ⟨f, _, ⟨a, i, k⟩, fun_mk l c k⟩
theorem gcls {x : Str} {C : Addr} (X : K.In h) (G : h.Ns mainGlobals mg) (a : PySem.W.nsIn K mainGlobals x = some (some (.ref C))) (pg : PySem.W.plainGet K C Str.empty = true) (hd : PySem.W.hasDictIn K C = true) (po : PySem.W.plainOver K C = true)
    (sa : PySem.W.findIn K (.ref C) "__setattr__" = some (some (.builtin "object.__setattr__"))) (mk : PySem.W.makesIn K C = true) (kc : PySem.W.keepIn K (.ref C) = true) : GCls K mg x C := ⟨PySem.W.mg_of X G a, ⟨pg, hd, po, sa⟩, mk, kc⟩
theorem cst_mk {x : Str} {i : Int} {t : Tok} (X : K.In h) (G : h.Ns mainGlobals mg) (a : PySem.W.nsIn K mainGlobals x = some (some (.int i t))) : Cst mg x i := ⟨_, PySem.W.mg_of X G a, t, rfl⟩
theorem GFun.has {x : Str} {st : Stmt} {k : Nat} {ps : List Str} {sp : Sp} (F : GFun K mg x st) (hb : ∀ (kV doc pm : Value) (an : Option Addr) (cdv ct : Value) (us : List Value), us.length = ps.length → bindArgs (PySem.W.fnOf x x (defArgs st) (defBody st) (defScope st) .none kV doc pm an cdv ct) ⟨us, []⟩ = pure (ps.zip us))
    (ok : ∀ {f : Addr} {fd : FuncData}, Fun K x x st f fd → FnOk P w K mg base CX0 k f fd ps sp) : Has P w K mg base k x ps sp := by
  obtain ⟨f, fd, hm, F⟩ := F
  exact ⟨f, fd, hm, F.kp, F.binds hb, ok F⟩
theorem FFun.has {f : Addr} {x : Str} {st : Stmt} {k : Nat} {ps : List Str} {sp : Sp} (F : FFun K f x st) (hb : ∀ (kV doc pm : Value) (an : Option Addr) (cdv ct : Value) (us : List Value), us.length = ps.length → bindArgs (PySem.W.fnOf x x (defArgs st) (defBody st) (defScope st) .none kV doc pm an cdv ct) ⟨us, []⟩ = pure (ps.zip us))
    (ok : ∀ {f : Addr} {fd : FuncData}, Fun K x x st f fd → FnOk P w K mg base CX0 k f fd ps sp) : HasF P w K mg base k f ps sp := by
  obtain ⟨fd, F⟩ := F
  exact ⟨fd, F.kp, F.binds hb, ok F⟩
theorem MFun.has {C : Addr} {m qual : Str} {st : Stmt} {k : Nat} {ps : List Str} {sp : Sp} (F : MFun K C m qual st) (hb : ∀ (kV doc pm : Value) (an : Option Addr) (cdv ct : Value) (us : List Value), us.length = ps.length → bindArgs (PySem.W.fnOf m qual (defArgs st) (defBody st) (defScope st) .none kV doc pm an cdv ct) ⟨us, []⟩ = pure (ps.zip us))
    (ok : ∀ {f : Addr} {fd : FuncData}, Fun K m qual st f fd → FnOk P w K mg base CX0 k f fd ps sp) : HasM P w K mg base k C m ps sp := by
  obtain ⟨f, fd, hm, F⟩ := F
  exact ⟨f, fd, hm, F.binds hb, ok F⟩
theorem MFun.hasC {C : Addr} {x qual : Str} {st : Stmt} {k : Nat} {ps : List Str} {sp : Sp} (F : MFun K C "__init__" qual st) (c : GCls K mg x C) (hb : ∀ (kV doc pm : Value) (an : Option Addr) (cdv ct : Value) (us : List Value), us.length = ps.length → bindArgs (PySem.W.fnOf "__init__" qual (defArgs st) (defBody st) (defScope st) .none kV doc pm an cdv ct) ⟨us, []⟩ = pure (ps.zip us))
    (ok : ∀ {f : Addr} {fd : FuncData}, Fun K "__init__" qual st f fd → FnOk P w K mg base CX0 k f fd ps sp) : HasC P w K mg base k C x ps sp := by
  obtain ⟨f, fd, hm, F⟩ := F
  exact ⟨f, fd, ⟨c.mks, hm.at_, hm.fn, c.kc⟩, c.at_, F.binds hb, ok F⟩
theorem mark_mk {a : Addr} {od : Option Addr} {t1 t2 t3 t4 t5 : Tok} {n : Nat} {sl : Array (Option Value)} (X : K.In h) (G : h.Ns mainGlobals mg) (e : PySem.W.nsIn K mainGlobals "MARK" = some (some (.ref a)))
    (l : K.lookup a = some ⟨.type "tuple", od, .seq #[.int 79 t1, .int 103 t2, .int 103 t3, .int 83 t4, .int 0 t5] n, sl⟩) : Mrk K mg :=
  ⟨a, PySem.W.mg_of X G e, fun H => .inr ⟨_, _, n, l, rfl, rfl, (by rw [line_eq]; show 5 ≤ 16777216; decide), .cons ⟨_, rfl⟩ (.cons ⟨_, rfl⟩ (.cons ⟨_, rfl⟩ (.cons ⟨_, rfl⟩ (.cons ⟨_, rfl⟩ .nil))))⟩⟩
theorem pair_mk {a : Addr} {od : Option Addr} {i j : Int} {t1 t2 : Tok} {n : Nat} {sl : Array (Option Value)} (l : K.lookup a = some ⟨.type "tuple", od, .seq #[.int i t1, .int j t2] n, sl⟩) : ∀ H : Hp, SqT K H a [.int i, .int j] :=
  fun H => .inr ⟨_, _, n, l, rfl, rfl, (by rw [line_eq]; show 2 ≤ 16777216; decide), .cons ⟨_, rfl⟩ (.cons ⟨_, rfl⟩ .nil)⟩
def pick12 (a1 a2 a3 a4 a5 a6 a7 a8 a9 a10 a11 a12 : Addr) : Nat → Addr
  | 1 => a1
  | 2 => a2
  | 3 => a3
  | 4 => a4
  | 5 => a5
  | 6 => a6
  | 7 => a7
  | 8 => a8
  | 9 => a9
  | 10 => a10
  | 11 => a11
  | _ => a12
theorem kget12 {a a1 a2 a3 a4 a5 a6 a7 a8 a9 a10 a11 a12 : Addr} {k1 k2 k3 k4 k5 k6 k7 k8 k9 k10 k11 k12 : Tok} {ep : Nat} (l : K.lookup a = some ⟨.type "dict", none, .dict #[⟨1, .int 1 k1, .ref a1⟩, ⟨2, .int 2 k2, .ref a2⟩, ⟨3, .int 3 k3, .ref a3⟩, ⟨4, .int 4 k4, .ref a4⟩, ⟨5, .int 5 k5, .ref a5⟩, ⟨6, .int 6 k6, .ref a6⟩, ⟨7, .int 7 k7, .ref a7⟩, ⟨8, .int 8 k8, .ref a8⟩, ⟨9, .int 9 k9, .ref a9⟩, ⟨10, .int 10 k10, .ref a10⟩, ⟨11, .int 11 k11, .ref a11⟩, ⟨12, .int 12 k12, .ref a12⟩] ep, #[]⟩) (j : Nat) (h1 : 1 ≤ j) (h12 : j ≤ 12) : KGet K a (j : Int) (.ref (pick12 a1 a2 a3 a4 a5 a6 a7 a8 a9 a10 a11 a12 j)) := by
  have keys : ∀ e ∈ (#[⟨1, .int 1 k1, .ref a1⟩, ⟨2, .int 2 k2, .ref a2⟩, ⟨3, .int 3 k3, .ref a3⟩, ⟨4, .int 4 k4, .ref a4⟩, ⟨5, .int 5 k5, .ref a5⟩, ⟨6, .int 6 k6, .ref a6⟩, ⟨7, .int 7 k7, .ref a7⟩, ⟨8, .int 8 k8, .ref a8⟩, ⟨9, .int 9 k9, .ref a9⟩, ⟨10, .int 10 k10, .ref a10⟩, ⟨11, .int 11 k11, .ref a11⟩, ⟨12, .int 12 k12, .ref a12⟩] : Array DictEntry), ∃ k, Value.isInt k e.key = true ∧ e.hash = hashInt k := by
    intro e he
    have he : e ∈ [⟨1, .int 1 k1, .ref a1⟩, ⟨2, .int 2 k2, .ref a2⟩, ⟨3, .int 3 k3, .ref a3⟩, ⟨4, .int 4 k4, .ref a4⟩, ⟨5, .int 5 k5, .ref a5⟩, ⟨6, .int 6 k6, .ref a6⟩, ⟨7, .int 7 k7, .ref a7⟩, ⟨8, .int 8 k8, .ref a8⟩, ⟨9, .int 9 k9, .ref a9⟩, ⟨10, .int 10 k10, .ref a10⟩, ⟨11, .int 11 k11, .ref a11⟩, ⟨12, .int 12 k12, .ref a12⟩] := by simpa using he
    simp only [List.mem_cons, List.not_mem_nil, or_false] at he
    rcases he with rfl | rfl | rfl | rfl | rfl | rfl | rfl | rfl | rfl | rfl | rfl | rfl
    · exact ⟨1, by simp [Value.isInt], (by show (1 : Int) = hashInt 1; decide)⟩
    · exact ⟨2, by simp [Value.isInt], (by show (2 : Int) = hashInt 2; decide)⟩
    · exact ⟨3, by simp [Value.isInt], (by show (3 : Int) = hashInt 3; decide)⟩
    · exact ⟨4, by simp [Value.isInt], (by show (4 : Int) = hashInt 4; decide)⟩
    · exact ⟨5, by simp [Value.isInt], (by show (5 : Int) = hashInt 5; decide)⟩
    · exact ⟨6, by simp [Value.isInt], (by show (6 : Int) = hashInt 6; decide)⟩
    · exact ⟨7, by simp [Value.isInt], (by show (7 : Int) = hashInt 7; decide)⟩
    · exact ⟨8, by simp [Value.isInt], (by show (8 : Int) = hashInt 8; decide)⟩
    · exact ⟨9, by simp [Value.isInt], (by show (9 : Int) = hashInt 9; decide)⟩
    · exact ⟨10, by simp [Value.isInt], (by show (10 : Int) = hashInt 10; decide)⟩
    · exact ⟨11, by simp [Value.isInt], (by show (11 : Int) = hashInt 11; decide)⟩
    · exact ⟨12, by simp [Value.isInt], (by show (12 : Int) = hashInt 12; decide)⟩
  have hj : j = 1 ∨ j = 2 ∨ j = 3 ∨ j = 4 ∨ j = 5 ∨ j = 6 ∨ j = 7 ∨ j = 8 ∨ j = 9 ∨ j = 10 ∨ j = 11 ∨ j = 12 := by omega
  rcases hj with rfl | rfl | rfl | rfl | rfl | rfl | rfl | rfl | rfl | rfl | rfl | rfl
  · exact ⟨_, _, _, _, l, ⟨rfl, rfl, rfl⟩, rfl, keys, by unfold findBy; rw [← Array.find?_toList]; simp [Value.isInt]; rfl, rfl⟩
  · exact ⟨_, _, _, _, l, ⟨rfl, rfl, rfl⟩, rfl, keys, by unfold findBy; rw [← Array.find?_toList]; simp [Value.isInt]; rfl, rfl⟩
  · exact ⟨_, _, _, _, l, ⟨rfl, rfl, rfl⟩, rfl, keys, by unfold findBy; rw [← Array.find?_toList]; simp [Value.isInt]; rfl, rfl⟩
  · exact ⟨_, _, _, _, l, ⟨rfl, rfl, rfl⟩, rfl, keys, by unfold findBy; rw [← Array.find?_toList]; simp [Value.isInt]; rfl, rfl⟩
  · exact ⟨_, _, _, _, l, ⟨rfl, rfl, rfl⟩, rfl, keys, by unfold findBy; rw [← Array.find?_toList]; simp [Value.isInt]; rfl, rfl⟩
  · exact ⟨_, _, _, _, l, ⟨rfl, rfl, rfl⟩, rfl, keys, by unfold findBy; rw [← Array.find?_toList]; simp [Value.isInt]; rfl, rfl⟩
  · exact ⟨_, _, _, _, l, ⟨rfl, rfl, rfl⟩, rfl, keys, by unfold findBy; rw [← Array.find?_toList]; simp [Value.isInt]; rfl, rfl⟩
  · exact ⟨_, _, _, _, l, ⟨rfl, rfl, rfl⟩, rfl, keys, by unfold findBy; rw [← Array.find?_toList]; simp [Value.isInt]; rfl, rfl⟩
  · exact ⟨_, _, _, _, l, ⟨rfl, rfl, rfl⟩, rfl, keys, by unfold findBy; rw [← Array.find?_toList]; simp [Value.isInt]; rfl, rfl⟩
  · exact ⟨_, _, _, _, l, ⟨rfl, rfl, rfl⟩, rfl, keys, by unfold findBy; rw [← Array.find?_toList]; simp [Value.isInt]; rfl, rfl⟩
  · exact ⟨_, _, _, _, l, ⟨rfl, rfl, rfl⟩, rfl, keys, by unfold findBy; rw [← Array.find?_toList]; simp [Value.isInt]; rfl, rfl⟩
  · exact ⟨_, _, _, _, l, ⟨rfl, rfl, rfl⟩, rfl, keys, by unfold findBy; rw [← Array.find?_toList]; simp [Value.isInt]; rfl, rfl⟩
structure Cns (mg : Str → Option Value) : Prop where
  c_POLYNOMIAL : Cst mg "POLYNOMIAL" 79764919
  c_TOP_BIT : Cst mg "TOP_BIT" 2147483648
  c_LOW_BITS : Cst mg "LOW_BITS" 4294967295
  c_FLAGS_AT : Cst mg "FLAGS_AT" 5
  c_POSITION_AT : Cst mg "POSITION_AT" 6
  c_STREAM_AT : Cst mg "STREAM_AT" 14
  c_NUMBER_AT : Cst mg "NUMBER_AT" 18
  c_SUM_AT : Cst mg "SUM_AT" 22
  c_COUNT_AT : Cst mg "COUNT_AT" 26
  c_VALUES_AT : Cst mg "VALUES_AT" 27
  c_IN_MIDST : Cst mg "IN_MIDST" 1
  c_FIRST_PAGE : Cst mg "FIRST_PAGE" 2
  c_LAST_PAGE : Cst mg "LAST_PAGE" 4
  c_TOP_FLAGS : Cst mg "TOP_FLAGS" 7
  c_MOST_VALUES : Cst mg "MOST_VALUES" 16
  c_FULL_VALUE : Cst mg "FULL_VALUE" 255
  c_LONGEST_PACKET : Cst mg "LONGEST_PACKET" 8192
  c_ALL_BITS_SET : Cst mg "ALL_BITS_SET" 18446744073709551615
  c_PAGE_NUMBERS : Cst mg "PAGE_NUMBERS" 4294967296
  c_WAITS_FOR_MORE : Cst mg "WAITS_FOR_MORE" 0
  c_NO_PAGE : Cst mg "NO_PAGE" (-1)
  c_OLD_FROM : Cst mg "OLD_FROM" 2147483648
  c_NO_POSITION : Cst mg "NO_POSITION" (-1)
  c_DONE : Cst mg "DONE" 0
  c_NOT_AS_TOLD : Cst mg "NOT_AS_TOLD" (-1)
  c_TOO_LONG : Cst mg "TOO_LONG" (-2)
  c_LAST_CAME : Cst mg "LAST_CAME" (-3)
  c_PAGES_WAIT : Cst mg "PAGES_WAIT" (-4)
  c_NONE_WAITS : Cst mg "NONE_WAITS" (-5)
  c_TOP_STREAM : Cst mg "TOP_STREAM" 4294967295
  c_TOP_POSITION : Cst mg "TOP_POSITION" 9223372036854775807
  c_MOST_BYTES : Cst mg "MOST_BYTES" 9000
  n_range : mg "range" = none
  n_len : mg "len" = none
  n_reversed : mg "reversed" = none
  n_list : mg "list" = none
  n_min : mg "min" = none
  n_sum : mg "sum" = none
  n_all : mg "all" = none
structure NPC (K : PySem.W.Frag) (C : Addr) : Prop where
  position : PySem.W.findIn K (.ref C) "position" = some none
  hole : PySem.W.findIn K (.ref C) "hole" = some none
  last : PySem.W.findIn K (.ref C) "last" = some none
  body : PySem.W.findIn K (.ref C) "body" = some none
structure NRC (K : PySem.W.Frag) (C : Addr) : Prop where
  stream : PySem.W.findIn K (.ref C) "stream" = some none
  table : PySem.W.findIn K (.ref C) "table" = some none
  unjudged : PySem.W.findIn K (.ref C) "unjudged" = some none
  closed : PySem.W.findIn K (.ref C) "closed" = some none
  last_number : PySem.W.findIn K (.ref C) "last_number" = some none
  over : PySem.W.findIn K (.ref C) "over" = some none
  begun : PySem.W.findIn K (.ref C) "begun" = some none
  hole : PySem.W.findIn K (.ref C) "hole" = some none
  packets_waiting : PySem.W.findIn K (.ref C) "packets_waiting" = some none
  pages_taken : PySem.W.findIn K (.ref C) "pages_taken" = some none
  pages_of_others : PySem.W.findIn K (.ref C) "pages_of_others" = some none
  pages_too_late : PySem.W.findIn K (.ref C) "pages_too_late" = some none
  bytes_passed : PySem.W.findIn K (.ref C) "bytes_passed" = some none
  packets_dropped : PySem.W.findIn K (.ref C) "packets_dropped" = some none
structure NWC (K : PySem.W.Frag) (C : Addr) : Prop where
  stream : PySem.W.findIn K (.ref C) "stream" = some none
  table : PySem.W.findIn K (.ref C) "table" = some none
  last_came : PySem.W.findIn K (.ref C) "last_came" = some none
  pages_waiting : PySem.W.findIn K (.ref C) "pages_waiting" = some none
  number : PySem.W.findIn K (.ref C) "number" = some none
  flags : PySem.W.findIn K (.ref C) "flags" = some none
  position : PySem.W.findIn K (.ref C) "position" = some none
  lacing : PySem.W.findIn K (.ref C) "lacing" = some none
  body : PySem.W.findIn K (.ref C) "body" = some none
structure NHC (K : PySem.W.Frag) (C : Addr) : Prop where
  table : PySem.W.findIn K (.ref C) "table" = some none
  writer : PySem.W.findIn K (.ref C) "writer" = some none
  reader : PySem.W.findIn K (.ref C) "reader" = some none
structure NCC (K : PySem.W.Frag) (C : Addr) : Prop where
  number : PySem.W.findIn K (.ref C) "number" = some none
  behind : PySem.W.findIn K (.ref C) "behind" = some none
  numbers : PySem.W.findIn K (.ref C) "numbers" = some none
  row : PySem.W.findIn K (.ref C) "row" = some none
theorem all_mk {fa PC RC WC HC CC : Addr} {a1 a2 a3 a4 a5 a6 a7 a8 a9 a10 a11 a12 aS aA : Addr} {s1 s2 s3 s4 s5 s6 s7 s8 s9 s10 s11 s12 : Addr} (hfa : mg "answers" = some (.ref fa)) (N : Cns mg) (hM : Mrk K mg)
    (gPC : GCls K mg "Packet" PC) (nPC : NPC K PC)
    (gRC : GCls K mg "Reader" RC) (nRC : NRC K RC)
    (gWC : GCls K mg "Writer" WC) (nWC : NWC K WC)
    (gHC : GCls K mg "Holder" HC) (nHC : NHC K HC)
    (gCC : GCls K mg "Call" CC) (nCC : NCC K CC)
    (F0 : GFun K mg "remainder_of_byte" sRem)
    (F1 : GFun K mg "make_table" sMk)
    (F2 : GFun K mg "sum_of_bytes" sSum)
    (F3 : GFun K mg "low_byte_first" sLow)
    (F4 : GFun K mg "number_at" sNum)
    (F5 : GFun K mg "lacing_of" sLac)
    (F6 : GFun K mg "sum_of_page" sSop)
    (F7 : GFun K mg "make_page" sPg)
    (F8 : GFun K mg "judge" sJud)
    (F9 : GFun K mg "pieces_of" sPcs)
    (F10 : GFun K mg "told_position" sTold)
    (F11 : GFun K mg "are_bytes" sAb)
    (M0 : MFun K PC "__init__" "Packet.__init__" sPki)
    (M1 : MFun K RC "__init__" "Reader.__init__" sRi)
    (M2 : MFun K RC "feed_bytes" "Reader.feed_bytes" sFeed)
    (M3 : MFun K RC "close_feeding" "Reader.close_feeding" sCls)
    (M4 : MFun K RC "take_waiting" "Reader.take_waiting" sRtw)
    (M5 : MFun K RC "list_counts" "Reader.list_counts" sLc)
    (M6 : MFun K RC "judge_unjudged" "Reader.judge_unjudged" sJu)
    (M7 : MFun K RC "meet_page" "Reader.meet_page" sMeet)
    (M8 : MFun K RC "is_old" "Reader.is_old" sOld)
    (M9 : MFun K RC "follow_number" "Reader.follow_number" sFol)
    (M10 : MFun K RC "drop_begun" "Reader.drop_begun" sDrp)
    (M11 : MFun K RC "read_pieces" "Reader.read_pieces" sRdp)
    (M12 : MFun K RC "end_packet" "Reader.end_packet" sEnd)
    (M13 : MFun K WC "__init__" "Writer.__init__" sWi)
    (M14 : MFun K WC "begin_page" "Writer.begin_page" sBeg)
    (M15 : MFun K WC "finish_page" "Writer.finish_page" sFin)
    (M16 : MFun K WC "put_packet" "Writer.put_packet" sPut)
    (M17 : MFun K WC "flush_page" "Writer.flush_page" sFls)
    (M18 : MFun K WC "take_waiting" "Writer.take_waiting" sTw)
    (M19 : MFun K HC "__init__" "Holder.__init__" sHi)
    (M20 : MFun K CC "__init__" "Call.__init__" sCi)
    (hS : mg "SHAPES" = some (.ref aS)) (kS : ∀ j : Nat, 1 ≤ j → j ≤ 12 → KGet K aS (j : Int) (.ref (pick12 s1 s2 s3 s4 s5 s6 s7 s8 s9 s10 s11 s12 j)))
    (p1 : ∀ H : Hp, SqT K H s1 [.int 1, .int 0])
    (p2 : ∀ H : Hp, SqT K H s2 [.int 2, .int 1])
    (p3 : ∀ H : Hp, SqT K H s3 [.int 0, .int 0])
    (p4 : ∀ H : Hp, SqT K H s4 [.int 0, .int 0])
    (p5 : ∀ H : Hp, SqT K H s5 [.int 1, .int 0])
    (p6 : ∀ H : Hp, SqT K H s6 [.int 0, .int 1])
    (p7 : ∀ H : Hp, SqT K H s7 [.int 0, .int 0])
    (p8 : ∀ H : Hp, SqT K H s8 [.int 0, .int 0])
    (p9 : ∀ H : Hp, SqT K H s9 [.int 1, .int 0])
    (p10 : ∀ H : Hp, SqT K H s10 [.int 0, .int 0])
    (p11 : ∀ H : Hp, SqT K H s11 [.int 0, .int 1])
    (p12 : ∀ H : Hp, SqT K H s12 [.int 0, .int 1])
    (hA : mg "ANSWERS" = some (.ref aA)) (kA : ∀ j : Nat, 1 ≤ j → j ≤ 12 → KGet K aA (j : Int) (.ref (pick12 a1 a2 a3 a4 a5 a6 a7 a8 a9 a10 a11 a12 j)))
    (A1 : FFun K a1 "answer_writer" sA1)
    (A2 : FFun K a2 "answer_put" sA2)
    (A3 : FFun K a3 "answer_flush" sA3)
    (A4 : FFun K a4 "answer_page" sA4)
    (A5 : FFun K a5 "answer_reader" sA5)
    (A6 : FFun K a6 "answer_feed" sA6)
    (A7 : FFun K a7 "answer_close" sA7)
    (A8 : FFun K a8 "answer_waits" sA8)
    (A9 : FFun K a9 "answer_next" sA9)
    (A10 : FFun K a10 "answer_counts" sA10)
    (A11 : FFun K a11 "answer_sum" sA11)
    (A12 : FFun K a12 "answer_check" sA12)
    (FA : GFun K mg "answers" sAll) :
    ∃ fd : FuncData, (∀ (s : Shared) (us : List Value), us.length = (["calls"] : List Str).length → BindsTo s fd ⟨us, []⟩ ((["calls"] : List Str).zip us)) ∧ ∀ base : Heap, K.In base → base.Ns mainGlobals mg → FnOk P w K mg base CX0 9 fa fd ["calls"] (spAll K) := by
  obtain ⟨fa', fd, hm, FA⟩ := FA
  cases hfa.symm.trans hm
  obtain ⟨oc, od, kV, doc, pm, an, cdv, ct, osl, rfl, lk, hcd⟩ := FA.ex
  refine ⟨PySem.W.fnOf "answers" "answers" (defArgs sAll) (defBody sAll) (defScope sAll) .none kV doc pm an cdv ct, fun s us hu => match us, hu with | [_], _ => .of_eq rfl, fun base _ _ => ?_⟩
  have h_remainder_of_byte : Has P w K mg base 1 "remainder_of_byte" ["value"] spRem := F0.has (fun _ _ _ _ _ _ us hl => match us, hl with | [_], _ => rfl) fun F => ok_rem F N.n_range N.c_TOP_BIT N.c_LOW_BITS N.c_POLYNOMIAL
  have h_make_table : Has P w K mg base 2 "make_table" [] spMk := F1.has (fun _ _ _ _ _ _ us hl => match us, hl with | [], _ => rfl) fun F => ok_mk F N.n_range h_remainder_of_byte
  have h_sum_of_bytes : Has P w K mg base 1 "sum_of_bytes" ["table", "data"] (spSum K) := F2.has (fun _ _ _ _ _ _ us hl => match us, hl with | [_, _], _ => rfl) fun F => ok_sum F N.c_LOW_BITS
  have h_low_byte_first : Has P w K mg base 1 "low_byte_first" ["number", "count"] spLow := F3.has (fun _ _ _ _ _ _ us hl => match us, hl with | [_, _], _ => rfl) fun F => ok_low F N.n_range
  have h_number_at : Has P w K mg base 1 "number_at" ["data", "start", "count"] (spNum K) := F4.has (fun _ _ _ _ _ _ us hl => match us, hl with | [_, _, _], _ => rfl) fun F => ok_num F N.n_reversed
  have h_lacing_of : Has P w K mg base 1 "lacing_of" ["length"] spLac := F5.has (fun _ _ _ _ _ _ us hl => match us, hl with | [_], _ => rfl) fun F => ok_lac F N.c_FULL_VALUE
  have h_sum_of_page : Has P w K mg base 2 "sum_of_page" ["table", "page"] (spSop K) := F6.has (fun _ _ _ _ _ _ us hl => match us, hl with | [_, _], _ => rfl) fun F => ok_sop F N.c_SUM_AT N.c_COUNT_AT h_sum_of_bytes
  have h_make_page : Has P w K mg base 3 "make_page" ["table", "flags", "position", "stream", "number", "lacing", "body"] (spPg K) := F7.has (fun _ _ _ _ _ _ us hl => match us, hl with | [_, _, _, _, _, _, _], _ => rfl) fun F => ok_pg F hM N.n_list N.n_len h_low_byte_first h_sum_of_page
  have JC : JudC mg := ⟨N.c_NO_PAGE, N.c_WAITS_FOR_MORE, N.c_FLAGS_AT, N.c_TOP_FLAGS, N.c_COUNT_AT, N.c_MOST_VALUES, N.c_VALUES_AT, N.c_SUM_AT, N.n_len, N.n_min, N.n_range, N.n_sum⟩
  have h_judge : Has P w K mg base 3 "judge" ["table", "data", "start"] (spJud K) := F8.has (fun _ _ _ _ _ _ us hl => match us, hl with | [_, _, _], _ => rfl) fun F => ok_jud F hM JC h_sum_of_page h_number_at
  have h_pieces_of : Has P w K mg base 1 "pieces_of" ["page"] (spPcs K) := F9.has (fun _ _ _ _ _ _ us hl => match us, hl with | [_], _ => rfl) fun F => ok_pcs F N.c_COUNT_AT N.c_VALUES_AT N.c_FULL_VALUE
  have TW : WTx K mg WC := ⟨gWC.cl, nWC.stream, nWC.table, nWC.last_came, nWC.pages_waiting, nWC.number, nWC.flags, nWC.position, nWC.lacing, nWC.body, N.c_ALL_BITS_SET, N.c_FIRST_PAGE, N.c_IN_MIDST, N.c_LAST_PAGE, N.c_FULL_VALUE, N.c_MOST_VALUES, N.c_PAGE_NUMBERS, N.n_len⟩
  have TR : RTx K mg RC := ⟨gRC.cl, nRC.stream, nRC.table, nRC.unjudged, nRC.closed, nRC.last_number, nRC.over, nRC.begun, nRC.hole, nRC.packets_waiting, nRC.pages_taken, nRC.pages_of_others, nRC.pages_too_late, nRC.bytes_passed, nRC.packets_dropped⟩
  have TP : PTx K PC := ⟨gPC.cl, nPC.position, nPC.hole, nPC.last, nPC.body⟩
  have TH : HTx K HC := ⟨gHC.cl, nHC.table, nHC.writer, nHC.reader⟩
  have TC : CTx K CC := ⟨gCC.cl, nCC.number, nCC.behind, nCC.numbers, nCC.row⟩
  have B : RCs mg := ⟨N.c_FLAGS_AT, N.c_POSITION_AT, N.c_STREAM_AT, N.c_NUMBER_AT, N.c_IN_MIDST, N.c_FIRST_PAGE, N.c_LAST_PAGE, N.c_LONGEST_PACKET, N.c_NO_PAGE, N.c_WAITS_FOR_MORE, N.c_PAGE_NUMBERS, N.c_ALL_BITS_SET, N.c_OLD_FROM, N.c_NO_POSITION, N.n_len⟩
  have AC : ACs mg := ⟨N.c_DONE, N.c_NOT_AS_TOLD, N.c_TOO_LONG, N.c_LAST_CAME, N.c_PAGES_WAIT, N.c_NONE_WAITS, N.c_TOP_STREAM, N.c_TOP_POSITION, N.c_LONGEST_PACKET, N.n_len⟩
  have m_Writer_begin_page : HasM P w K mg base 1 WC "begin_page" ["self", "number", "flags"] (spBeg WC) := M14.has (fun _ _ _ _ _ _ us hl => match us, hl with | [_, _, _], _ => rfl) fun F => ok_beg F TW
  have c_Writer : HasC P w K mg base 2 WC "Writer" ["self", "stream", "table"] (spWi WC) := M13.hasC gWC (fun _ _ _ _ _ _ us hl => match us, hl with | [_, _, _], _ => rfl) fun F => ok_wi F TW m_Writer_begin_page
  have m_Writer_finish_page : HasM P w K mg base 4 WC "finish_page" ["self", "last_page"] (spFin K WC) := M15.has (fun _ _ _ _ _ _ us hl => match us, hl with | [_, _], _ => rfl) fun F => ok_fin F TW m_Writer_begin_page h_make_page
  have m_Writer_put_packet : HasM P w K mg base 5 WC "put_packet" ["self", "position", "last", "packet"] (spPut WC) := M16.has (fun _ _ _ _ _ _ us hl => match us, hl with | [_, _, _, _], _ => rfl) fun F => ok_put F TW h_lacing_of m_Writer_finish_page
  have m_Writer_flush_page : HasM P w K mg base 5 WC "flush_page" ["self"] (spFls WC) := M17.has (fun _ _ _ _ _ _ us hl => match us, hl with | [_], _ => rfl) fun F => ok_fls F TW m_Writer_finish_page
  have m_Writer_take_waiting : HasM P w K mg base 1 WC "take_waiting" ["self"] (spTw WC) := M18.has (fun _ _ _ _ _ _ us hl => match us, hl with | [_], _ => rfl) fun F => ok_tw F TW
  have h_told_position : Has P w K mg base 2 "told_position" ["page"] (spTold K) := F10.has (fun _ _ _ _ _ _ us hl => match us, hl with | [_], _ => rfl) fun F => ok_told F B h_number_at
  have c_Packet : HasC P w K mg base 1 PC "Packet" ["self", "position", "hole", "last", "body"] (spPki PC) := M0.hasC gPC (fun _ _ _ _ _ _ us hl => match us, hl with | [_, _, _, _, _], _ => rfl) fun F => ok_pki F TP
  have m_Reader_drop_begun : HasM P w K mg base 1 RC "drop_begun" ["self"] (spDrp RC PC) := M10.has (fun _ _ _ _ _ _ us hl => match us, hl with | [_], _ => rfl) fun F => ok_drp F TR
  have m_Reader_is_old : HasM P w K mg base 1 RC "is_old" ["self", "number"] (spOld RC PC) := M8.has (fun _ _ _ _ _ _ us hl => match us, hl with | [_, _], _ => rfl) fun F => ok_old F TR B
  have m_Reader_follow_number : HasM P w K mg base 2 RC "follow_number" ["self", "number", "flags"] (spFol RC PC) := M9.has (fun _ _ _ _ _ _ us hl => match us, hl with | [_, _, _], _ => rfl) fun F => ok_fol F TR B m_Reader_drop_begun
  have m_Reader_end_packet : HasM P w K mg base 3 RC "end_packet" ["self", "page", "is_last_in_page"] (spEnd RC PC) := M12.has (fun _ _ _ _ _ _ us hl => match us, hl with | [_, _, _], _ => rfl) fun F => ok_end F TR B m_Reader_drop_begun h_told_position c_Packet
  have m_Reader_read_pieces : HasM P w K mg base 4 RC "read_pieces" ["self", "page"] (spRdp RC PC) := M11.has (fun _ _ _ _ _ _ us hl => match us, hl with | [_, _], _ => rfl) fun F => ok_rdp F TR B h_pieces_of m_Reader_end_packet
  have m_Reader_meet_page : HasM P w K mg base 5 RC "meet_page" ["self", "page"] (spMeet RC PC) := M7.has (fun _ _ _ _ _ _ us hl => match us, hl with | [_, _], _ => rfl) fun F => ok_meet F TR B h_number_at m_Reader_is_old m_Reader_follow_number m_Reader_read_pieces m_Reader_drop_begun
  have m_Reader_judge_unjudged : HasM P w K mg base 6 RC "judge_unjudged" ["self"] (spJu RC PC) := M6.has (fun _ _ _ _ _ _ us hl => match us, hl with | [_], _ => rfl) fun F => ok_ju F TR B h_judge m_Reader_meet_page
  have m_Reader_feed_bytes : HasM P w K mg base 7 RC "feed_bytes" ["self", "data"] (spFeed RC PC) := M2.has (fun _ _ _ _ _ _ us hl => match us, hl with | [_, _], _ => rfl) fun F => ok_feed F TR B m_Reader_judge_unjudged
  have m_Reader_close_feeding : HasM P w K mg base 7 RC "close_feeding" ["self"] (spCls RC PC) := M3.has (fun _ _ _ _ _ _ us hl => match us, hl with | [_], _ => rfl) fun F => ok_cls F TR m_Reader_judge_unjudged m_Reader_drop_begun
  have m_Reader_take_waiting : HasM P w K mg base 1 RC "take_waiting" ["self"] (spRtw RC PC) := M4.has (fun _ _ _ _ _ _ us hl => match us, hl with | [_], _ => rfl) fun F => ok_rtw F TR
  have m_Reader_list_counts : HasM P w K mg base 1 RC "list_counts" ["self"] (spLc RC PC) := M5.has (fun _ _ _ _ _ _ us hl => match us, hl with | [_], _ => rfl) fun F => ok_lc F TR
  have c_Reader : HasC P w K mg base 1 RC "Reader" ["self", "stream", "table"] (spRi RC PC) := M1.hasC gRC (fun _ _ _ _ _ _ us hl => match us, hl with | [_, _, _], _ => rfl) fun F => ok_ri F TR
  have c_Holder : HasC P w K mg base 4 HC "Holder" ["self"] (spHi HC WC RC PC) := M19.hasC gHC (fun _ _ _ _ _ _ us hl => match us, hl with | [_], _ => rfl) fun F => ok_hi F TH h_make_table c_Writer c_Reader
  have h_are_bytes : Has P w K mg base 1 "are_bytes" ["row"] (spAb K) := F11.has (fun _ _ _ _ _ _ us hl => match us, hl with | [_], _ => rfl) fun F => ok_ab F N.n_len N.n_all N.c_MOST_BYTES
  have SH : Shapes K mg := by
    refine ⟨aS, hS, fun j h1 h12 => ⟨_, kS j h1 h12, ?_⟩⟩
    have hj : j = 1 ∨ j = 2 ∨ j = 3 ∨ j = 4 ∨ j = 5 ∨ j = 6 ∨ j = 7 ∨ j = 8 ∨ j = 9 ∨ j = 10 ∨ j = 11 ∨ j = 12 := by omega
    rcases hj with rfl | rfl | rfl | rfl | rfl | rfl | rfl | rfl | rfl | rfl | rfl | rfl
    · exact p1
    · exact p2
    · exact p3
    · exact p4
    · exact p5
    · exact p6
    · exact p7
    · exact p8
    · exact p9
    · exact p10
    · exact p11
    · exact p12
  have DS : Disp P w K mg base HC WC RC PC := by
    refine ⟨aA, hA, fun j h1 h12 => ⟨_, kA j h1 h12, ?_⟩⟩
    have hj : j = 1 ∨ j = 2 ∨ j = 3 ∨ j = 4 ∨ j = 5 ∨ j = 6 ∨ j = 7 ∨ j = 8 ∨ j = 9 ∨ j = 10 ∨ j = 11 ∨ j = 12 := by omega
    rcases hj with rfl | rfl | rfl | rfl | rfl | rfl | rfl | rfl | rfl | rfl | rfl | rfl
    · exact A1.has (fun _ _ _ _ _ _ us hl => match us, hl with | [_, _, _], _ => rfl) fun F => ok_a1 F TH AC c_Writer
    · exact A2.has (fun _ _ _ _ _ _ us hl => match us, hl with | [_, _, _], _ => rfl) fun F => ok_a2 F TH TW AC h_are_bytes m_Writer_put_packet
    · exact A3.has (fun _ _ _ _ _ _ us hl => match us, hl with | [_, _, _], _ => rfl) fun F => ok_a3 F TH TW AC m_Writer_flush_page
    · exact A4.has (fun _ _ _ _ _ _ us hl => match us, hl with | [_, _, _], _ => rfl) fun F => ok_a4 F TH TW AC m_Writer_take_waiting
    · exact A5.has (fun _ _ _ _ _ _ us hl => match us, hl with | [_, _, _], _ => rfl) fun F => ok_a5 F TH AC c_Reader
    · exact A6.has (fun _ _ _ _ _ _ us hl => match us, hl with | [_, _, _], _ => rfl) fun F => ok_a6 F TH TR AC h_are_bytes m_Reader_feed_bytes
    · exact A7.has (fun _ _ _ _ _ _ us hl => match us, hl with | [_, _, _], _ => rfl) fun F => ok_a7 F TH TR AC m_Reader_close_feeding
    · exact A8.has (fun _ _ _ _ _ _ us hl => match us, hl with | [_, _, _], _ => rfl) fun F => ok_a8 F TH TR TP AC
    · exact A9.has (fun _ _ _ _ _ _ us hl => match us, hl with | [_, _, _], _ => rfl) fun F => ok_a9 F TH TR TP AC m_Reader_take_waiting
    · exact A10.has (fun _ _ _ _ _ _ us hl => match us, hl with | [_, _, _], _ => rfl) fun F => ok_a10 F TH TR AC m_Reader_list_counts
    · exact A11.has (fun _ _ _ _ _ _ us hl => match us, hl with | [_, _, _], _ => rfl) fun F => ok_a11 F TH AC h_are_bytes h_sum_of_bytes
    · exact A12.has (fun _ _ _ _ _ _ us hl => match us, hl with | [_, _, _], _ => rfl) fun F => ok_a12 F TH AC h_are_bytes h_judge
  have c_Call : HasC P w K mg base 1 CC "Call" ["self", "calls", "place"] (spCi K CC) := M20.hasC gCC (fun _ _ _ _ _ _ us hl => match us, hl with | [_, _, _], _ => rfl) fun F => ok_ci F TC SH
  exact ok_all FA TC N.n_len c_Holder c_Call DS
end
end Lp
end
set_option Elab.async false
set_option linter.all false
theorem PySem.W.Fast.tw10662886246462898368 : True := trivial
theorem PySem.W.Fast.tw16678640953408783648 : True := trivial
theorem PySem.W.Fast.tw13187948736325689632 : True := trivial
theorem PySem.W.Fast.tw9118078552808399168 : True := trivial
theorem PySem.W.Fast.tw2588486455922375136 : True := trivial
theorem PySem.W.Fast.tw3369454553891977088 : True := trivial
theorem PySem.W.Fast.tw11028354506576471297 : True := trivial
theorem PySem.W.Fast.tw9373613884308758113 : True := trivial
theorem PySem.W.Fast.tw8611478819896410753 : True := trivial
theorem PySem.W.Fast.tw16174182834914145953 : True := trivial
theorem PySem.W.Fast.tw12790073678645421921 : True := trivial
theorem PySem.W.Fast.tw6164590327153890177 : True := trivial
theorem PySem.W.Fast.tw6388074118621918113 : True := trivial
theorem PySem.W.Fast.tw8965395355571807330 : True := trivial
theorem PySem.W.Fast.tw3681342860267469954 : True := trivial
theorem PySem.W.Fast.tw2141312532346508738 : True := trivial
theorem PySem.W.Fast.tw948822052350320066 : True := trivial
theorem PySem.W.Fast.tw10338315945995847138 : True := trivial
theorem PySem.W.Fast.tw15633890784007498274 : True := trivial
theorem PySem.W.Fast.tw13954888826077381186 : True := trivial
theorem PySem.W.Fast.tw12998886900631845506 : True := trivial
theorem PySem.W.Fast.tw14510781973653182114 : True := trivial
theorem PySem.W.Fast.tw8290124003234774690 : True := trivial
theorem PySem.W.Fast.tw9330586021884517090 : True := trivial
theorem PySem.W.Fast.tw4190564753439068898 : True := trivial
theorem PySem.W.Fast.tw11479277101784631042 : True := trivial
theorem PySem.W.Fast.tw2967435420915763042 : True := trivial
theorem PySem.W.Fast.tw17301328190909759362 : True := trivial
theorem PySem.W.Fast.tw11079239336203637698 : True := trivial
theorem PySem.W.Fast.tw8032831380675965922 : True := trivial
theorem PySem.W.Fast.tw13154911715826111651 : True := trivial
theorem PySem.W.Fast.tw14061227895573558467 : True := trivial
theorem PySem.W.Fast.tw10805610649072385347 : True := trivial
theorem PySem.W.Fast.tw13486693652311379299 : True := trivial
theorem PySem.W.Fast.tw11557288813311246755 : True := trivial
theorem PySem.W.Fast.tw2697475730082506179 : True := trivial
theorem PySem.W.Fast.tw15071296575355729443 : True := trivial
theorem PySem.W.Fast.tw4929510308731735779 : True := trivial
theorem PySem.W.Fast.tw17381180758175427459 : True := trivial
theorem PySem.W.Fast.tw9447284500518852515 : True := trivial
theorem PySem.W.Fast.tw18202158380325278691 : True := trivial
theorem PySem.W.Fast.tw8930394577644463140 : True := trivial
theorem PySem.W.Fast.tw14215565805723297860 : True := trivial
theorem PySem.W.Fast.tw3002750347308131492 : True := trivial
theorem PySem.W.Fast.tw4869980200647652644 : True := trivial
theorem PySem.W.Fast.tw7744107808707856708 : True := trivial
theorem PySem.W.Fast.tw2789817267351924068 : True := trivial
theorem PySem.W.Fast.tw8933280805205006756 : True := trivial
theorem PySem.W.Fast.tw4061109891492686372 : True := trivial
theorem PySem.W.Fast.tw2360554115665858212 : True := trivial
theorem PySem.W.Fast.tw8784957263798959812 : True := trivial
theorem PySem.W.Fast.tw9485473139485529828 : True := trivial
theorem PySem.W.Fast.tw242213257714607908 : True := trivial
theorem PySem.W.Fast.tw13210028798414986084 : True := trivial
theorem PySem.W.Fast.tw2633192369044940644 : True := trivial
theorem PySem.W.Fast.tw7702457077382290340 : True := trivial
theorem PySem.W.Fast.tw1622615167850246084 : True := trivial
theorem PySem.W.Fast.tw13179563705675663332 : True := trivial
theorem PySem.W.Fast.tw17442490964111347749 : True := trivial
theorem PySem.W.Fast.tw14402190745017822277 : True := trivial
theorem PySem.W.Fast.tw5867193852774888645 : True := trivial
theorem PySem.W.Fast.tw15845097175369524613 : True := trivial
theorem PySem.W.Fast.tw9774074572621525413 : True := trivial
theorem PySem.W.Fast.tw4442500941335699941 : True := trivial
theorem PySem.W.Fast.tw11592131393557735045 : True := trivial
theorem PySem.W.Fast.tw15480537084770320005 : True := trivial
theorem PySem.W.Fast.tw7695743574661622565 : True := trivial
theorem PySem.W.Fast.tw2168360703959142309 : True := trivial
theorem PySem.W.Fast.tw4842558116538316902 : True := trivial
theorem PySem.W.Fast.tw9348341315277447302 : True := trivial
theorem PySem.W.Fast.tw14647604251543213318 : True := trivial
theorem PySem.W.Fast.tw9047253629268165478 : True := trivial
theorem PySem.W.Fast.tw18032124835896839207 : True := trivial
theorem PySem.W.Fast.tw10552686581675278407 : True := trivial
theorem PySem.W.Fast.tw344782728661314663 : True := trivial
theorem PySem.W.Fast.tw18232578912965650567 : True := trivial
theorem PySem.W.Fast.tw17375205572574345415 : True := trivial
theorem PySem.W.Fast.tw5175472764937147751 : True := trivial
theorem PySem.W.Fast.tw12256646184111249767 : True := trivial
theorem PySem.W.Fast.tw6182605036591747591 : True := trivial
theorem PySem.W.Fast.tw18057896712317629959 : True := trivial
theorem PySem.W.Fast.tw14617960790817152711 : True := trivial
theorem PySem.W.Fast.tw3434401095113064135 : True := trivial
theorem PySem.W.Fast.tw7026640431792727847 : True := trivial
theorem PySem.W.Fast.tw721816969580380999 : True := trivial
theorem PySem.W.Fast.tw12162204359910794344 : True := trivial
theorem PySem.W.Fast.tw9384519143008413800 : True := trivial
theorem PySem.W.Fast.tw8638894022591165544 : True := trivial
theorem PySem.W.Fast.tw2056597729251276296 : True := trivial
theorem PySem.W.Fast.tw12690564905068143144 : True := trivial
theorem PySem.W.Fast.tw4578995145981705800 : True := trivial
theorem PySem.W.Fast.tw8359792211748057032 : True := trivial
theorem PySem.W.Fast.tw5841697814575804489 : True := trivial
theorem PySem.W.Fast.tw12098860643271200905 : True := trivial
theorem PySem.W.Fast.tw7068194924959827113 : True := trivial
theorem PySem.W.Fast.tw2092515580515496201 : True := trivial
theorem PySem.W.Fast.tw8140874110472909097 : True := trivial
theorem PySem.W.Fast.tw7585386325467442473 : True := trivial
theorem PySem.W.Fast.tw11827930036178152809 : True := trivial
theorem PySem.W.Fast.tw9050920771812475497 : True := trivial
theorem PySem.W.Fast.tw17376428368357920393 : True := trivial
theorem PySem.W.Fast.tw4619759797275878089 : True := trivial
theorem PySem.W.Fast.tw11489401121435815657 : True := trivial
theorem PySem.W.Fast.tw10810713897995196265 : True := trivial
theorem PySem.W.Fast.tw14535825406784744393 : True := trivial
theorem PySem.W.Fast.tw15703144674301676554 : True := trivial
theorem PySem.W.Fast.tw287216710343817354 : True := trivial
theorem PySem.W.Fast.tw8478571961313466506 : True := trivial
theorem PySem.W.Fast.tw1733248389756771562 : True := trivial
theorem PySem.W.Fast.tw13926188551906795850 : True := trivial
theorem PySem.W.Fast.tw2919478111569835370 : True := trivial
theorem PySem.W.Fast.tw2456077631615528426 : True := trivial
theorem PySem.W.Fast.tw6490429339397011946 : True := trivial
theorem PySem.W.Fast.tw14319084755971214858 : True := trivial
theorem PySem.W.Fast.tw12832364776402842122 : True := trivial
theorem PySem.W.Fast.tw13758245236086657738 : True := trivial
theorem PySem.W.Fast.tw6344878626242999018 : True := trivial
theorem PySem.W.Fast.tw8242693077709957866 : True := trivial
theorem PySem.W.Fast.tw17082118153768047402 : True := trivial
theorem PySem.W.Fast.tw5930545819178485546 : True := trivial
theorem PySem.W.Fast.tw1692050049500227370 : True := trivial
theorem PySem.W.Fast.tw1170601244980673354 : True := trivial
theorem PySem.W.Fast.tw9982945397810598762 : True := trivial
theorem PySem.W.Fast.tw12587463084284922762 : True := trivial
theorem PySem.W.Fast.tw14083880039832910762 : True := trivial
theorem PySem.W.Fast.tw9486639439559363851 : True := trivial
theorem PySem.W.Fast.tw10819441966062705995 : True := trivial
theorem PySem.W.Fast.tw5251817309815342443 : True := trivial
theorem PySem.W.Fast.tw16539569919202950539 : True := trivial
theorem PySem.W.Fast.tw12697649164827662731 : True := trivial
theorem PySem.W.Fast.tw2325966086657720811 : True := trivial
theorem PySem.W.Fast.tw15815897302046457323 : True := trivial
theorem PySem.W.Fast.tw1111216026291081803 : True := trivial
theorem PySem.W.Fast.tw5337368680249266923 : True := trivial
theorem PySem.W.Fast.tw9127122146072277867 : True := trivial
theorem PySem.W.Fast.tw14544609341268171723 : True := trivial
theorem PySem.W.Fast.tw9936025438451407851 : True := trivial
theorem PySem.W.Fast.tw7121921159550617644 : True := trivial
theorem PySem.W.Fast.tw461523363374665836 : True := trivial
theorem PySem.W.Fast.tw646900501223455884 : True := trivial
theorem PySem.W.Fast.tw17493411265863182604 : True := trivial
theorem PySem.W.Fast.tw14898898493997971724 : True := trivial
theorem PySem.W.Fast.tw5366147641142585644 : True := trivial
theorem PySem.W.Fast.tw8498388544226134476 : True := trivial
theorem PySem.W.Fast.tw13279832332015327884 : True := trivial
theorem PySem.W.Fast.tw7456543053903671980 : True := trivial
theorem PySem.W.Fast.tw2133685470583861004 : True := trivial
theorem PySem.W.Fast.tw2833223982997546956 : True := trivial
theorem PySem.W.Fast.tw1101491833765649356 : True := trivial
theorem PySem.W.Fast.tw17384655818250381549 : True := trivial
theorem PySem.W.Fast.tw4614715687044679949 : True := trivial
theorem PySem.W.Fast.tw14346800664085711149 : True := trivial
theorem PySem.W.Fast.tw15810871381814594861 : True := trivial
theorem PySem.W.Fast.tw504873993088044397 : True := trivial
theorem PySem.W.Fast.tw15412970812840920525 : True := trivial
theorem PySem.W.Fast.tw6752721227010362861 : True := trivial
theorem PySem.W.Fast.tw6877070929047327277 : True := trivial
theorem PySem.W.Fast.tw10596629447397182157 : True := trivial
theorem PySem.W.Fast.tw4028017927523971885 : True := trivial
theorem PySem.W.Fast.tw8478171912355253229 : True := trivial
theorem PySem.W.Fast.tw16423180820720891885 : True := trivial
theorem PySem.W.Fast.tw6045836766117061646 : True := trivial
theorem PySem.W.Fast.tw7853267841164373038 : True := trivial
theorem PySem.W.Fast.tw11698822054035158286 : True := trivial
theorem PySem.W.Fast.tw5912074926115582254 : True := trivial
theorem PySem.W.Fast.tw11417868398236991886 : True := trivial
theorem PySem.W.Fast.tw6576098108175096206 : True := trivial
theorem PySem.W.Fast.tw9496186365131733614 : True := trivial
theorem PySem.W.Fast.tw17439077499718898510 : True := trivial
theorem PySem.W.Fast.tw6400818679762173934 : True := trivial
theorem PySem.W.Fast.tw2039300185830563919 : True := trivial
theorem PySem.W.Fast.tw16979016734745791599 : True := trivial
theorem PySem.W.Fast.tw4344264629337195663 : True := trivial
theorem PySem.W.Fast.tw5637719933155880079 : True := trivial
theorem PySem.W.Fast.tw12068726903561447599 : True := trivial
theorem PySem.W.Fast.tw10065969080266680559 : True := trivial
theorem PySem.W.Fast.tw9589391013309749487 : True := trivial
theorem PySem.W.Fast.tw6722201497237328623 : True := trivial
theorem PySem.W.Fast.tw2704484830083235567 : True := trivial
theorem PySem.W.Fast.tw6267594850480276207 : True := trivial
theorem PySem.W.Fast.tw9000284778308946895 : True := trivial
theorem PySem.W.Fast.tw6387009947327485232 : True := trivial
theorem PySem.W.Fast.tw9944701628457558352 : True := trivial
theorem PySem.W.Fast.tw7043290932148777296 : True := trivial
theorem PySem.W.Fast.tw11691537447217419728 : True := trivial
theorem PySem.W.Fast.tw5432011646684846576 : True := trivial
theorem PySem.W.Fast.tw5024236418319929904 : True := trivial
theorem PySem.W.Fast.tw15916274724075746992 : True := trivial
theorem PySem.W.Fast.tw13402240382752051984 : True := trivial
theorem PySem.W.Fast.tw4157510478640381776 : True := trivial
theorem PySem.W.Fast.tw14685431273487197040 : True := trivial
theorem PySem.W.Fast.tw3374643853885457489 : True := trivial
theorem PySem.W.Fast.tw898462617799016817 : True := trivial
theorem PySem.W.Fast.tw14171498648859278705 : True := trivial
theorem PySem.W.Fast.tw18366066967509047825 : True := trivial
theorem PySem.W.Fast.tw2268297136234577489 : True := trivial
theorem PySem.W.Fast.tw12973391633534146193 : True := trivial
theorem PySem.W.Fast.tw14498443856982548177 : True := trivial
theorem PySem.W.Fast.tw16312787500437639953 : True := trivial
theorem PySem.W.Fast.tw3725116410509869841 : True := trivial
theorem PySem.W.Fast.tw15418722954231003953 : True := trivial
theorem PySem.W.Fast.tw5328534231357117361 : True := trivial
theorem PySem.W.Fast.tw8317404919821972722 : True := trivial
theorem PySem.W.Fast.tw14602201304742206738 : True := trivial
theorem PySem.W.Fast.tw6184400470128376082 : True := trivial
theorem PySem.W.Fast.tw2038772790870867250 : True := trivial
theorem PySem.W.Fast.tw3281029024334642546 : True := trivial
theorem PySem.W.Fast.tw16497471627903156690 : True := trivial
theorem PySem.W.Fast.tw848126765433049554 : True := trivial
theorem PySem.W.Fast.tw13571251967918471730 : True := trivial
theorem PySem.W.Fast.tw7042370925479170642 : True := trivial
theorem PySem.W.Fast.tw11722867139291635506 : True := trivial
theorem PySem.W.Fast.tw49520918510687122 : True := trivial
theorem PySem.W.Fast.tw6862934460945161106 : True := trivial
theorem PySem.W.Fast.tw14025064738260299955 : True := trivial
theorem PySem.W.Fast.tw13508000827974382835 : True := trivial
theorem PySem.W.Fast.tw13111158241770682707 : True := trivial
theorem PySem.W.Fast.tw4318769699890535763 : True := trivial
theorem PySem.W.Fast.tw2460543816138336691 : True := trivial
theorem PySem.W.Fast.tw7458108638557395379 : True := trivial
theorem PySem.W.Fast.tw8979202107536243219 : True := trivial
theorem PySem.W.Fast.tw17912742811108272691 : True := trivial
theorem PySem.W.Fast.tw13607613814915783251 : True := trivial
theorem PySem.W.Fast.tw14632594211624814195 : True := trivial
theorem PySem.W.Fast.tw10186782013310054067 : True := trivial
theorem PySem.W.Fast.tw12116481335037276083 : True := trivial
theorem PySem.W.Fast.tw12103484887631158259 : True := trivial
theorem PySem.W.Fast.tw15856918057286866292 : True := trivial
theorem PySem.W.Fast.tw1820445678888894868 : True := trivial
theorem PySem.W.Fast.tw13564704960952103444 : True := trivial
theorem PySem.W.Fast.tw4595765863937999476 : True := trivial
theorem PySem.W.Fast.tw14132895450986629812 : True := trivial
theorem PySem.W.Fast.tw10721561772636466868 : True := trivial
theorem PySem.W.Fast.tw3392122313318697684 : True := trivial
theorem PySem.W.Fast.tw15170236216923491092 : True := trivial
theorem PySem.W.Fast.tw11929389829486000948 : True := trivial
theorem PySem.W.Fast.tw12256507745568894900 : True := trivial
theorem PySem.W.Fast.tw6651234247720251413 : True := trivial
theorem PySem.W.Fast.tw8555530138789670261 : True := trivial
theorem PySem.W.Fast.tw13086329913818549653 : True := trivial
theorem PySem.W.Fast.tw7785237271621563957 : True := trivial
theorem PySem.W.Fast.tw2343789355160514165 : True := trivial
theorem PySem.W.Fast.tw818121144173484821 : True := trivial
theorem PySem.W.Fast.tw1514702661741317174 : True := trivial
theorem PySem.W.Fast.tw2151799962389845110 : True := trivial
theorem PySem.W.Fast.tw15036745228990889078 : True := trivial
theorem PySem.W.Fast.tw3067883802890171734 : True := trivial
theorem PySem.W.Fast.tw3291909761148709270 : True := trivial
theorem PySem.W.Fast.tw16159226443208701398 : True := trivial
theorem PySem.W.Fast.tw4368864862062508886 : True := trivial
theorem PySem.W.Fast.tw1584348740164638710 : True := trivial
theorem PySem.W.Fast.tw17544246848134544567 : True := trivial
theorem PySem.W.Fast.tw2192347314348494231 : True := trivial
theorem PySem.W.Fast.tw12942272261150508695 : True := trivial
theorem PySem.W.Fast.tw12593567894173351575 : True := trivial
theorem PySem.W.Fast.tw15054396565428033207 : True := trivial
theorem PySem.W.Fast.tw13857701869067295768 : True := trivial
theorem PySem.W.Fast.tw14920902497177176120 : True := trivial
theorem PySem.W.Fast.tw7799438846151991416 : True := trivial
theorem PySem.W.Fast.tw11024930971296280696 : True := trivial
theorem PySem.W.Fast.tw11270905871780038808 : True := trivial
theorem PySem.W.Fast.tw17648029158194984088 : True := trivial
theorem PySem.W.Fast.tw3235284597911553368 : True := trivial
theorem PySem.W.Fast.tw1877332772379606552 : True := trivial
theorem PySem.W.Fast.tw18035202960413923896 : True := trivial
theorem PySem.W.Fast.tw16213516454816847576 : True := trivial
theorem PySem.W.Fast.tw2532822951852514040 : True := trivial
theorem PySem.W.Fast.tw10842072240944937848 : True := trivial
theorem PySem.W.Fast.tw13161510090243166136 : True := trivial
theorem PySem.W.Fast.tw14939950091997712441 : True := trivial
theorem PySem.W.Fast.tw13315083205067848825 : True := trivial
theorem PySem.W.Fast.tw6910139687634439897 : True := trivial
theorem PySem.W.Fast.tw8513673473860084505 : True := trivial
theorem PySem.W.Fast.tw6935861836337921849 : True := trivial
theorem PySem.W.Fast.tw12856719410353778714 : True := trivial
theorem PySem.W.Fast.tw15599093616337571034 : True := trivial
theorem PySem.W.Fast.tw11291498803277303066 : True := trivial
theorem PySem.W.Fast.tw16704319046441379130 : True := trivial
theorem PySem.W.Fast.tw8272386358066643322 : True := trivial
theorem PySem.W.Fast.tw6368065754555262522 : True := trivial
theorem PySem.W.Fast.tw14193098464938805946 : True := trivial
theorem PySem.W.Fast.tw4723006891200861914 : True := trivial
theorem PySem.W.Fast.tw3436954460057551706 : True := trivial
theorem PySem.W.Fast.tw10340218825573441402 : True := trivial
theorem PySem.W.Fast.tw5225822886781890715 : True := trivial
theorem PySem.W.Fast.tw18287368866967052443 : True := trivial
theorem PySem.W.Fast.tw15045494818613073083 : True := trivial
theorem PySem.W.Fast.tw12463852985272633627 : True := trivial
theorem PySem.W.Fast.tw5015235976994876795 : True := trivial
theorem PySem.W.Fast.tw16332411402288061883 : True := trivial
theorem PySem.W.Fast.tw15891108271949097563 : True := trivial
theorem PySem.W.Fast.tw16026170108315775611 : True := trivial
theorem PySem.W.Fast.tw9163783123524032123 : True := trivial
theorem PySem.W.Fast.tw12792703239597218491 : True := trivial
theorem PySem.W.Fast.tw4354295802461346651 : True := trivial
theorem PySem.W.Fast.tw125535569640609691 : True := trivial
theorem PySem.W.Fast.tw1303302207809775547 : True := trivial
theorem PySem.W.Fast.tw4008929330181269532 : True := trivial
theorem PySem.W.Fast.tw12651024351654825084 : True := trivial
theorem PySem.W.Fast.tw14469354265305549020 : True := trivial
theorem PySem.W.Fast.tw5355234164199382460 : True := trivial
theorem PySem.W.Fast.tw18044120101305084796 : True := trivial
theorem PySem.W.Fast.tw12728002284054008732 : True := trivial
theorem PySem.W.Fast.tw11208552122170379357 : True := trivial
theorem PySem.W.Fast.tw11331455536779889853 : True := trivial
theorem PySem.W.Fast.tw3771181216584952029 : True := trivial
theorem PySem.W.Fast.tw1397116633796162141 : True := trivial
theorem PySem.W.Fast.tw15463987854765812413 : True := trivial
theorem PySem.W.Fast.tw9287974334707385181 : True := trivial
theorem PySem.W.Fast.tw2071237286187968542 : True := trivial
theorem PySem.W.Fast.tw1241191104444300542 : True := trivial
theorem PySem.W.Fast.tw4574586454929014206 : True := trivial
theorem PySem.W.Fast.tw16519070724661868990 : True := trivial
theorem PySem.W.Fast.tw18123175622158699998 : True := trivial
theorem PySem.W.Fast.tw10117060883782766078 : True := trivial
theorem PySem.W.Fast.tw6903662259772168702 : True := trivial
theorem PySem.W.Fast.tw12769499425467000318 : True := trivial
theorem PySem.W.Fast.tw3059342416483137054 : True := trivial
theorem PySem.W.Fast.tw3816463114703530782 : True := trivial
theorem PySem.W.Fast.tw697759662747527038 : True := trivial
theorem PySem.W.Fast.tw10435337302906615678 : True := trivial
theorem PySem.W.Fast.tw1470224923477638014 : True := trivial
theorem PySem.W.Fast.tw2589511474588158878 : True := trivial
theorem PySem.W.Fast.tw14695427122381079518 : True := trivial
theorem PySem.W.Fast.tw11776224964186265598 : True := trivial
theorem PySem.W.Fast.tw1933577154676837471 : True := trivial
theorem PySem.W.Fast.tw9709046868434263231 : True := trivial
theorem PySem.W.Fast.tw15262029423280608511 : True := trivial
theorem PySem.W.Fast.tw1707040647753774367 : True := trivial
theorem PySem.W.Fast.tw11529935696514604351 : True := trivial
theorem PySem.W.Fast.tw14994452952072099263 : True := trivial
theorem PySem.W.Fast.tw18366215855467094527 : True := trivial
theorem PySem.W.Fast.tw4608630572488255231 : True := trivial
theorem PySem.W.Fast.tw1943052750810292223 : True := trivial
open PySem PySem.W PyProof.Rows
set_option maxRecDepth 100000 in
set_option maxHeartbeats 0 in
theorem PySem.Challenge.cw_lacedpages_s01_answers_holds : PySem.Challenge.rw_lacedpages_s01_answers.Holds := by
  w_on; k_headS; (case hw => exact ⟨[.list [.int 3]], by decide +kernel, by decide +kernel⟩)
  k_fillS
  refine L2.walk_specK (r := PySem.Challenge.rw_lacedpages_s01_answers) (k := 9) (CX := L2.CX0) (ps := ["calls"]) (sp := Lp.spAll) (by decide +kernel) rfl rfl ⟨rfl, by decide, by decide⟩ (fun w h Y => PySem.W.kIn_of Y) ?F ?S (fun _ _ _ _ z => z)
  case F =>
    intro w mg fa h Y KX G hmg
    refine' Lp.all_mk hmg ⟨Lp.cst_mk KX G ?k_POLYNOMIAL, Lp.cst_mk KX G ?k_TOP_BIT, Lp.cst_mk KX G ?k_LOW_BITS, Lp.cst_mk KX G ?k_FLAGS_AT, Lp.cst_mk KX G ?k_POSITION_AT, Lp.cst_mk KX G ?k_STREAM_AT, Lp.cst_mk KX G ?k_NUMBER_AT, Lp.cst_mk KX G ?k_SUM_AT, Lp.cst_mk KX G ?k_COUNT_AT, Lp.cst_mk KX G ?k_VALUES_AT, Lp.cst_mk KX G ?k_IN_MIDST, Lp.cst_mk KX G ?k_FIRST_PAGE, Lp.cst_mk KX G ?k_LAST_PAGE, Lp.cst_mk KX G ?k_TOP_FLAGS, Lp.cst_mk KX G ?k_MOST_VALUES, Lp.cst_mk KX G ?k_FULL_VALUE, Lp.cst_mk KX G ?k_LONGEST_PACKET, Lp.cst_mk KX G ?k_ALL_BITS_SET, Lp.cst_mk KX G ?k_PAGE_NUMBERS, Lp.cst_mk KX G ?k_WAITS_FOR_MORE, Lp.cst_mk KX G ?k_NO_PAGE, Lp.cst_mk KX G ?k_OLD_FROM, Lp.cst_mk KX G ?k_NO_POSITION, Lp.cst_mk KX G ?k_DONE, Lp.cst_mk KX G ?k_NOT_AS_TOLD, Lp.cst_mk KX G ?k_TOO_LONG, Lp.cst_mk KX G ?k_LAST_CAME, Lp.cst_mk KX G ?k_PAGES_WAIT, Lp.cst_mk KX G ?k_NONE_WAITS, Lp.cst_mk KX G ?k_TOP_STREAM, Lp.cst_mk KX G ?k_TOP_POSITION, Lp.cst_mk KX G ?k_MOST_BYTES, PySem.W.mg_none_of KX G ?z_range, PySem.W.mg_none_of KX G ?z_len, PySem.W.mg_none_of KX G ?z_reversed, PySem.W.mg_none_of KX G ?z_list, PySem.W.mg_none_of KX G ?z_min, PySem.W.mg_none_of KX G ?z_sum, PySem.W.mg_none_of KX G ?z_all⟩ (Lp.mark_mk KX G ?mk0 ?mk1)
      (Lp.gcls KX G ?PC_a ?PC_pg ?PC_hd ?PC_po ?PC_sa ?PC_mk ?PC_kc) ⟨?PC_n_position, ?PC_n_hole, ?PC_n_last, ?PC_n_body⟩
      (Lp.gcls KX G ?RC_a ?RC_pg ?RC_hd ?RC_po ?RC_sa ?RC_mk ?RC_kc) ⟨?RC_n_stream, ?RC_n_table, ?RC_n_unjudged, ?RC_n_closed, ?RC_n_last_number, ?RC_n_over, ?RC_n_begun, ?RC_n_hole, ?RC_n_packets_waiting, ?RC_n_pages_taken, ?RC_n_pages_of_others, ?RC_n_pages_too_late, ?RC_n_bytes_passed, ?RC_n_packets_dropped⟩
      (Lp.gcls KX G ?WC_a ?WC_pg ?WC_hd ?WC_po ?WC_sa ?WC_mk ?WC_kc) ⟨?WC_n_stream, ?WC_n_table, ?WC_n_last_came, ?WC_n_pages_waiting, ?WC_n_number, ?WC_n_flags, ?WC_n_position, ?WC_n_lacing, ?WC_n_body⟩
      (Lp.gcls KX G ?HC_a ?HC_pg ?HC_hd ?HC_po ?HC_sa ?HC_mk ?HC_kc) ⟨?HC_n_table, ?HC_n_writer, ?HC_n_reader⟩
      (Lp.gcls KX G ?CC_a ?CC_pg ?CC_hd ?CC_po ?CC_sa ?CC_mk ?CC_kc) ⟨?CC_n_number, ?CC_n_behind, ?CC_n_numbers, ?CC_n_row⟩
      (Lp.gfun KX G ?F0a ?F0l ?F0c ?F0k)
      (Lp.gfun KX G ?F1a ?F1l ?F1c ?F1k)
      (Lp.gfun KX G ?F2a ?F2l ?F2c ?F2k)
      (Lp.gfun KX G ?F3a ?F3l ?F3c ?F3k)
      (Lp.gfun KX G ?F4a ?F4l ?F4c ?F4k)
      (Lp.gfun KX G ?F5a ?F5l ?F5c ?F5k)
      (Lp.gfun KX G ?F6a ?F6l ?F6c ?F6k)
      (Lp.gfun KX G ?F7a ?F7l ?F7c ?F7k)
      (Lp.gfun KX G ?F8a ?F8l ?F8c ?F8k)
      (Lp.gfun KX G ?F9a ?F9l ?F9c ?F9k)
      (Lp.gfun KX G ?F10a ?F10l ?F10c ?F10k)
      (Lp.gfun KX G ?F11a ?F11l ?F11c ?F11k)
      (Lp.mfun ?M0a ?M0i ?M0l ?M0c ?M0k)
      (Lp.mfun ?M1a ?M1i ?M1l ?M1c ?M1k)
      (Lp.mfun ?M2a ?M2i ?M2l ?M2c ?M2k)
      (Lp.mfun ?M3a ?M3i ?M3l ?M3c ?M3k)
      (Lp.mfun ?M4a ?M4i ?M4l ?M4c ?M4k)
      (Lp.mfun ?M5a ?M5i ?M5l ?M5c ?M5k)
      (Lp.mfun ?M6a ?M6i ?M6l ?M6c ?M6k)
      (Lp.mfun ?M7a ?M7i ?M7l ?M7c ?M7k)
      (Lp.mfun ?M8a ?M8i ?M8l ?M8c ?M8k)
      (Lp.mfun ?M9a ?M9i ?M9l ?M9c ?M9k)
      (Lp.mfun ?M10a ?M10i ?M10l ?M10c ?M10k)
      (Lp.mfun ?M11a ?M11i ?M11l ?M11c ?M11k)
      (Lp.mfun ?M12a ?M12i ?M12l ?M12c ?M12k)
      (Lp.mfun ?M13a ?M13i ?M13l ?M13c ?M13k)
      (Lp.mfun ?M14a ?M14i ?M14l ?M14c ?M14k)
      (Lp.mfun ?M15a ?M15i ?M15l ?M15c ?M15k)
      (Lp.mfun ?M16a ?M16i ?M16l ?M16c ?M16k)
      (Lp.mfun ?M17a ?M17i ?M17l ?M17c ?M17k)
      (Lp.mfun ?M18a ?M18i ?M18l ?M18c ?M18k)
      (Lp.mfun ?M19a ?M19i ?M19l ?M19c ?M19k)
      (Lp.mfun ?M20a ?M20i ?M20l ?M20c ?M20k)
      (PySem.W.mg_of KX G ?S_a) (Lp.kget12 ?S_l)
      (Lp.pair_mk ?S_1)
      (Lp.pair_mk ?S_2)
      (Lp.pair_mk ?S_3)
      (Lp.pair_mk ?S_4)
      (Lp.pair_mk ?S_5)
      (Lp.pair_mk ?S_6)
      (Lp.pair_mk ?S_7)
      (Lp.pair_mk ?S_8)
      (Lp.pair_mk ?S_9)
      (Lp.pair_mk ?S_10)
      (Lp.pair_mk ?S_11)
      (Lp.pair_mk ?S_12)
      (PySem.W.mg_of KX G ?A_a) (Lp.kget12 ?A_l)
      (Lp.ffun ?A1l ?A1c ?A1k)
      (Lp.ffun ?A2l ?A2c ?A2k)
      (Lp.ffun ?A3l ?A3c ?A3k)
      (Lp.ffun ?A4l ?A4c ?A4k)
      (Lp.ffun ?A5l ?A5c ?A5k)
      (Lp.ffun ?A6l ?A6c ?A6k)
      (Lp.ffun ?A7l ?A7c ?A7k)
      (Lp.ffun ?A8l ?A8c ?A8k)
      (Lp.ffun ?A9l ?A9c ?A9k)
      (Lp.ffun ?A10l ?A10c ?A10k)
      (Lp.ffun ?A11l ?A11c ?A11k)
      (Lp.ffun ?A12l ?A12c ?A12k)
      (Lp.gfun KX G ?FAa ?FAl ?FAc ?FAk)
    (case k_POLYNOMIAL => k_is)
    (case k_TOP_BIT => k_is)
    (case k_LOW_BITS => k_is)
    (case k_FLAGS_AT => k_is)
    (case k_POSITION_AT => k_is)
    (case k_STREAM_AT => k_is)
    (case k_NUMBER_AT => k_is)
    (case k_SUM_AT => k_is)
    (case k_COUNT_AT => k_is)
    (case k_VALUES_AT => k_is)
    (case k_IN_MIDST => k_is)
    (case k_FIRST_PAGE => k_is)
    (case k_LAST_PAGE => k_is)
    (case k_TOP_FLAGS => k_is)
    (case k_MOST_VALUES => k_is)
    (case k_FULL_VALUE => k_is)
    (case k_LONGEST_PACKET => k_is)
    (case k_ALL_BITS_SET => k_is)
    (case k_PAGE_NUMBERS => k_is)
    (case k_WAITS_FOR_MORE => k_is)
    (case k_NO_PAGE => k_is)
    (case k_OLD_FROM => k_is)
    (case k_NO_POSITION => k_is)
    (case k_DONE => k_is)
    (case k_NOT_AS_TOLD => k_is)
    (case k_TOO_LONG => k_is)
    (case k_LAST_CAME => k_is)
    (case k_PAGES_WAIT => k_is)
    (case k_NONE_WAITS => k_is)
    (case k_TOP_STREAM => k_is)
    (case k_TOP_POSITION => k_is)
    (case k_MOST_BYTES => k_is)
    (case z_range => k_is)
    (case z_len => k_is)
    (case z_reversed => k_is)
    (case z_list => k_is)
    (case z_min => k_is)
    (case z_sum => k_is)
    (case z_all => k_is)
    (case mk0 => k_is)
    (case mk1 => k_is)
    (case PC_a => k_is)
    (case PC_pg => k_is)
    (case PC_hd => k_is)
    (case PC_po => k_is)
    (case PC_sa => k_is)
    (case PC_mk => k_is)
    (case PC_kc => k_is)
    (case PC_n_position => k_is)
    (case PC_n_hole => k_is)
    (case PC_n_last => k_is)
    (case PC_n_body => k_is)
    (case RC_a => k_is)
    (case RC_pg => k_is)
    (case RC_hd => k_is)
    (case RC_po => k_is)
    (case RC_sa => k_is)
    (case RC_mk => k_is)
    (case RC_kc => k_is)
    (case RC_n_stream => k_is)
    (case RC_n_table => k_is)
    (case RC_n_unjudged => k_is)
    (case RC_n_closed => k_is)
    (case RC_n_last_number => k_is)
    (case RC_n_over => k_is)
    (case RC_n_begun => k_is)
    (case RC_n_hole => k_is)
    (case RC_n_packets_waiting => k_is)
    (case RC_n_pages_taken => k_is)
    (case RC_n_pages_of_others => k_is)
    (case RC_n_pages_too_late => k_is)
    (case RC_n_bytes_passed => k_is)
    (case RC_n_packets_dropped => k_is)
    (case WC_a => k_is)
    (case WC_pg => k_is)
    (case WC_hd => k_is)
    (case WC_po => k_is)
    (case WC_sa => k_is)
    (case WC_mk => k_is)
    (case WC_kc => k_is)
    (case WC_n_stream => k_is)
    (case WC_n_table => k_is)
    (case WC_n_last_came => k_is)
    (case WC_n_pages_waiting => k_is)
    (case WC_n_number => k_is)
    (case WC_n_flags => k_is)
    (case WC_n_position => k_is)
    (case WC_n_lacing => k_is)
    (case WC_n_body => k_is)
    (case HC_a => k_is)
    (case HC_pg => k_is)
    (case HC_hd => k_is)
    (case HC_po => k_is)
    (case HC_sa => k_is)
    (case HC_mk => k_is)
    (case HC_kc => k_is)
    (case HC_n_table => k_is)
    (case HC_n_writer => k_is)
    (case HC_n_reader => k_is)
    (case CC_a => k_is)
    (case CC_pg => k_is)
    (case CC_hd => k_is)
    (case CC_po => k_is)
    (case CC_sa => k_is)
    (case CC_mk => k_is)
    (case CC_kc => k_is)
    (case CC_n_number => k_is)
    (case CC_n_behind => k_is)
    (case CC_n_numbers => k_is)
    (case CC_n_row => k_is)
    (case F0a => k_is)
    (case F0l => k_is)
    (case F0c => k_is)
    (case F0k => k_is)
    (case F1a => k_is)
    (case F1l => k_is)
    (case F1c => k_is)
    (case F1k => k_is)
    (case F2a => k_is)
    (case F2l => k_is)
    (case F2c => k_is)
    (case F2k => k_is)
    (case F3a => k_is)
    (case F3l => k_is)
    (case F3c => k_is)
    (case F3k => k_is)
    (case F4a => k_is)
    (case F4l => k_is)
    (case F4c => k_is)
    (case F4k => k_is)
    (case F5a => k_is)
    (case F5l => k_is)
    (case F5c => k_is)
    (case F5k => k_is)
    (case F6a => k_is)
    (case F6l => k_is)
    (case F6c => k_is)
    (case F6k => k_is)
    (case F7a => k_is)
    (case F7l => k_is)
    (case F7c => k_is)
    (case F7k => k_is)
    (case F8a => k_is)
    (case F8l => k_is)
    (case F8c => k_is)
    (case F8k => k_is)
    (case F9a => k_is)
    (case F9l => k_is)
    (case F9c => k_is)
    (case F9k => k_is)
    (case F10a => k_is)
    (case F10l => k_is)
    (case F10c => k_is)
    (case F10k => k_is)
    (case F11a => k_is)
    (case F11l => k_is)
    (case F11c => k_is)
    (case F11k => k_is)
    (case M0a => k_is)
    (case M0i => k_is)
    (case M0l => k_is)
    (case M0c => k_is)
    (case M0k => k_is)
    (case M1a => k_is)
    (case M1i => k_is)
    (case M1l => k_is)
    (case M1c => k_is)
    (case M1k => k_is)
    (case M2a => k_is)
    (case M2i => k_is)
    (case M2l => k_is)
    (case M2c => k_is)
    (case M2k => k_is)
    (case M3a => k_is)
    (case M3i => k_is)
    (case M3l => k_is)
    (case M3c => k_is)
    (case M3k => k_is)
    (case M4a => k_is)
    (case M4i => k_is)
    (case M4l => k_is)
    (case M4c => k_is)
    (case M4k => k_is)
    (case M5a => k_is)
    (case M5i => k_is)
    (case M5l => k_is)
    (case M5c => k_is)
    (case M5k => k_is)
    (case M6a => k_is)
    (case M6i => k_is)
    (case M6l => k_is)
    (case M6c => k_is)
    (case M6k => k_is)
    (case M7a => k_is)
    (case M7i => k_is)
    (case M7l => k_is)
    (case M7c => k_is)
    (case M7k => k_is)
    (case M8a => k_is)
    (case M8i => k_is)
    (case M8l => k_is)
    (case M8c => k_is)
    (case M8k => k_is)
    (case M9a => k_is)
    (case M9i => k_is)
    (case M9l => k_is)
    (case M9c => k_is)
    (case M9k => k_is)
    (case M10a => k_is)
    (case M10i => k_is)
    (case M10l => k_is)
    (case M10c => k_is)
    (case M10k => k_is)
    (case M11a => k_is)
    (case M11i => k_is)
    (case M11l => k_is)
    (case M11c => k_is)
    (case M11k => k_is)
    (case M12a => k_is)
    (case M12i => k_is)
    (case M12l => k_is)
    (case M12c => k_is)
    (case M12k => k_is)
    (case M13a => k_is)
    (case M13i => k_is)
    (case M13l => k_is)
    (case M13c => k_is)
    (case M13k => k_is)
    (case M14a => k_is)
    (case M14i => k_is)
    (case M14l => k_is)
    (case M14c => k_is)
    (case M14k => k_is)
    (case M15a => k_is)
    (case M15i => k_is)
    (case M15l => k_is)
    (case M15c => k_is)
    (case M15k => k_is)
    (case M16a => k_is)
    (case M16i => k_is)
    (case M16l => k_is)
    (case M16c => k_is)
    (case M16k => k_is)
    (case M17a => k_is)
    (case M17i => k_is)
    (case M17l => k_is)
    (case M17c => k_is)
    (case M17k => k_is)
    (case M18a => k_is)
    (case M18i => k_is)
    (case M18l => k_is)
    (case M18c => k_is)
    (case M18k => k_is)
    (case M19a => k_is)
    (case M19i => k_is)
    (case M19l => k_is)
    (case M19c => k_is)
    (case M19k => k_is)
    (case M20a => k_is)
    (case M20i => k_is)
    (case M20l => k_is)
    (case M20c => k_is)
    (case M20k => k_is)
    (case S_a => k_is)
    (case S_l => k_is)
    (case S_1 => k_is)
    (case S_2 => k_is)
    (case S_3 => k_is)
    (case S_4 => k_is)
    (case S_5 => k_is)
    (case S_6 => k_is)
    (case S_7 => k_is)
    (case S_8 => k_is)
    (case S_9 => k_is)
    (case S_10 => k_is)
    (case S_11 => k_is)
    (case S_12 => k_is)
    (case A_a => k_is)
    (case A_l => k_is)
    (case A1l => k_is)
    (case A1c => k_is)
    (case A1k => k_is)
    (case A2l => k_is)
    (case A2c => k_is)
    (case A2k => k_is)
    (case A3l => k_is)
    (case A3c => k_is)
    (case A3k => k_is)
    (case A4l => k_is)
    (case A4c => k_is)
    (case A4k => k_is)
    (case A5l => k_is)
    (case A5c => k_is)
    (case A5k => k_is)
    (case A6l => k_is)
    (case A6c => k_is)
    (case A6k => k_is)
    (case A7l => k_is)
    (case A7c => k_is)
    (case A7k => k_is)
    (case A8l => k_is)
    (case A8c => k_is)
    (case A8k => k_is)
    (case A9l => k_is)
    (case A9c => k_is)
    (case A9k => k_is)
    (case A10l => k_is)
    (case A10c => k_is)
    (case A10k => k_is)
    (case A11l => k_is)
    (case A11c => k_is)
    (case A11k => k_is)
    (case A12l => k_is)
    (case A12c => k_is)
    (case A12k => k_is)
    (case FAa => k_is)
    (case FAl => k_is)
    (case FAc => k_is)
    (case FAk => k_is)
  case S =>
    intro K H xs a hO hwi hask hx
    cases hx with
    | cons h1 h2 =>
      cases h2
      cases h1 with
      | lst hs ha =>
        have e := L2.ints_dw a.1 _ ha
        subst e
        have q : ((Codec.inLen 0 16000 a.1 && a.1.all (Codec.inInt (Int.negSucc 9223372036854775807) (Int.ofNat 18446744073709551615))) && true) = true := hwi
        rw [Bool.and_eq_true, Bool.and_eq_true] at q
        have hask' : PyWqadan.answers_asked a.1 = true := hask
        exact ⟨_, a.1, rfl, hs, (Codec.inNat_iff.mp q.1.1).2, hask', fun H' p hp => .lst (L2.SqL.of hp) (L2.dw_ints _)⟩
