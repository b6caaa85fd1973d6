import PyProof.Rows.All
import Wide.All
import OpenK.AllK
import Wide.FinOn
import PyProof.EqAt
import PyProof.EqKinds
import PyProof.TupleCall
import KE.BitLaws
import PyProof.P3In
import Open.SpecLaws
import KE.OsHead
import KE.OsGo
import PySem.Challenge.RW_makeups_s06_cut
set_option Elab.async false
set_option linter.all false
set_option maxRecDepth 100000
set_option maxHeartbeats 2000000
section
namespace L2
open PySem PySem.Spec PyProof.Rows
abbrev Key := Sum Int Str
def keyIs : Key → Value → Bool
  | .inl k, v => Value.isInt k v
  | .inr x, v => Value.isStrOf x v
def keyH (w : World) : Key → Int
  | .inl k => hashInt k
  | .inr x => hashStr w x
theorem keyIs_shape : ∀ {k : Key} {v : Value}, keyIs k v = true → (∃ i t, k = Sum.inl i ∧ v = Value.int i t) ∨ (∃ x t, k = Sum.inr x ∧ v = Value.str x t)
  | .inl i, v, h => by
    obtain ⟨t, e⟩ := Value.isInt_shape (k := i) (v := v) h
    exact .inl ⟨i, t, rfl, e⟩
  | .inr x, v, h => by
    obtain ⟨t, e⟩ := Value.isStrOf_shape (x := x) (v := v) h
    exact .inr ⟨x, t, rfl, e⟩
theorem key_ll (a b : Int) : decide ((Sum.inl a : Key) = Sum.inl b) = (a == b) := by
  by_cases e : a = b
  · subst e; simp
  · have h : ¬ (Sum.inl a : Key) = Sum.inl b := fun q => e (Sum.inl.inj q)
    rw [decide_eq_false h]
    exact (beq_eq_false_iff_ne.mpr e).symm
theorem key_rr (a b : Str) : decide ((Sum.inr a : Key) = Sum.inr b) = decide (a = b) := by
  by_cases e : a = b
  · subst e; simp
  · have h : ¬ (Sum.inr a : Key) = Sum.inr b := fun q => e (Sum.inr.inj q)
    rw [decide_eq_false h, decide_eq_false e]
theorem key_lr (a : Int) (b : Str) : decide ((Sum.inl a : Key) = Sum.inr b) = false := decide_eq_false (fun q => nomatch q)
theorem key_rl (a : Str) (b : Int) : decide ((Sum.inr a : Key) = Sum.inl b) = false := decide_eq_false (fun q => nomatch q)
def mixKind (prog : Program) (w : World) : PySem.KeyKind prog w Key where
  is := keyIs
  hash := keyH w
  inj := fun v a b ha hb => by
    rcases keyIs_shape ha with ⟨i, t, rfl, rfl⟩ | ⟨x, t, rfl, rfl⟩
    · rcases keyIs_shape hb with ⟨j, u, rfl, e⟩ | ⟨y, u, rfl, e⟩
      · injection e with e1 _; rw [e1]
      · exact nomatch e
    · rcases keyIs_shape hb with ⟨j, u, rfl, e⟩ | ⟨y, u, rfl, e⟩
      · exact nomatch e
      · injection e with e1 _; rw [e1]
  byValue := fun k v h => by
    rcases keyIs_shape h with ⟨i, t, rfl, rfl⟩ | ⟨x, t, rfl, rfl⟩ <;> rfl
  pyHash := fun hv h => by
    rcases keyIs_shape hv with ⟨i, t, rfl, rfl⟩ | ⟨x, t, rfl, rfl⟩
    · exact wpAny_pyHash_int h
    · exact wpAny_pyHash_str h
  eqBool := fun hu hv h => by
    rcases keyIs_shape hu with ⟨i, t, rfl, rfl⟩ | ⟨x, t, rfl, rfl⟩
    · rcases keyIs_shape hv with ⟨j, u, rfl, rfl⟩ | ⟨y, u, rfl, rfl⟩
      · rw [key_ll] at h; exact wpAny_eqBool_int h
      · rw [key_lr] at h; exact SeqAt.EqAt.int_str i t y u _ _ _ _ h
    · rcases keyIs_shape hv with ⟨j, u, rfl, rfl⟩ | ⟨y, u, rfl, rfl⟩
      · rw [key_rl] at h; exact SeqAt.EqAt.str_int x t j u _ _ _ _ h
      · rw [key_rr] at h; exact wpAny_eqBool_str h
  «strs» := fun k x t v h => by
    rcases keyIs_shape h with ⟨i, u, rfl, e⟩ | ⟨y, u, rfl, e⟩
    · exact nomatch e
    · injection e with e1 _
      subst e1
      cases v <;> rfl
end L2
namespace L2
open PySem PySem.Spec PyProof.Rows
inductive V where
  | non | bl (b : Bool) | int (i : Int) | str (x : Str) | byt (b : Array UInt8) | flt (b : UInt64) | ref (a : Addr) | ty (n : String)
  deriving DecidableEq
def RelV : V → Value → Prop
  | .non, u => u = Value.none
  | .bl b, u => u = Value.bool b
  | .int i, u => ∃ t, u = Value.int i t
  | .str x, u => ∃ t, u = Value.str x t
  | .byt b, u => ∃ t, u = Value.bytes b t
  | .flt b, u => ∃ t, u = Value.float b t
  | .ref a, u => u = Value.ref a
  | .ty n, u => u = Value.type n
abbrev Vals : List V → List Value → Prop := Paired RelV
theorem Vals.length {xs : List V} {us : List Value} (r : Vals xs us) : xs.length = us.length := Paired.length r
theorem Vals.get : ∀ {xs : List V} {us : List Value} {i : Nat} {x : V}, Vals xs us → xs[i]? = some x → ∃ u, us[i]? = some u ∧ RelV x u
  | _, _, _, _, .nil, e => by simp at e
  | _, _, 0, _, .cons r _, e => by simp at e; subst e; exact ⟨_, rfl, r⟩
  | _, _, i + 1, x, .cons _ t, e => by
    obtain ⟨u, h1, h2⟩ := Vals.get (i := i) (x := x) t (by simpa using e)
    exact ⟨u, by simpa using h1, h2⟩
theorem Vals.set {x : V} {u : Value} (r : RelV x u) : ∀ {xs : List V} {us : List Value} (i : Nat), Vals xs us → Vals (xs.set i x) (us.set i u)
  | _, _, _, .nil => .nil
  | _, _, 0, .cons _ t => .cons r t
  | _, _, i + 1, .cons q t => .cons q (Vals.set r i t)
theorem Vals.append : ∀ {xs ys : List V} {us ws : List Value}, Vals xs us → Vals ys ws → Vals (xs ++ ys) (us ++ ws)
  | _, _, _, _, .nil, s => s
  | _, _, _, _, .cons r t, s => .cons r (Vals.append t s)
theorem Vals.take : ∀ {xs : List V} {us : List Value} (n : Nat), Vals xs us → Vals (xs.take n) (us.take n)
  | _, _, 0, _ => .nil
  | _, _, _ + 1, .nil => .nil
  | _, _, n + 1, .cons r t => .cons r (Vals.take n t)
theorem Vals.drop : ∀ {xs : List V} {us : List Value} (n : Nat), Vals xs us → Vals (xs.drop n) (us.drop n)
  | _, _, 0, r => r
  | _, _, _ + 1, .nil => .nil
  | _, _, n + 1, .cons _ t => Vals.drop n t
def RelO : Option V → Option Value → Prop
  | some v, some u => RelV v u
  | none, none => True
  | _, _ => False
def KV {κ : Type} : List (κ × V) → List (κ × Value) → Prop := Paired fun (p : κ × V) (q : κ × Value) => p.1 = q.1 ∧ RelV p.2 q.2
def kV : Key → V
  | .inl i => .int i
  | .inr x => .str x
inductive HO where
  /-- a list -/
  | lst (xs : List V)
  /-- a tuple (never changes) -/
  | tup (xs : List V)
  /-- a dict whose keys are ints and texts; one whose keys are tuples of ints and texts (the empty one is both) -/
  | dK (kvs : List (Key × V)) | dT (kvs : List (List Key × V))
  /-- a set of ints: its members, its size -/
  | set (S : Int → Bool) (n : Nat)
  /-- an instance of the class at C, its dict at dx, its attributes -/
  | ins (C dx : Addr) (fs : List (Str × V))
  /-- the dict of the instance at x -/
  | own (x : Addr)
  /-- the dict of an exception -/
  | xd (fs : List (Str × V))
  /-- a bound method, f of x -/
  | met (f x : Addr)
  /-- a range object lo, lo + 1, .. below hi -/
  | rng (lo hi : Int)
  /-- a thing that is known to the object (the script; a dict while a loop walks it): read, never written while it is so -/
  | frz (o : Obj) (u : HO)
  /-- a code object's table -/
  | tbl (ps : Array Value)
  /-- any other thing, by what is true of its one object (a def of one's own: SetO a S n := HO.ext fun h => ..) -/
  | ext (φ : Heap → Prop)
abbrev Hp := Addr → Option HO
def upd (H : Hp) (a : Addr) (o : HO) : Hp := fun b => if b = a then some o else H b
theorem upd_same {H : Hp} {a : Addr} {o : HO} : upd H a o a = some o := by unfold upd; rw [if_pos rfl]
theorem upd_ne {H : Hp} {a b : Addr} {o : HO} (h : b ≠ a) : upd H a o b = H b := by unfold upd; rw [if_neg h]
theorem upd_upd {H : Hp} {a : Addr} {o u : HO} : upd (upd H a o) a u = upd H a u := by
  funext b; unfold upd; split <;> rfl
theorem ne_of {H : Hp} {a b : Addr} {o u : HO} (h : H a = some o) (h' : H b = some u) (d : o ≠ u) : a ≠ b := by
  intro e; subst e; rw [h] at h'; exact d (Option.some.inj h')
theorem ne_of_none {H : Hp} {a b : Addr} {o : HO} (h : H a = some o) (h' : H b = none) : a ≠ b := by
  intro e; subst e; rw [h] at h'; cases h'
section
variable (P : Program) (w : World)
def ObjOk (H : Hp) (h : Heap) (a : Addr) : HO → Prop
  | .lst xs => xs.length ≤ sizeLine ∧ ∃ (its : List Value) (n : Nat), Vals xs its ∧ h.get? a = some { cls := .type "list", data := .seq its.toArray n }
  | .tup xs => xs.length ≤ sizeLine ∧ ∃ its : List Value, Vals xs its ∧ IsTup h a its.toArray
  | .dK kvs => kvs.length ≤ sizeLine ∧ (a == sysModules) = false ∧ ∃ vs, KV kvs vs ∧ h.DictOf (mixKind P w) a vs
  | .dT kvs => kvs.length ≤ sizeLine ∧ (a == sysModules) = false ∧ ∃ xs : List (List Key × Addr × Value),
      Paired (fun (p : List Key × V) (q : List Key × Addr × Value) => p.1 = q.1 ∧ H q.2.1 = some (.tup (p.1.map kV)) ∧ RelV p.2 q.2.2) kvs xs ∧
      ∃ o es ep, h.get? a = some o ∧ o.ExactDict ∧ o.data = .dict es ep ∧ es.toList = xs.map (entryOfKey (tupleKind (mixKind P w))) ∧ (xs.map (·.1)).Nodup
  | .set S n => h.SetOf (intKind P w) a S n
  | .ins C dx fs => H dx = some (.own a) ∧ fs.length ≤ 1000 ∧ dx ≠ a ∧ h.get? a = some (PySem.W.instObj C dx) ∧
      ∃ mA, h.Ns1 dx mA ∧ (∀ f, RelO (fs.lookup f) (mA f)) ∧ PySem.Within mA (fs.map (·.1))
  | .own _ => ∃ o, h.get? a = some o
  | .xd fs => ∃ mA, h.Ns1 a mA ∧ ∀ f, RelO (fs.lookup f) (mA f)
  | .rng lo hi => ∃ t u v, h.get? a = some { cls := .type "range", data := .fields #[.int lo t, .int hi u, .int 1 v] }
  | .frz o u => h.get? a = some o ∧ ObjOk H h a u
  | .tbl ps => h.get? a = some { cls := .none, data := .fields ps }
  | .met f x => h.get? a = some (PySem.W.methodObj (.ref f) (.ref x))
  | .ext φ => φ h ∧ (∃ o, h.get? a = some o) ∧ ∀ h1 h2 : Heap, φ h1 → (∀ o, h1.get? a = some o → h2.get? a = some o) → φ h2
def HOk (H : Hp) (h : Heap) : Prop := ∀ a o, H a = some o → ObjOk P w H h a o
end
section
variable {P : Program} {w : World} {H H' : Hp} {h h' : Heap} {a : Addr} {o : HO}
theorem ObjOk.lt (x : ObjOk P w H h a o) : a < h.objs.size := by
  cases o with
  | lst xs => obtain ⟨_, _, _, _, e⟩ := x; exact Heap.lt_size e
  | tup xs => obtain ⟨_, _, _, p⟩ := x; exact p.lt
  | dK kvs => obtain ⟨_, _, _, _, o, _, _, e, _⟩ := x; exact Heap.lt_size e
  | dT kvs => obtain ⟨_, _, _, _, o, _, _, e, _⟩ := x; exact Heap.lt_size e
  | set S n => obtain ⟨o, _, _, _, e, _⟩ := x; exact Heap.lt_size e
  | ins C dx fs => obtain ⟨_, _, _, e, _⟩ := x; exact Heap.lt_size e
  | own y => obtain ⟨_, e⟩ := x; exact Heap.lt_size e
  | xd fs => obtain ⟨_, ⟨_, _, _, e, _⟩, _⟩ := x; exact Heap.lt_size e
  | rng lo hi => obtain ⟨_, _, _, e⟩ := x; exact Heap.lt_size e
  | frz ob u => obtain ⟨e, _⟩ := x; exact Heap.lt_size e
  | tbl ps => exact Heap.lt_size (show h.get? a = some _ from x)
  | met f y => exact Heap.lt_size (show h.get? a = some _ from x)
  | ext φ => obtain ⟨_, ⟨_, e⟩, _⟩ := x; exact Heap.lt_size e
theorem Paired.mapP {α β : Type} {F G : α → β → Prop} : ∀ {l₁ : List α} {l₂ : List β}, Paired F l₁ l₂ → (∀ a b, F a b → G a b) → Paired G l₁ l₂
  | _, _, .nil, _ => .nil
  | _, _, .cons r t, f => .cons (f _ _ r) (Paired.mapP t f)
theorem ObjOk.stay (x : ObjOk P w H h a o) (k : ∀ b u, (b = a ∨ H b = some (.own a)) → h.get? b = some u → h'.get? b = some u)
    (ho : ∀ b, H b = some (.own a) → H' b = some (.own a)) (ht : ∀ b xs, H b = some (.tup xs) → H' b = some (.tup xs)) : ObjOk P w H' h' a o := by
  induction o with
  | lst xs => obtain ⟨z, its, n, r, e⟩ := x; exact ⟨z, its, n, r, k _ _ (.inl rfl) e⟩
  | tup xs => obtain ⟨z, its, r, ob, e, c⟩ := x; exact ⟨z, its, r, ob, k _ _ (.inl rfl) e, c⟩
  | dK kvs => obtain ⟨z, y, vs, r, ob, es, ep, e, c⟩ := x; exact ⟨z, y, vs, r, ob, es, ep, k _ _ (.inl rfl) e, c⟩
  | dT kvs =>
    obtain ⟨z, y, xs, r, ob, es, ep, e, c⟩ := x
    exact ⟨z, y, xs, Paired.mapP r fun p q z => ⟨z.1, ht _ _ z.2.1, z.2.2⟩, ob, es, ep, k _ _ (.inl rfl) e, c⟩
  | set S n => obtain ⟨ob, es, ep, t, e, c⟩ := x; exact ⟨ob, es, ep, t, k _ _ (.inl rfl) e, c⟩
  | ins C dx fs =>
    obtain ⟨d, z, ne, e, mA, ⟨od, es, ep, e2, c⟩, r⟩ := x
    exact ⟨ho _ d, z, ne, k _ _ (.inl rfl) e, mA, ⟨od, es, ep, k _ _ (.inr d) e2, c⟩, r⟩
  | own y => obtain ⟨ob, e⟩ := x; exact ⟨ob, k _ _ (.inl rfl) e⟩
  | xd fs => obtain ⟨mA, ⟨od, es, ep, e, c⟩, r⟩ := x; exact ⟨mA, ⟨od, es, ep, k _ _ (.inl rfl) e, c⟩, r⟩
  | rng lo hi => obtain ⟨t, u, v, e⟩ := x; exact ⟨t, u, v, k _ _ (.inl rfl) e⟩
  | frz ob u ih => obtain ⟨e, q⟩ := x; exact ⟨k _ _ (.inl rfl) e, ih q⟩
  | tbl ps =>
    have e : h.get? a = some { cls := .none, data := .fields ps } := x
    show h'.get? a = some { cls := .none, data := .fields ps }
    exact k a _ (.inl rfl) e
  | met f y =>
    have e : h.get? a = some (PySem.W.methodObj (.ref f) (.ref y)) := x
    show h'.get? a = some (PySem.W.methodObj (.ref f) (.ref y))
    exact k a _ (.inl rfl) e
  | ext φ => obtain ⟨p, ⟨o, e⟩, st⟩ := x; exact ⟨st _ _ p fun o q => k _ _ (.inl rfl) q, ⟨o, k _ _ (.inl rfl) e⟩, st⟩
theorem HOk.lt (x : HOk P w H h) (e : H a = some o) : a < h.objs.size := (x a o e).lt
theorem HOk.fresh (x : HOk P w H h) (e : h.objs.size ≤ a) : H a = none := by
  cases q : H a with
  | none => rfl
  | some u => exact absurd (Nat.lt_of_lt_of_le (x.lt q) e) (Nat.lt_irrefl _)
theorem HOk.kept (x : HOk P w H h) (k : ∀ b u, h.get? b = some u → h'.get? b = some u) : HOk P w H h' := fun a o e =>
  (x a o e).stay (fun b u _ q => k b u q) (fun _ q => q) fun _ _ q => q
theorem HOk.laid (x : HOk P w H h) (k : ∀ b u, h.get? b = some u → h'.get? b = some u) (hp : h.objs.size ≤ a) (new : ObjOk P w (upd H a o) h' a o) : HOk P w (upd H a o) h' := fun b u e => by
  have hn := x.fresh hp
  by_cases hb : b = a
  · subst hb; rw [upd_same] at e; cases e; exact new
  · rw [upd_ne hb] at e
    exact (x b u e).stay (fun c v _ q => k c v q) (fun c q => by rw [upd_ne (ne_of_none q hn)]; exact q) fun c xs q => by rw [upd_ne (ne_of_none q hn)]; exact q
end
def Rd (H : Hp) (a : Addr) (u : HO) : Prop := H a = some u ∨ ∃ o, H a = some (.frz o u)
theorem Rd.ok {P : Program} {w : World} {H : Hp} {h : Heap} {a : Addr} {u : HO} (r : Rd H a u) (x : HOk P w H h) : ObjOk P w H h a u := by
  rcases r with r | ⟨o, r⟩
  · exact x a u r
  · obtain ⟨_, q⟩ := x a _ r
    exact q
def Mut : Option HO → Prop
  | some (.lst _) => True
  | some (.dK _) => True
  | some (.dT _) => True
  | some (.set _ _) => True
  | some (.ins _ _ _) => True
  | some (.ext _) => True
  | _ => False
section
variable {P : Program} {w : World} {H : Hp} {h h' : Heap} {x e : Addr} {o' : HO}
theorem HOk.write (ok : HOk P w H h) (mu : Mut (H x)) (he : e = x ∨ H e = some (.own x)) (k : ∀ b u, b ≠ e → h.get? b = some u → h'.get? b = some u) (heo : ∃ u, h'.get? e = some u)
    (new : ObjOk P w (upd H x o') h' x o') : HOk P w (upd H x o') h' := fun b u q => by
  have nown : ∀ c y, H c = some (.own y) → c ≠ x := fun c y r z => by subst z; rw [r] at mu; exact mu
  have ntup : ∀ c xs, H c = some (.tup xs) → c ≠ x := fun c xs r z => by subst z; rw [r] at mu; exact mu
  by_cases hb : b = x
  · subst hb; rw [upd_same] at q; cases q; exact new
  · rw [upd_ne hb] at q
    by_cases hbe : b = e
    · have q' : H b = some (.own x) := by
        rcases he with z | z
        · exact absurd (hbe.trans z) hb
        · rw [hbe]; exact z
      rw [q] at q'; cases q'
      obtain ⟨v, hv⟩ := heo
      exact ⟨v, by rw [hbe]; exact hv⟩
    · refine (ok b u q).stay (fun c v hc r => k c v ?_ r) (fun c r => by rw [upd_ne (nown c b r)]; exact r) fun c xs r => by rw [upd_ne (ntup c xs r)]; exact r
      rcases hc with rfl | hc
      · exact hbe
      · rintro rfl
        rcases he with z | z
        · exact nown c b hc z
        · rw [hc] at z; cases z; exact hb rfl
end
structure Un (fs ex : List Addr) (H H' : Hp) (h h' : Heap) : Prop where
  keep : ∀ b o, h.get? b = some o → H b = none → b ∉ fs → b ∉ ex → h'.get? b = some o
  slot : ∀ b o, h.get? b = some o → H b = none → b ∈ fs → b ∉ ex → ∃ sl, h'.get? b = some { o with slots := sl }
  free : ∀ b o, h.get? b = some o → H b = none → b ∉ ex → H' b = none
  there : ∀ b o, h.get? b = some o → b ∉ ex → ∃ o', h'.get? b = some o'
  tups : ∀ b xs, H b = some (.tup xs) → H' b = some (.tup xs)
  frzs : ∀ b o u, H b = some (.frz o u) → H' b = some (.frz o u)
  tbls : ∀ b ps, H b = some (.tbl ps) → ∃ more, H' b = some (.tbl (ps ++ more))
section
variable {fs fs' ex ex' : List Addr} {H H1 H2 : Hp} {h h1 h2 h' : Heap} {a x e : Addr} {o : HO}
theorem Un.any (u : Un fs ex H H1 h h1) {b : Addr} {ob : Obj} (q : h.get? b = some ob) (n : H b = none) (hx : b ∉ ex) : ∃ sl, h1.get? b = some { ob with slots := sl } := by
  by_cases hb : b ∈ fs
  · exact u.slot b ob q n hb hx
  · exact ⟨ob.slots, u.keep b ob q n hb hx⟩
theorem Un.kept (k : ∀ b u, h.get? b = some u → h'.get? b = some u) : Un fs ex H H h h' :=
  ⟨fun b ob q _ _ _ => k b ob q, fun b ob q _ _ _ => ⟨ob.slots, k b ob q⟩, fun _ _ _ n _ => n, fun b ob q _ => ⟨ob, k b ob q⟩, fun _ _ q => q, fun _ _ _ q => q, fun _ ps q => ⟨#[], by rw [q]; simp⟩⟩
theorem Un.refl : Un fs ex H H h h := Un.kept fun _ _ q => q
theorem Un.laid (k : ∀ b u, h.get? b = some u → h'.get? b = some u) (hp : h.objs.size ≤ a) (hn : H a = none) : Un fs ex H (upd H a o) h h' where
  keep := fun b u q _ _ _ => k b u q
  slot := fun b u q _ _ _ => ⟨u.slots, k b u q⟩
  free := fun b u q n _ => by rw [upd_ne (Nat.ne_of_lt (Nat.lt_of_lt_of_le (Heap.lt_size q) hp))]; exact n
  there := fun b u q _ => ⟨u, k b u q⟩
  tups := fun b xs q => by rw [upd_ne (ne_of_none q hn)]; exact q
  frzs := fun b u xs q => by rw [upd_ne (ne_of_none q hn)]; exact q
  tbls := fun b ps q => ⟨#[], by rw [upd_ne (ne_of_none q hn), q]; simp⟩
theorem Un.write (mu : Mut (H x)) (he : e = x ∨ H e = some (.own x)) (k : ∀ b u, b ≠ e → h.get? b = some u → h'.get? b = some u) (heo : ∃ u, h'.get? e = some u) : Un fs ex H (upd H x o) h h' := by
  have hx : ∀ b, H b = none → b ≠ x := fun b n z => by subst z; rw [n] at mu; exact mu
  have hb : ∀ b, H b = none → b ≠ e := fun b n z => by
    subst z
    rcases he with r | r
    · exact hx b n r
    · rw [n] at r; cases r
  have hm : ∀ b u, H b = some u → ¬ Mut (some u) → b ≠ x := fun b u q nm z => by subst z; rw [q] at mu; exact nm mu
  refine ⟨fun b u q n _ _ => k b u (hb b n) q, fun b u q n _ _ => ⟨u.slots, k b u (hb b n) q⟩, fun b u q n _ => by rw [upd_ne (hx b n)]; exact n, fun b u q _ => ?_,
    fun b xs q => by rw [upd_ne (hm b _ q fun z => z)]; exact q, fun b u xs q => by rw [upd_ne (hm b _ q fun z => z)]; exact q, fun b ps q => ⟨#[], by rw [upd_ne (hm b _ q fun z => z), q]; simp⟩⟩
  by_cases hbe : b = e
  · subst hbe; exact heo
  · exact ⟨u, k b u hbe q⟩
end
def trk (h : Heap) (H : Hp) : List Addr := (List.range h.objs.size).filter fun a => (H a).isSome
def hidT (h : Heap) (H : Hp) : Heap := PySem.W.hideAll h (trk h H)
theorem hidT_size (h : Heap) (H : Hp) : (hidT h H).objs.size = h.objs.size := PySem.W.hideAll_size _ _
theorem hidT_get {h : Heap} {H : Hp} {b : Addr} {o : Obj} (e : h.get? b = some o) (n : H b = none) : (hidT h H).get? b = some o :=
  PySem.W.hideAll_get _ e fun hm => by
    have q : (H b).isSome = true := (List.mem_filter.mp hm).2
    rw [n] at q; simp at q
theorem of_hidT {h : Heap} {H : Hp} {b : Addr} {o : Obj} (e : (hidT h H).get? b = some o) : h.get? b = some o ∧ H b = none := by
  have e' : h.get? b = some o := PySem.W.of_hideAll (trk h H) e
  refine ⟨e', ?_⟩
  cases q : H b with
  | none => rfl
  | some x =>
    have hm : b ∈ trk h H := List.mem_filter.mpr ⟨List.mem_range.mpr (Heap.lt_size e'), by simp [q]⟩
    have z : (hidT h H).get? b = none := PySem.W.hideAll_none (trk h H) hm
    rw [z] at e; cases e
end L2
namespace L2
open PySem PySem.Spec PyProof.Rows
structure Mod (K : PySem.W.Frag) (mg : Str → Option Value) (base : Heap) : Prop where
  kin : K.In base
  glob : base.Ns mainGlobals mg
  blt : ∃ mb, base.Ns builtinsNs mb ∧ ∀ x : Str, x ≠ "__name__" → mb x = bootBuiltins x
  nolimit : base.NoLimit
structure Cx where
  prog : Program
  w : World
  K : PySem.W.Frag
  mg : Str → Option Value
  base : Heap
  A : Around
  N : List Str
  s_0 : Shared
  H_0 : Hp
  env : Env
  outer : List Env
  stack : List Env
  ex : List Addr
  fn : Str → Bool
  calm : Bool
  pn : List (Addr × Obj)
  xe : Value → Shared → Prop
def frs (l : List Env) : List Addr := l.filterMap (·.frame)
abbrev Cx.fs (X : Cx) : List Addr := frs X.outer
def Vis (sc : Scope) (x : Str) : Prop := sc.names.lookup x = some .local ∨ sc.names.lookup x = some .cell ∨ sc.names.lookup x = some .free
def Loc (sc : Scope) (x : Str) : Prop := sc.names.lookup x = some .local ∨ sc.names.lookup x = some .cell
def Look (env : Env) (h : Heap) (m : Str → Option Value) (x : Str) (u : Value) : Prop :=
  (env.kindOf x = some .local ∧ m x = some u) ∨ ((env.kindOf x = some .cell ∨ env.kindOf x = some .free) ∧ ∃ c, env.cells.lookup x = some c ∧ h.IsCell c (some u))
structure Cx.Ok (X : Cx) : Prop where
  mod : Mod X.K X.mg X.base
  kind : X.env.scope.kind = .function
  glob : X.env.globals = mainGlobals
  blt : X.env.builtins = builtinsNs
  above : X.s_0.heap.objs.size ≤ X.env.locals
  inj : ∀ x y c, X.env.cells.lookup x = some c → X.env.cells.lookup y = some c → x = y
  has : ∀ x, (X.env.kindOf x = some .cell ∨ X.env.kindOf x = some .free) → ∃ c, X.env.cells.lookup x = some c
  cab : ∀ x c, X.fn x = true → X.env.cells.lookup x = some c → X.s_0.heap.objs.size ≤ c
  hd : X.calm = true → X.A.handled = none
  frames : X.A.frames = some X.stack
  stk : X.stack = X.outer ∨ (X.stack = X.env :: X.outer ∧ X.env.frame = some X.env.locals)
  exf : ∀ b ∈ X.ex, b ≠ X.env.locals ∧ ∀ x c, X.env.cells.lookup x = some c → c ≠ b
  bs : ∀ b o, X.base.get? b = some o → X.s_0.heap.get? b = some o ∧ X.H_0 b = none
  bsz : X.base.objs.size ≤ X.s_0.heap.objs.size
  noex : ∀ b o, X.base.get? b = some o → b ∉ X.ex
  exfs : ∀ b ∈ X.ex, b ∉ X.fs
  funs : X.s_0.heap.FunFrames X.base X.outer
  frf : ∀ b ∈ X.fs, X.H_0 b = none
structure Inv (X : Cx) (pins : List (Addr × Obj)) (σ : List (Option V)) (H : Hp) (s : Shared) : Prop where
  ok : X.Ok
  os : s.os = X.s_0.os
  bare : AllBare s.gens
  base : Un X.fs X.ex X.H_0 H X.s_0.heap s.heap
  loc : ∃ m, s.heap.Ns X.env.locals m ∧ ∀ (i : Nat) (x : Str) (v : V), X.N[i]? = some x → σ[i]? = some (some v) → Vis X.env.scope x → ∃ u, RelV v u ∧ Look X.env s.heap m x u
  cell : ∀ x c, X.env.cells.lookup x = some c → ∃ v, s.heap.IsCell c v
  free : H X.env.locals = none
  freeC : ∀ x c, X.env.cells.lookup x = some c → H c = none
  pin : ∀ p ∈ X.pn ++ pins, s.heap.get? p.1 = some p.2 ∧ H p.1 = none ∧ p.1 ≠ X.env.locals ∧ p.1 ∉ X.fs ∧ ∀ v, p.2.data ≠ .cell v
  hok : HOk X.prog X.w H s.heap
  len : σ.length = X.N.length
section
variable {X : Cx} {pins : List (Addr × Obj)} {σ : List (Option V)} {H H' : Hp} {s : Shared} {h' : Heap}
theorem Cx.Ok.nofr (ok : X.Ok) {b : Addr} {o : Obj} (e : X.base.get? b = some o) : b ∉ X.fs := fun hb => by
  have := (ok.funs.mem hb).1
  rw [e] at this; cases this
theorem Inv.bs (I : Inv X pins σ H s) : ∀ b o, X.base.get? b = some o → s.heap.get? b = some o ∧ H b = none := fun b o e =>
  ⟨I.base.keep b o (I.ok.bs b o e).1 (I.ok.bs b o e).2 (I.ok.nofr e) (I.ok.noex b o e), I.base.free b o (I.ok.bs b o e).1 (I.ok.bs b o e).2 (I.ok.noex b o e)⟩
theorem Inv.bk (I : Inv X pins σ H s) : ∀ b o, X.base.get? b = some o → s.heap.get? b = some o := fun b o e => (I.bs b o e).1
theorem Inv.mod (I : Inv X pins σ H s) : Mod X.K X.mg X.base := I.ok.mod
theorem Inv.kIn (I : Inv X pins σ H s) : X.K.In s.heap := I.ok.mod.kin.keeps I.bk
theorem Inv.lt (I : Inv X pins σ H s) : X.env.locals < s.heap.objs.size := let ⟨_, hn, _⟩ := I.loc; hn.lt
theorem Inv.sz (I : Inv X pins σ H s) : X.s_0.heap.objs.size ≤ s.heap.objs.size := Nat.le_trans I.ok.above (Nat.le_of_lt I.lt)
theorem Inv.nofs (I : Inv X pins σ H s) {a : Addr} (h : s.heap.objs.size ≤ a) : a ∉ X.fs := fun hb => by
  obtain ⟨_, o, ho, _⟩ := I.ok.funs.mem hb
  exact absurd (Nat.lt_of_lt_of_le (Heap.lt_size ho) (Nat.le_trans I.sz h)) (Nat.lt_irrefl _)
theorem Inv.cne (I : Inv X pins σ H s) : ∀ x c, X.env.cells.lookup x = some c → c ≠ X.env.locals := fun x c e z => by
  obtain ⟨v, o, ho, hd⟩ := I.cell x c e
  obtain ⟨m, ⟨o', es, ep, ho', hd', _⟩, _⟩ := I.loc
  rw [z, ho'] at ho; cases ho; rw [hd'] at hd; cases hd
theorem Inv.funs (I : Inv X pins σ H s) : s.heap.FunFrames X.base X.outer := by
  have all : ∀ (l : List Env), (∀ b ∈ frs l, b ∈ X.fs) → X.s_0.heap.FunFrames X.base l → s.heap.FunFrames X.base l := by
    intro l
    induction l with
    | nil => intro _ _; trivial
    | cons env r ih =>
      intro hs hl
      obtain ⟨hk, ⟨L, o, hf, hn, ho, hd⟩, hr⟩ := hl
      have hL : L ∈ X.fs := hs L (by unfold frs; rw [List.filterMap_cons, hf]; exact List.mem_cons_self)
      obtain ⟨sl, e⟩ := I.base.slot L o ho (I.ok.frf L hL) hL fun z => I.ok.exfs L z hL
      exact ⟨hk, ⟨L, _, hf, hn, e, hd⟩, ih (fun b hb => hs b (by unfold frs; rw [List.filterMap_cons, hf]; exact List.mem_cons_of_mem _ hb)) hr⟩
  exact all X.outer (fun _ hb => hb) I.ok.funs
theorem Inv.stack (I : Inv X pins σ H s) : s.heap.FunFrames X.base X.stack := by
  rcases I.ok.stk with e | ⟨e, hf⟩
  · rw [e]; exact I.funs
  · rw [e]
    obtain ⟨m, hn, _⟩ := I.loc
    refine .cons (by rw [I.ok.kind]; decide) hf hn ?_ I.funs
    exact Heap.get?_none_of_le (Nat.le_trans I.ok.bsz I.ok.above)
theorem Inv.stkSub (I : Inv X pins σ H s) : ∀ b ∈ frs X.stack, b ∈ X.env.locals :: X.fs := fun b hb => by
  rcases I.ok.stk with e | ⟨e, hf⟩
  · rw [e] at hb; exact List.mem_cons_of_mem _ hb
  · rw [e] at hb
    unfold frs at hb
    rw [List.filterMap_cons, hf] at hb
    exact hb
theorem Inv.stkFree (I : Inv X pins σ H s) : ∀ b ∈ frs X.stack, H b = none := fun b hb => by
  rcases List.mem_cons.mp (I.stkSub b hb) with e | hb
  · rw [e]; exact I.free
  · obtain ⟨_, o, ho, _⟩ := I.ok.funs.mem hb
    exact I.base.free b o ho (I.ok.frf b hb) fun z => I.ok.exfs b z hb
theorem Inv.step {g' : Array GenState} {t' : Nat} {d' : Drawn} {ch : List Addr} (I : Inv X pins σ H s)
    (hch : ∀ b ∈ ch, (b ∈ X.ex ∨ X.s_0.heap.objs.size ≤ b) ∧ b ≠ X.env.locals ∧ (∀ x c, X.env.cells.lookup x = some c → c ≠ b) ∧ ∀ p ∈ X.pn ++ pins, p.1 ≠ b)
    (keep : ∀ b o, b ≠ X.env.locals → b ∉ X.fs → b ∉ ch → s.heap.get? b = some o → H b = none → h'.get? b = some o)
    (slot : ∀ b o, b ≠ X.env.locals → b ∈ X.fs → b ∉ ch → s.heap.get? b = some o → H b = none → ∃ sl, h'.get? b = some { o with slots := sl }) (free : ∀ b o, b ∉ ch → s.heap.get? b = some o → H b = none → H' b = none)
    (there : ∀ b o, b ∉ ch → s.heap.get? b = some o → ∃ o', h'.get? b = some o')
    (tups : ∀ b xs, H b = some (.tup xs) → H' b = some (.tup xs)) (frzs : ∀ b o u, H b = some (.frz o u) → H' b = some (.frz o u)) (tbls : ∀ b ps, H b = some (.tbl ps) → ∃ more, H' b = some (.tbl (ps ++ more)))
    (ns : ∀ m, s.heap.Ns X.env.locals m → h'.Ns X.env.locals m) (hok : HOk X.prog X.w H' h') (hg : AllBare g') :
    Inv X pins σ H' { s with heap := h', gens := g', drawn := d', toks := t' } := by
  have neL : ∀ b o, X.s_0.heap.get? b = some o → b ≠ X.env.locals := fun b o e => Nat.ne_of_lt (Nat.lt_of_lt_of_le (Heap.lt_size e) I.ok.above)
  have neC : ∀ b o, X.s_0.heap.get? b = some o → b ∉ X.ex → b ∉ ch := fun b o e hx hb => by
    rcases (hch b hb).1 with z | z
    · exact hx z
    · exact absurd (Nat.lt_of_lt_of_le (Heap.lt_size e) z) (Nat.lt_irrefl _)
  have cellK : ∀ x c, X.env.cells.lookup x = some c → ∀ v, s.heap.IsCell c v → h'.IsCell c v := fun x c e v ⟨o, ho, hd⟩ => by
    have nch : c ∉ ch := fun z => (hch c z).2.2.1 x c e rfl
    by_cases hc : c ∈ X.fs
    · obtain ⟨sl, q⟩ := slot c o (I.cne x c e) hc nch ho (I.freeC x c e)
      exact ⟨_, q, hd⟩
    · exact ⟨o, keep c o (I.cne x c e) hc nch ho (I.freeC x c e), hd⟩
  refine ⟨I.ok, I.os, hg, ⟨fun b o e n hb hx => ?_, fun b o e n hb hx => ?_, fun b o e n hx => ?_, fun b o e hx => ?_, fun b xs e => tups b xs (I.base.tups b xs e), fun b o xs e => frzs b o xs (I.base.frzs b o xs e), fun b ps e => ?_⟩, ?_, fun x c e => ?_, ?_, fun x c e => ?_, fun p hp => ?_, hok, I.len⟩
  · exact keep b o (neL b o e) hb (neC b o e hx) (I.base.keep b o e n hb hx) (I.base.free b o e n hx)
  · obtain ⟨sl, e1⟩ := I.base.slot b o e n hb hx
    obtain ⟨sl', e2⟩ := slot b _ (neL b o e) hb (neC b o e hx) e1 (I.base.free b o e n hx)
    exact ⟨sl', e2⟩
  · obtain ⟨o', e1⟩ := I.base.there b o e hx
    exact free b o' (neC b o e hx) e1 (I.base.free b o e n hx)
  · obtain ⟨o', e1⟩ := I.base.there b o e hx
    exact there b o' (neC b o e hx) e1
  · obtain ⟨m1, e1⟩ := I.base.tbls b ps e
    obtain ⟨m2, e2⟩ := tbls b _ e1
    exact ⟨m1 ++ m2, by rw [e2, Array.append_assoc]⟩
  · obtain ⟨m, hn, hl⟩ := I.loc
    refine ⟨m, ns m hn, fun i x v e1 e2 e3 => ?_⟩
    obtain ⟨u, r, l⟩ := hl i x v e1 e2 e3
    refine ⟨u, r, ?_⟩
    rcases l with l | ⟨k, c, e, z⟩
    · exact .inl l
    · exact .inr ⟨k, c, e, cellK x c e _ z⟩
  · obtain ⟨v, z⟩ := I.cell x c e
    exact ⟨v, cellK x c e v z⟩
  · obtain ⟨m, ⟨o, _, _, ho, _⟩, _⟩ := I.loc
    exact free _ o (fun z => (hch _ z).2.1 rfl) ho I.free
  · obtain ⟨v, o, ho, hd⟩ := I.cell x c e
    exact free c o (fun z => (hch c z).2.2.1 x c e rfl) ho (I.freeC x c e)
  · obtain ⟨e, n, ne, nf, d⟩ := I.pin p hp
    have nch : p.1 ∉ ch := fun z => (hch p.1 z).2.2.2 p hp rfl
    exact ⟨keep p.1 p.2 ne nf nch e n, free p.1 p.2 nch e n, ne, nf, d⟩
theorem Inv.un {t' : Nat} (I : Inv X pins σ H s) (u : Un X.fs [] H H' s.heap h') (hok : HOk X.prog X.w H' h') : Inv X pins σ H' { s with heap := h', toks := t' } := by
  obtain ⟨m, ⟨o, es, ep, ho, r⟩, _⟩ := id I.loc
  obtain ⟨sl, hL⟩ := u.any ho I.free (by simp)
  exact I.step (g' := s.gens) (d' := s.drawn) (ch := []) (fun _ z => nomatch z) (fun b o _ hb _ e n => u.keep b o e n hb (by simp)) (fun b o _ hb _ e n => u.slot b o e n hb (by simp)) (fun b o _ e n => u.free b o e n (by simp)) (fun b o _ e => u.there b o e (by simp)) u.tups u.frzs u.tbls (fun m' hm => by
    obtain ⟨o', es', ep', ho', r'⟩ := hm
    rw [ho] at ho'; cases ho'
    exact ⟨_, es', ep', hL, r'⟩) hok I.bare
theorem Inv.call {g' : Array GenState} {t' : Nat} {d' : Drawn} {ch : List Addr} (I : Inv X pins σ H s) (u : Un (frs X.stack) ch H H' s.heap h') (hok : HOk X.prog X.w H' h') (hg : AllBare g')
    (hch : ∀ b ∈ ch, (b ∈ X.ex ∨ X.s_0.heap.objs.size ≤ b) ∧ b ≠ X.env.locals ∧ (∀ x c, X.env.cells.lookup x = some c → c ≠ b) ∧ ∀ p ∈ X.pn ++ pins, p.1 ≠ b) :
    Inv X pins σ H' { s with heap := h', gens := g', drawn := d', toks := t' } := by
  obtain ⟨m, ⟨o, es, ep, ho, r⟩, _⟩ := id I.loc
  obtain ⟨sl, hL⟩ := u.any ho I.free fun z => (hch _ z).2.1 rfl
  exact I.step (ch := ch) hch (fun b o hL hb hc e n => u.keep b o e n (fun z => (List.mem_cons.mp (I.stkSub b z)).elim hL hb) hc) (fun b o _ _ hc e n => u.any e n hc) (fun b o hc e n => u.free b o e n hc) (fun b o hc e => u.there b o e hc) u.tups u.frzs u.tbls (fun m' hm => by
    obtain ⟨o', es', ep', ho', r'⟩ := hm
    rw [ho] at ho'; cases ho'
    exact ⟨_, es', ep', hL, r'⟩) hok hg
theorem Inv.turned {t' : Nat} {it : Addr} (I : Inv X pins σ H s) (k : ∀ b o, b ≠ it → s.heap.get? b = some o → h'.get? b = some o) (hn : H it = none) (hL : it ≠ X.env.locals)
    (h1 : it ∈ X.ex ∨ X.s_0.heap.objs.size ≤ it) (h2 : ∀ x c, X.env.cells.lookup x = some c → c ≠ it) (h3 : ∀ p ∈ X.pn ++ pins, p.1 ≠ it) : Inv X pins σ H { s with heap := h', toks := t' } := by
  have nit : ∀ b u, H b = some u → b ≠ it := fun b u e z => by rw [z, hn] at e; cases e
  refine I.step (g' := s.gens) (d' := s.drawn) (ch := [it]) (fun b hb => ?_) (fun b o _ _ hc e _ => k b o (fun z => hc (by simp [z])) e) (fun b o _ _ hc e _ => ⟨o.slots, k b o (fun z => hc (by simp [z])) e⟩) (fun _ _ _ _ n => n)
    (fun b o hc e => ⟨o, k b o (fun z => hc (by simp [z])) e⟩) (fun _ _ e => e) (fun _ _ _ e => e) (fun b ps e => ⟨#[], by rw [e]; simp⟩) (fun m hm => ?_) (fun b u e => ?_) I.bare
  · have e : b = it := by simpa using hb
    subst e
    exact ⟨h1, hL, h2, h3⟩
  · obtain ⟨o, es, ep, ho, r⟩ := hm
    exact ⟨o, es, ep, k _ o (Ne.symm hL) ho, r⟩
  · refine (I.hok b u e).stay (fun c v hc q => k c v ?_ q) (fun _ q => q) fun _ _ q => q
    rcases hc with z | z
    · rw [z]; exact nit b u e
    · exact nit c _ z
theorem Inv.tok (I : Inv X pins σ H s) (t : Nat) : Inv X pins σ H { s with toks := t } := I.un (h' := s.heap) (t' := t) Un.refl I.hok
theorem Inv.kept {t' : Nat} (I : Inv X pins σ H s) (k : ∀ b u, s.heap.get? b = some u → h'.get? b = some u) : Inv X pins σ H { s with heap := h', toks := t' } := I.un (Un.kept k) (I.hok.kept k)
theorem Inv.laid {a : Addr} {o : HO} {t' : Nat} (I : Inv X pins σ H s) (k : ∀ b u, s.heap.get? b = some u → h'.get? b = some u) (hp : s.heap.objs.size ≤ a) (new : ObjOk X.prog X.w (upd H a o) h' a o) :
    Inv X pins σ (upd H a o) { s with heap := h', toks := t' } := I.un (Un.laid k hp (I.hok.fresh hp)) (I.hok.laid k hp new)
theorem Inv.write {x e : Addr} {o : HO} {t' : Nat} (I : Inv X pins σ H s) (mu : Mut (H x)) (he : e = x ∨ H e = some (.own x)) (k : ∀ b u, b ≠ e → s.heap.get? b = some u → h'.get? b = some u) (heo : ∃ u, h'.get? e = some u)
    (new : ObjOk X.prog X.w (upd H x o) h' x o) : Inv X pins σ (upd H x o) { s with heap := h', toks := t' } := I.un (Un.write mu he k heo) (I.hok.write mu he k heo new)
theorem Inv.weak {σ' : List (Option V)} (I : Inv X pins σ H s) (hl : σ'.length = σ.length) (w : ∀ (i : Nat) v, σ'[i]? = some (some v) → σ[i]? = some (some v)) : Inv X pins σ' H s :=
  ⟨I.ok, I.os, I.bare, I.base, let ⟨m, hn, hl'⟩ := I.loc; ⟨m, hn, fun i x v e1 e2 e3 => hl' i x v e1 (w i v e2) e3⟩, I.cell, I.free, I.freeC, I.pin, I.hok, hl.trans I.len⟩
theorem Inv.pins_of {pins' : List (Addr × Obj)} (I : Inv X pins σ H s) (h : ∀ p ∈ pins', s.heap.get? p.1 = some p.2 ∧ H p.1 = none ∧ p.1 ≠ X.env.locals ∧ p.1 ∉ X.fs ∧ ∀ v, p.2.data ≠ .cell v) : Inv X pins' σ H s :=
  ⟨I.ok, I.os, I.bare, I.base, I.loc, I.cell, I.free, I.freeC, fun p hp => (List.mem_append.mp hp).elim (fun z => I.pin p (List.mem_append_left _ z)) (h p), I.hok, I.len⟩
theorem nodup_ix {N : List Str} (hN : N.Nodup) {i j : Nat} {x : Str} (a : N[i]? = some x) (b : N[j]? = some x) : i = j := by
  obtain ⟨h1, e1⟩ := List.getElem?_eq_some_iff.mp a
  obtain ⟨h2, e2⟩ := List.getElem?_eq_some_iff.mp b
  exact (List.getElem_inj hN).mp (e1.trans e2.symm)
theorem store_ok2 {M : Model} {A : Around} {E : Value → Shared → Prop} {i : Nat} {x : Str} {v : V} {u : Value} {Q : Unit → Shared → Prop} (I : Inv X pins σ H s) (hN : X.N.Nodup) (hi : X.N[i]? = some x) (hx : Loc X.env.scope x) (r : RelV v u)
    (h : ∀ s', Inv X pins (σ.set i (some v)) H s' → (∃ a, Heap.SameBut a s.heap s'.heap ∧ (a = X.env.locals ∨ X.env.cells.lookup x = some a)) → Q () s') (hf : X.fn x = true ∨ X.env.scope.names.lookup x = some .local := by first | exact .inl rfl | exact .inr rfl | assumption) : wpAny M A (storeName X.env x u) Q E s := by
  obtain ⟨m, hn, hl⟩ := id I.loc
  have hcls : (X.env.scope.kind == .class || (X.env.scope.kind == .module && X.env.locals != X.env.globals)) = false := by rw [I.ok.kind]; rfl
  have hiσ : i < σ.length := by rw [I.len]; exact (List.getElem?_eq_some_iff.mp hi).1
  have cne := I.cne
  have tracked : ∀ {a : Addr} {h' : Heap}, (∃ o, s.heap.get? a = some o ∧ H a = none) → Heap.SameBut a s.heap h' → HOk X.prog X.w H h' := fun {a h'} ha hs b ob e => by
    obtain ⟨_, _, hfree⟩ := ha
    refine (I.hok b ob e).stay (fun c w' hc q => (hs.2 c ?_).trans q) (fun _ q => q) fun _ _ q => q
    rintro rfl
    rcases hc with rfl | hc
    · rw [hfree] at e; cases e
    · rw [hfree] at hc; cases hc
  rcases hx with hk | hk
  · refine wpAny_storeName_local hk hn (fun h' hn' hs => ?_) hcls
    obtain ⟨oL, _, _, hoL, _⟩ := id hn
    refine h _ ⟨I.ok, I.os, I.bare, ⟨fun b o e n hb hx => ?_, fun b o e n hb hx => ?_, I.base.free, fun b o e hx => ?_, I.base.tups, I.base.frzs, I.base.tbls⟩, ⟨_, hn', fun j y v' e1 e2 e3 => ?_⟩, fun y c e => ?_, I.free, I.freeC, fun p hp => ?_, tracked ⟨oL, hoL, I.free⟩ hs, by simpa using I.len⟩ ⟨_, hs, .inl rfl⟩
    · exact (hs.2 b (Nat.ne_of_lt (Nat.lt_of_lt_of_le (Heap.lt_size e) I.ok.above))).trans (I.base.keep b o e n hb hx)
    · obtain ⟨sl, e1⟩ := I.base.slot b o e n hb hx
      exact ⟨sl, (hs.2 b (Nat.ne_of_lt (Nat.lt_of_lt_of_le (Heap.lt_size e) I.ok.above))).trans e1⟩
    · obtain ⟨o', e1⟩ := I.base.there b o e hx
      exact ⟨o', (hs.2 b (Nat.ne_of_lt (Nat.lt_of_lt_of_le (Heap.lt_size e) I.ok.above))).trans e1⟩
    · by_cases hj : j = i
      · subst hj
        rw [hi] at e1; cases e1
        rw [List.getElem?_set_self hiσ] at e2
        cases e2
        exact ⟨u, r, .inl ⟨hk, by simp⟩⟩
      · rw [List.getElem?_set_ne (Ne.symm hj)] at e2
        obtain ⟨u', r', q⟩ := hl j y v' e1 e2 e3
        refine ⟨u', r', ?_⟩
        rcases q with ⟨k, e⟩ | ⟨k, c, e, z⟩
        · refine .inl ⟨k, ?_⟩
          have : y ≠ x := fun e => hj (nodup_ix hN e1 (e ▸ hi))
          simp [this, e]
        · exact .inr ⟨k, c, e, z.sameBut hs (cne y c e)⟩
    · obtain ⟨w', z⟩ := I.cell y c e
      exact ⟨w', z.sameBut hs (cne y c e)⟩
    · obtain ⟨e, n, ne, nf, d⟩ := I.pin p hp
      exact ⟨(hs.2 p.1 ne).trans e, n, ne, nf, d⟩
  · have hfn : X.fn x = true := by
      rcases hf with z | z
      · exact z
      · rw [z] at hk; cases hk
    obtain ⟨c, hc⟩ := I.ok.has x (.inl hk)
    obtain ⟨w', z⟩ := I.cell x c hc
    refine wpAny_storeName_cell I.ok.kind hk hc z (fun h' hc' hs => ?_)
    obtain ⟨oc, hoc, hocd⟩ := id z
    refine h { s with heap := h' } ⟨I.ok, I.os, I.bare, ⟨fun b o e n hb hx => ?_, fun b o e n hb hx => ?_, I.base.free, fun b o e hx => ?_, I.base.tups, I.base.frzs, I.base.tbls⟩, ⟨m, hn.sameBut hs (Ne.symm (cne x c hc)), fun j y v' e1 e2 e3 => ?_⟩, fun y c' e => ?_, I.free, I.freeC, fun p hp => ?_, tracked ⟨oc, hoc, I.freeC x c hc⟩ hs, by simpa using I.len⟩ ⟨c, hs, .inr hc⟩
    · exact (hs.2 b (Nat.ne_of_lt (Nat.lt_of_lt_of_le (Heap.lt_size e) (I.ok.cab x c hfn hc)))).trans (I.base.keep b o e n hb hx)
    · obtain ⟨sl, e1⟩ := I.base.slot b o e n hb hx
      exact ⟨sl, (hs.2 b (Nat.ne_of_lt (Nat.lt_of_lt_of_le (Heap.lt_size e) (I.ok.cab x c hfn hc)))).trans e1⟩
    · obtain ⟨o', e1⟩ := I.base.there b o e hx
      exact ⟨o', (hs.2 b (Nat.ne_of_lt (Nat.lt_of_lt_of_le (Heap.lt_size e) (I.ok.cab x c hfn hc)))).trans e1⟩
    · by_cases hj : j = i
      · subst hj
        rw [hi] at e1; cases e1
        rw [List.getElem?_set_self hiσ] at e2
        cases e2
        exact ⟨u, r, .inr ⟨.inl hk, c, hc, hc'⟩⟩
      · rw [List.getElem?_set_ne (Ne.symm hj)] at e2
        obtain ⟨u', r', q⟩ := hl j y v' e1 e2 e3
        refine ⟨u', r', ?_⟩
        rcases q with q | ⟨k, c', e, z'⟩
        · exact .inl q
        · refine .inr ⟨k, c', e, z'.sameBut hs ?_⟩
          rintro rfl
          exact hj (nodup_ix hN e1 (I.ok.inj _ _ _ e hc ▸ hi))
    · by_cases hcc : c' = c
      · subst hcc; exact ⟨_, hc'⟩
      · obtain ⟨w2, z2⟩ := I.cell y c' e
        exact ⟨w2, z2.sameBut hs hcc⟩
    · obtain ⟨e, n, ne, nf, d⟩ := I.pin p hp
      refine ⟨(hs.2 p.1 ?_).trans e, n, ne, nf, d⟩
      intro q
      rw [q, hoc] at e
      have q' : oc = p.2 := Option.some.inj e
      exact d w' (by rw [← q']; exact hocd)
theorem store_ok {M : Model} {A : Around} {E : Value → Shared → Prop} {i : Nat} {x : Str} {v : V} {u : Value} {Q : Unit → Shared → Prop} (I : Inv X pins σ H s) (hN : X.N.Nodup) (hi : X.N[i]? = some x) (hx : Loc X.env.scope x) (r : RelV v u)
    (h : ∀ s', Inv X pins (σ.set i (some v)) H s' → Q () s') (hf : X.fn x = true ∨ X.env.scope.names.lookup x = some .local := by first | exact .inl rfl | exact .inr rfl | assumption) : wpAny M A (storeName X.env x u) Q E s :=
  store_ok2 I hN hi hx r (fun s' I' _ => h s' I') hf
theorem Inv.call' {s' : Shared} {ch : List Addr} (I : Inv X pins σ H s) (ho : s'.os = s.os) (u : Un (frs X.stack) ch H H' s.heap s'.heap) (hok : HOk X.prog X.w H' s'.heap) (hg : AllBare s'.gens)
    (hch : ∀ b ∈ ch, (b ∈ X.ex ∨ X.s_0.heap.objs.size ≤ b) ∧ b ≠ X.env.locals ∧ (∀ x c, X.env.cells.lookup x = some c → c ≠ b) ∧ ∀ p ∈ X.pn ++ pins, p.1 ≠ b) : Inv X pins σ H' s' := by
  obtain ⟨h', g', d', t', o'⟩ := s'
  have e : o' = s.os := ho
  subst e
  exact I.call (g' := g') (t' := t') (d' := d') u hok hg hch
end
abbrev XK := Value → Option Addr → Hp → Prop
abbrev St := List (Option V)
abbrev VK := V → Hp → Prop
abbrev TE := St → Hp → VK → Prop
abbrev TT := St → Hp → (Bool → Hp → Prop) → Prop
abbrev TA := St → Hp → (List V → Hp → Prop) → Prop
structure Ends where
  nx : St → Hp → Prop
  rt : VK
  bk : St → Hp → Prop := fun _ _ => False
  ct : St → Hp → Prop := fun _ _ => False
abbrev TS := Ends → St → Hp → Prop
def EP (X : Cx) (pins : List (Addr × Obj)) (σ : St) (Q : VK) (u : Value) (s' : Shared) : Prop := ∃ v H', Inv X pins σ H' s' ∧ RelV v u ∧ Q v H'
def TP (X : Cx) (pins : List (Addr × Obj)) (σ : St) (Q : Bool → Hp → Prop) (b : Bool) (s' : Shared) : Prop := ∃ H', Inv X pins σ H' s' ∧ Q b H'
def AP (X : Cx) (pins : List (Addr × Obj)) (σ : St) (Q : List V → Hp → Prop) (us : List Value) (s' : Shared) : Prop := ∃ vs H', Inv X pins σ H' s' ∧ Vals vs us ∧ Q vs H'
def SP (X : Cx) (pins : List (Addr × Obj)) (D : Ends) (f : Flow) (s' : Shared) : Prop :=
  match f with
  | .next => ∃ σ' H', Inv X pins σ' H' s' ∧ D.nx σ' H'
  | .brk => ∃ σ' H', Inv X pins σ' H' s' ∧ D.bk σ' H'
  | .cont => ∃ σ' H', Inv X pins σ' H' s' ∧ D.ct σ' H'
  | .ret u => ∃ v σ' H', Inv X pins σ' H' s' ∧ RelV v u ∧ D.rt v H'
def PE (X : Cx) (e : Expr) (t : TE) : Prop :=
  ∀ (pins : List (Addr × Obj)) (s : Shared) (σ : St) (H : Hp) (Q : VK), Inv X pins σ H s → t σ H Q → wpAny (model X.prog X.w) X.A (eval e X.env) (EP X pins σ Q) X.xe s
def PT (X : Cx) (e : Expr) (t : TT) : Prop :=
  ∀ (pins : List (Addr × Obj)) (s : Shared) (σ : St) (H : Hp) (Q : Bool → Hp → Prop), Inv X pins σ H s → t σ H Q → wpAny (model X.prog X.w) X.A (isTrue e X.env (eval e X.env)) (TP X pins σ Q) X.xe s
def PW (X : Cx) (e : Expr) (t : TT) : Prop :=
  ∀ (whole : Sem Value) (pins : List (Addr × Obj)) (s : Shared) (σ : St) (H : Hp) (Q : Bool → Hp → Prop), Inv X pins σ H s → t σ H Q → wpAny (model X.prog X.w) X.A (isTrue e X.env whole) (TP X pins σ Q) X.xe s
theorem PW.pt {X : Cx} {e : Expr} {t : TT} (h : PW X e t) : PT X e t := h _
def PA (X : Cx) (es : List Expr) (t : TA) : Prop :=
  ∀ (pos : Pos) (pins : List (Addr × Obj)) (s : Shared) (σ : St) (H : Hp) (Q : List V → Hp → Prop), Inv X pins σ H s → t σ H Q → wpAny (model X.prog X.w) X.A (spliced (backTo pos (starEach es X.env))) (AP X pins σ Q) X.xe s
def PS (X : Cx) (st : Stmt) (t : TS) : Prop :=
  ∀ (pins : List (Addr × Obj)) (s : Shared) (σ : St) (H : Hp) (D : Ends), Inv X pins σ H s → t D σ H → wpAny (model X.prog X.w) X.A (exec st X.env) (SP X pins D) X.xe s
def PSs (X : Cx) (st : List Stmt) (t : TS) : Prop :=
  ∀ (pins : List (Addr × Obj)) (s : Shared) (σ : St) (H : Hp) (D : Ends), Inv X pins σ H s → t D σ H → wpAny (model X.prog X.w) X.A (execs st X.env) (SP X pins D) X.xe s
theorem thn {α : Type} {t : Sem α} {Q Q' : α → Shared → Prop} {M : Model} {A : Around} {E : Value → Shared → Prop} {s : Shared} (h : wpAny M A t Q E s) (hQ : ∀ a s, Q a s → Q' a s) : wpAny M A t Q' E s := wpAny_mono h hQ fun _ _ x => x
end L2
namespace L2
open PySem PySem.Spec PyProof.Rows
section
variable {X : Cx}
def tVar (i : Nat) : TE := fun σ H Q => ∃ v, σ[i]? = some (some v) ∧ Q v H
def tC (v : V) : TE := fun _ H Q => Q v H
theorem pe_var {i : Nat} {x : Str} {pos : Pos} (hN : X.N[i]? = some x) (hv : Vis X.env.scope x) (hd : (x == ("__debug__" : Str)) = false := by decide) (hcd : (x == ("__classdict__" : Str)) = false := by decide) : PE X (.Name x pos) (tVar i) := by
  intro pins s σ H Q I h
  obtain ⟨v, e, h⟩ := h
  obtain ⟨m, hn, hl⟩ := I.loc
  obtain ⟨u, r, l⟩ := hl i x v hN e hv
  have fin : EP X pins σ Q u s := ⟨v, H, I, r, h⟩
  rcases l with ⟨hk, hm⟩ | ⟨hk, c, hc, hcell⟩
  · exact wpAny_Name (wpAny_loadName_local I.ok.kind hk hn hm fin) hd
  · rcases hk with hk | hk
    · exact wpAny_Name (wpAny_loadName_cell I.ok.kind hk hc hcell fin) hd
    · exact wpAny_Name (wpAny_loadName_free I.ok.kind hk hc hcell fin hcd) hd
theorem pe_int {i j pos} : PE X (.Constant (.int i) j pos) (tC (.int i)) := fun _ _ _ H _ I h => wpAny_Constant_int ⟨.int i, H, I.tok _, ⟨_, rfl⟩, h⟩
theorem pe_bl {b j pos} : PE X (.Constant (.bool b) j pos) (tC (.bl b)) := fun _ _ _ H _ I h => Constant_bool ⟨.bl b, H, I, rfl, h⟩
theorem pe_non {j pos} : PE X (.Constant .none j pos) (tC .non) := fun _ _ _ H _ I h => Constant_none ⟨.non, H, I, rfl, h⟩
def Gl (X : Cx) (x : Str) : Prop := X.env.kindOf x = some .globalImplicit
theorem ld_glob {E : Value → Shared → Prop} {pins : List (Addr × Obj)} {s : Shared} {σ : St} {H : Hp} {x : Str} {u : Value} {pos : Pos} {Q : Value → Shared → Prop} (I : Inv X pins σ H s) (hg : Gl X x) (hm : X.mg x = some u) (h : Q u s)
    (hd : (x == ("__debug__" : Str)) = false := by decide) : wpAny (model X.prog X.w) X.A (eval (.Name x pos) X.env) Q E s :=
  Calls.Name_function_global I.ok.kind hg (Calls.loadGlobal_global (by rw [I.ok.glob]; exact I.mod.glob.keeps I.bk) hm h) hd
theorem ld_blt {E : Value → Shared → Prop} {pins : List (Addr × Obj)} {s : Shared} {σ : St} {H : Hp} {x : Str} {u : Value} {pos : Pos} {Q : Value → Shared → Prop} (I : Inv X pins σ H s) (hg : Gl X x) (hm : X.mg x = none) (hv : bootBuiltins x = some u) (h : Q u s)
    (hn : x ≠ "__name__" := by decide) (hd : (x == ("__debug__" : Str)) = false := by decide) : wpAny (model X.prog X.w) X.A (eval (.Name x pos) X.env) Q E s := by
  obtain ⟨mb, h1, h2⟩ := I.mod.blt
  exact Calls.Name_function_global I.ok.kind hg (Calls.loadGlobal_builtin (by rw [I.ok.glob]; exact I.mod.glob.keeps I.bk) hm (by rw [I.ok.blt]; exact h1.keeps I.bk) ((h2 x hn).trans hv) h) hd
theorem pe_glob {x : Str} {v : V} {u : Value} {pos : Pos} (hg : Gl X x) (hm : X.mg x = some u) (r : RelV v u) (hd : (x == ("__debug__" : Str)) = false := by decide) : PE X (.Name x pos) (tC v) :=
  fun _ _ _ H _ I h => ld_glob I hg hm ⟨v, H, I, r, h⟩ hd
variable {a b : Expr} {ta tb : TE} {pos : Pos}
def tB (t : TE) : TT := fun σ H Q => t σ H fun x H1 => ∃ c, x = .bl c ∧ Q c H1
theorem pt_val {e : Expr} {t : TE} (h : PE X e t) (he : ∀ whole, isTrue e X.env whole = (do let v ← whole; standAt e.pos; holding [v] (truthy v)) := by intro _; rfl) : PT X e (tB t) := by
  intro pins s σ H Q I hw
  refine isTrue_plain (thn (h pins s σ H _ I hw) fun v s1 ⟨x, H1, I1, r1, q1⟩ => ?_) (he _)
  obtain ⟨d, rfl, q⟩ := q1
  cases r1
  exact wpAny_truthy_bool ⟨H1, I1, q⟩
variable {tA tB' : TT} {rest : List Expr}
def tAnd (t u : TT) : TT := fun σ H Q => t σ H fun c H1 => if c = true then u σ H1 Q else Q false H1
def tOr (t u : TT) : TT := fun σ H Q => t σ H fun c H1 => if c = true then Q true H1 else u σ H1 Q
def tNot (t : TT) : TT := fun σ H Q => t σ H fun c H1 => Q (!c) H1
theorem pw_and1 (ha : PT X a tA) : PW X (.BoolOp .And [a] pos) tA := by
  intro wh pins s σ H Q I h
  refine isTrue_and (thn (ha pins s σ H Q I h) fun c s1 e => ?_)
  cases c with
  | true => exact isTrue_and_nil e
  | false => exact e
theorem pw_or1 (ha : PT X a tA) : PW X (.BoolOp .Or [a] pos) tA := by
  intro wh pins s σ H Q I h
  refine isTrue_or (thn (ha pins s σ H Q I h) fun c s1 e => ?_)
  cases c with
  | false => exact isTrue_or_nil e
  | true => exact e
theorem pw_and (ha : PT X a tA) (hb : PW X (.BoolOp .And (b :: rest) pos) tB') : PW X (.BoolOp .And (a :: b :: rest) pos) (tAnd tA tB') := by
  intro wh pins s σ H Q I h
  refine isTrue_and (thn (ha pins s σ H _ I h) fun c s1 ⟨H1, I1, q1⟩ => ?_)
  cases c with
  | true => exact hb wh pins s1 σ H1 Q I1 q1
  | false => exact ⟨H1, I1, q1⟩
theorem pw_or (ha : PT X a tA) (hb : PW X (.BoolOp .Or (b :: rest) pos) tB') : PW X (.BoolOp .Or (a :: b :: rest) pos) (tOr tA tB') := by
  intro wh pins s σ H Q I h
  refine isTrue_or (thn (ha pins s σ H _ I h) fun c s1 ⟨H1, I1, q1⟩ => ?_)
  cases c with
  | true => exact ⟨H1, I1, q1⟩
  | false => exact hb wh pins s1 σ H1 Q I1 q1
theorem pt_not (ha : PT X a tA) : PT X (.UnaryOp .Not a pos) (tNot tA) := by
  intro pins s σ H Q I h
  exact isTrue_not (ha pins s σ H (fun c H1 => Q (!c) H1) I h)
def tAndV (ta tb : TE) : TE := fun σ H Q => ta σ H fun x H1 => ∃ c, x = .bl c ∧ if c = true then tb σ H1 Q else Q (.bl false) H1
def tOrV (ta tb : TE) : TE := fun σ H Q => ta σ H fun x H1 => ∃ c, x = .bl c ∧ if c = true then Q (.bl true) H1 else tb σ H1 Q
def tNotV (ta : TE) : TE := fun σ H Q => ta σ H fun x H1 => ∃ c, x = .bl c ∧ Q (.bl (!c)) H1
theorem pe_one {op} {t : TE} (h : PE X a t) : PE X (.BoolOp op [a] pos) t := fun pins s σ H Q I hw => BoolOp_one (h pins s σ H Q I hw)
theorem pe_and (ha : PE X a ta) (hb : PE X (.BoolOp .And (b :: rest) pos) tb) : PE X (.BoolOp .And (a :: b :: rest) pos) (tAndV ta tb) := by
  intro pins s σ H Q I h
  refine BoolOp_and (thn (ha pins s σ H _ I h) fun v s1 ⟨x, H1, I1, r1, q1⟩ => ?_)
  obtain ⟨c, rfl, q1⟩ := q1
  cases r1
  refine wpAny_truthy_bool ?_
  cases c with
  | true => exact hb pins s1 σ H1 Q I1 q1
  | false => exact ⟨.bl false, H1, I1, rfl, q1⟩
theorem pe_or (ha : PE X a ta) (hb : PE X (.BoolOp .Or (b :: rest) pos) tb) : PE X (.BoolOp .Or (a :: b :: rest) pos) (tOrV ta tb) := by
  intro pins s σ H Q I h
  refine BoolOp_or (thn (ha pins s σ H _ I h) fun v s1 ⟨x, H1, I1, r1, q1⟩ => ?_)
  obtain ⟨c, rfl, q1⟩ := q1
  cases r1
  refine wpAny_truthy_bool ?_
  cases c with
  | false => exact hb pins s1 σ H1 Q I1 q1
  | true => exact ⟨.bl true, H1, I1, rfl, q1⟩
theorem pe_not (ha : PE X a ta) : PE X (.UnaryOp .Not a pos) (tNotV ta) := by
  intro pins s σ H Q I h
  refine UnaryOp_ (thn (ha pins s σ H _ I h) fun v s1 ⟨x, H1, I1, r1, q1⟩ => ?_)
  obtain ⟨c, rfl, q1⟩ := q1
  cases r1
  exact not_of (wpAny_truthy_bool ⟨.bl (!c), H1, I1, rfl, q1⟩)
def tIf (t : TT) (ta tb : TE) : TE := fun σ H Q => t σ H fun c H1 => if c = true then ta σ H1 Q else tb σ H1 Q
theorem pe_ifExp {c : Expr} (hc : PT X c tA) (ha : PE X a ta) (hb : PE X b tb) : PE X (.IfExp c a b pos) (tIf tA ta tb) := by
  intro pins s σ H Q I h
  refine wpAny_IfExp (thn (hc pins s σ H _ I h) fun d s1 ⟨H1, I1, q1⟩ => ?_)
  cases d with
  | true => exact ha pins s1 σ H1 Q I1 q1
  | false => exact hb pins s1 σ H1 Q I1 q1
end
end L2
namespace L2
open PySem PySem.Spec PyProof.Rows
def SqL (K : PySem.W.Frag) (H : Hp) (a : Addr) (xs : List V) : Prop :=
  Rd H a (.lst xs) ∨
    ∃ (o : Obj) (its : Array Value) (n : Nat), K.lookup a = some o ∧ o.cls = .type "list" ∧ o.dict = none ∧ o.data = .seq its n ∧ its.size ≤ sizeLine ∧ Vals xs its.toList
def SqT (K : PySem.W.Frag) (H : Hp) (a : Addr) (xs : List V) : Prop :=
  Rd H a (.tup xs) ∨
    ∃ (o : Obj) (its : Array Value) (n : Nat), K.lookup a = some o ∧ o.cls = .type "tuple" ∧ o.data = .seq its n ∧ its.size ≤ sizeLine ∧ Vals xs its.toList
def absV : Value → Option V
  | .none => some .non
  | .bool b => some (.bl b)
  | .int i _ => some (.int i)
  | .str x _ => some (.str x)
  | .bytes b _ => some (.byt b)
  | .float b _ => some (.flt b)
  | .ref a => some (.ref a)
  | .type n => some (.ty n)
  | _ => none
theorem RelV.abs {x : V} {u : Value} (r : RelV x u) : absV u = some x := by
  cases x with
  | non => cases r; rfl
  | bl _ => cases r; rfl
  | int _ => obtain ⟨t, rfl⟩ := r; rfl
  | str _ => obtain ⟨t, rfl⟩ := r; rfl
  | byt _ => obtain ⟨t, rfl⟩ := r; rfl
  | flt _ => obtain ⟨t, rfl⟩ := r; rfl
  | ref _ => cases r; rfl
  | ty _ => cases r; rfl
theorem RelV.inj {x y : V} {u : Value} (r : RelV x u) (q : RelV y u) : x = y := Option.some.inj (r.abs.symm.trans q.abs)
theorem Vals.inj : ∀ {xs ys : List V} {us : List Value}, Vals xs us → Vals ys us → xs = ys
  | _, _, _, .nil, .nil => rfl
  | _, _, _, .cons r t, .cons r' t' => by rw [r.inj r', Vals.inj t t']
section
variable {X : Cx} {pins : List (Addr × Obj)} {σ : St} {H : Hp} {s : Shared} {a : Addr} {xs ys : List V}
theorem SqL.of {K : PySem.W.Frag} (h : H a = some (.lst xs)) : SqL K H a xs := .inl (.inl h)
theorem SqT.of {K : PySem.W.Frag} (h : H a = some (.tup xs)) : SqT K H a xs := .inl (.inl h)
theorem Inv.list (I : Inv X pins σ H s) (h : SqL X.K H a xs) : ∃ its : List Value, Vals xs its ∧ PlainL s.heap a its.toArray ∧ xs.length ≤ sizeLine := by
  rcases h with h | ⟨o, its, n, hk, hc, hd, hs, hz, r⟩
  · obtain ⟨z, its, n, r, e⟩ := h.ok I.hok
    exact ⟨its, r, ⟨_, n, e, rfl, rfl, rfl⟩, z⟩
  · refine ⟨its.toList, r, ⟨o, n, I.kIn a o hk, hc, hd, by simpa using hs⟩, ?_⟩
    have e := r.length
    simp only [Array.length_toList] at e
    omega
theorem Inv.tuple (I : Inv X pins σ H s) (h : SqT X.K H a xs) : ∃ its : List Value, Vals xs its ∧ IsTup s.heap a its.toArray ∧ xs.length ≤ sizeLine := by
  rcases h with h | ⟨o, its, n, hk, hc, hs, hz, r⟩
  · obtain ⟨z, its, r, p⟩ := h.ok I.hok
    exact ⟨its, r, p, z⟩
  · refine ⟨its.toList, r, ⟨o, I.kIn a o hk, hc, n, by simpa using hs⟩, ?_⟩
    have e := r.length
    simp only [Array.length_toList] at e
    omega
theorem Inv.list_inj (I : Inv X pins σ H s) (h : SqL X.K H a xs) (h' : SqL X.K H a ys) : xs = ys := by
  obtain ⟨its, r, ⟨o, n, e, _, _, d⟩, _⟩ := I.list h
  obtain ⟨its', r', ⟨o', n', e', _, _, d'⟩, _⟩ := I.list h'
  rw [e] at e'; cases e'
  rw [d] at d'
  injection d' with d1 _
  have : its = its' := by simpa using congrArg Array.toList d1
  subst this
  exact r.inj r'
end
abbrev Cx.wish (X : Cx) (E : Value → Shared → Prop) : Cx := { X with xe := E }
abbrev Cx.nox (X : Cx) : Cx := X.wish fun _ _ => False
theorem Cx.Ok.wish {X : Cx} (ok : X.Ok) (E : Value → Shared → Prop) : (X.wish E).Ok :=
  ⟨ok.mod, ok.kind, ok.glob, ok.blt, ok.above, ok.inj, ok.has, ok.cab, ok.hd, ok.frames, ok.stk, ok.exf, ok.bs, ok.bsz, ok.noex, ok.exfs, ok.funs, ok.frf⟩
theorem Cx.Ok.unwish {X : Cx} {E : Value → Shared → Prop} (ok : (X.wish E).Ok) : X.Ok :=
  ⟨ok.mod, ok.kind, ok.glob, ok.blt, ok.above, ok.inj, ok.has, ok.cab, ok.hd, ok.frames, ok.stk, ok.exf, ok.bs, ok.bsz, ok.noex, ok.exfs, ok.funs, ok.frf⟩
section
variable {X : Cx} {pins : List (Addr × Obj)} {σ : St} {H : Hp} {s : Shared} {E : Value → Shared → Prop}
theorem Inv.wish (I : Inv X pins σ H s) (E : Value → Shared → Prop) : Inv (X.wish E) pins σ H s := ⟨I.ok.wish E, I.os, I.bare, I.base, I.loc, I.cell, I.free, I.freeC, I.pin, I.hok, I.len⟩
theorem Inv.unwish (I : Inv (X.wish E) pins σ H s) : Inv X pins σ H s := ⟨I.ok.unwish, I.os, I.bare, I.base, I.loc, I.cell, I.free, I.freeC, I.pin, I.hok, I.len⟩
theorem SP.unwish {D : Ends} {f : Flow} {s' : Shared} (h : SP (X.wish E) pins D f s') : SP X pins D f s' := by
  cases f with
  | next => obtain ⟨σ', H', I, q⟩ := h; exact ⟨σ', H', I.unwish, q⟩
  | brk => obtain ⟨σ', H', I, q⟩ := h; exact ⟨σ', H', I.unwish, q⟩
  | cont => obtain ⟨σ', H', I, q⟩ := h; exact ⟨σ', H', I.unwish, q⟩
  | ret u => obtain ⟨v, σ', H', I, r, q⟩ := h; exact ⟨v, σ', H', I.unwish, r, q⟩
theorem PSs.nox {st : List Stmt} {t : TS} (h : PSs X.nox st t) : PSs X st t := fun pins s σ H D I hw =>
  wpAny_mono (h pins s σ H D (I.wish _) hw) (fun _ _ q => q.unwish) fun _ _ z => False.elim z
end
section
variable {X : Cx} {st : Stmt} {rest : List Stmt} {t u : TS} {e : Expr} {te : TE} {pos : Pos}
def tNext : TS := fun D σ H => D.nx σ H
def tSeq (t u : TS) : TS := fun D σ H => t { D with nx := u D } σ H
theorem pss_nil : PSs X [] tNext := fun _ _ σ H _ I h => wpAny_execs_nil ⟨σ, H, I, h⟩
theorem pss_cons (h1 : PS X st t) (h2 : PSs X rest u) : PSs X (st :: rest) (tSeq t u) := by
  intro pins s σ H D I h
  refine wpAny_execs_cons (thn (h1 pins s σ H { D with nx := u D } I h) fun f s1 q => ?_)
  cases f with
  | next =>
    obtain ⟨σ', H', I', q⟩ := q
    exact h2 pins s1 σ' H' D I' q
  | ret v => exact q
  | brk => exact q
  | cont => exact q
theorem pss_one (h1 : PS X st t) : PSs X [st] t := by
  intro pins s σ H D I h
  refine wpAny_execs_cons (thn (h1 pins s σ H D I h) fun f s1 q => ?_)
  cases f with
  | next => exact wpAny_execs_nil q
  | ret v => exact q
  | brk => exact q
  | cont => exact q
theorem Inv.quiet {pins : List (Addr × Obj)} {σ : St} {H : Hp} {s : Shared} (I : Inv X pins σ H s) : interactive X.env = false := by simp [interactive, I.ok.kind]
def tDrop (te : TE) : TS := fun D σ H => te σ H fun _ H1 => D.nx σ H1
theorem ps_expr (he : PE X e te) (hs : swapsWith e none pos.line X.env = pure false := by rfl) : PS X (.Expr e pos) (tDrop te) := by
  intro pins s σ H D I h
  exact wpAny_Expr_any (thn (he pins s σ H _ I h) fun v s1 ⟨x, H1, I1, r1, q1⟩ => ⟨σ, H1, I1, q1⟩) I.quiet hs
def tRet (te : TE) : TS := fun D σ H => te σ H D.rt
theorem ps_ret (he : PE X e te) : PS X (.Return (some e) pos) (tRet te) := by
  intro pins s σ H D I h
  exact wpAny_Return_some (thn (he pins s σ H _ I h) fun v s1 ⟨x, H1, I1, r1, q1⟩ => ⟨x, σ, H1, I1, r1, q1⟩)
def tIfS (c : TT) (t u : TS) : TS := fun D σ H => c σ H fun b H1 => if b = true then t D σ H1 else u D σ H1
theorem ps_if {c : Expr} {a b : List Stmt} {tc : TT} (hc : PT X c tc) (ha : PSs X a t) (hb : PSs X b u) : PS X (.If c a b pos) (tIfS tc t u) := by
  intro pins s σ H D I h
  refine wpAny_If (thn (hc pins s σ H _ I h) fun d s1 ⟨H1, I1, q1⟩ => ?_)
  cases d with
  | true => exact ha pins s1 σ H1 D I1 q1
  | false => exact hb pins s1 σ H1 D I1 q1
end
abbrev TG := V → St → Hp → (St → Hp → Prop) → Prop
def PG (X : Cx) (target : Expr) (t : TG) : Prop :=
  ∀ (pins : List (Addr × Obj)) (s : Shared) (σ : St) (H : Hp) (v : V) (u : Value) (Q : St → Hp → Prop), Inv X pins σ H s → RelV v u → t v σ H Q →
    wpAny (model X.prog X.w) X.A (assign target X.env u) (fun _ s' => ∃ σ' H', Inv X pins σ' H' s' ∧ Q σ' H') X.xe s
abbrev TSet := V → V → V → Hp → (Hp → Prop) → Prop
def PSet (X : Cx) (t : TSet) : Prop :=
  ∀ (pins : List (Addr × Obj)) (s : Shared) (σ : St) (H : Hp) (o i v : V) (ov iv u : Value) (Q : Hp → Prop), Inv X pins σ H s → RelV o ov → RelV i iv → RelV v u → t o i v H Q →
    wpAny (model X.prog X.w) X.A (setItem ov iv u) (fun _ s' => ∃ H', Inv X pins σ H' s' ∧ Q H') X.xe s
section
variable {X : Cx} {pos : Pos}
def gName (i : Nat) : TG := fun v σ H Q => Q (σ.set i (some v)) H
theorem pg_name {i : Nat} {x : Str} (hN : X.N.Nodup) (hi : X.N[i]? = some x) (hx : Loc X.env.scope x) (hf : X.fn x = true ∨ X.env.scope.names.lookup x = some .local := by first | exact .inl rfl | exact .inr rfl | assumption) : PG X (.Name x pos) (gName i) := by
  intro pins s σ H v u Q I r h
  exact wpAny_assign_Name (store_ok I hN hi hx r (fun s' I' => ⟨_, H, I', h⟩) hf)
def gSub (to ti : TE) (t : TSet) : TG := fun v σ H Q => to σ H fun o H1 => ti σ H1 fun i H2 => t o i v H2 fun H3 => Q σ H3
theorem pg_sub {o i : Expr} {to ti : TE} {t : TSet} (ho : PE X o to) (hi : PE X i ti) (hs : PSet X t)
    (ha : ∀ v, assign (.Subscript o i pos) X.env v = (do
      let ov ← holding [v] (eval o X.env)
      let iv ← holding [v, ov] (eval i X.env)
      standAt pos
      holding [v, ov, iv] (setItem ov iv v)
      release [v, ov, iv] []) := by intro _; rfl) : PG X (.Subscript o i pos) (gSub to ti t) := by
  intro pins s σ H v u Q I r h
  rw [ha]
  refine wpAny_bind (wpAny_holding (thn (ho pins s σ H _ I h) fun ov s1 ⟨x, H1, I1, r1, q1⟩ => ?_))
  refine wpAny_bind (wpAny_holding (thn (hi pins s1 σ H1 _ I1 q1) fun iv s2 ⟨y, H2, I2, r2, q2⟩ => ?_))
  refine wpAny_bind (wpAny_standAt (wpAny_bind (wpAny_holding (thn (hs pins s2 σ H2 x y v ov iv u _ I2 r1 r2 r q2) fun _ s3 ⟨H3, I3, q3⟩ => ?_))))
  exact wpAny_release ⟨σ, H3, I3, q3⟩
def tAsg (te : TE) (g : TG) : TS := fun D σ H => te σ H fun x H1 => g x σ H1 D.nx
theorem ps_asg {tg e : Expr} {te : TE} {g : TG} (he : PE X e te) (hg : PG X tg g) (hs : swapsWithSole [tg] e pos.line X.env = pure false := by rfl) (hw : swappedStores [tg] e X.env = pure none := by rfl)
    (h1 : (assignEach [tg] X.env).map (·.2) = [assign tg X.env] := by rfl) : PS X (.Assign [tg] e pos) (tAsg te g) := by
  intro pins s σ H D I h
  refine wpAny_Assign_stores (thn (he pins s σ H _ I h) fun v s1 ⟨x, H1, I1, r1, q1⟩ => ?_) hs hw
  rw [h1]
  exact thn (hg pins s1 σ H1 x v _ I1 r1 q1) fun _ s2 q => q
theorem ps_set {i : Nat} {x : Str} {e : Expr} {te : TE} {pos' : Pos} (hN : X.N.Nodup) (hi : X.N[i]? = some x) (hx : Loc X.env.scope x) (he : PE X e te) (hs : swapsWith e (some (.Name x pos')) pos.line X.env = pure false := by rfl) (hf : X.fn x = true ∨ X.env.scope.names.lookup x = some .local := by first | exact .inl rfl | exact .inr rfl | assumption) :
    PS X (.Assign [.Name x pos'] e pos) (tAsg te (gName i)) := by
  intro pins s σ H D I h
  refine wpAny_Assign_Name (thn (he pins s σ H _ I h) fun v s1 ⟨y, H1, I1, r1, q1⟩ => ?_) hs
  exact store_ok I1 hN hi hx r1 (fun s2 I2 => ⟨_, H1, I2, q1⟩) hf
end
section
variable {X : Cx} {pos : Pos}
def tWhile (c : TT) (tb : TS) : TS := fun D σ H => ∃ W : Nat → St → Hp → Prop, (∃ m, W m σ H) ∧ ∀ m σ H, W m σ H →
  c σ H fun b H1 => if b = true then ∃ N : St → Hp → Prop, (∀ σ' H', N σ' H' → ∃ m', m' < m ∧ W m' σ' H') ∧ tb { D with nx := N, ct := N, bk := D.nx } σ H1 else D.nx σ H1
theorem ps_while {c : Expr} {body : List Stmt} {tc : TT} {tb : TS} (hp : PassesOwn (model X.prog X.w) X.A X.env X.xe) (hc : PT X c tc) (hb : PSs X body tb) : PS X (.While c body [] pos) (tWhile tc tb) := by
  intro pins s σ H D I h
  obtain ⟨W, ⟨m0, w0⟩, turn⟩ := h
  refine wpAny_While (codeAny_whileLoop (fun n s' => ∃ σ' H', Inv X pins σ' H' s' ∧ W n σ' H') ?_ m0 ⟨σ, H, I, w0⟩)
  rintro n s1 ⟨σ1, H1, I1, w1⟩
  refine wpAny_passesOwn hp (thn (hc pins s1 σ1 H1 _ I1 (turn n σ1 H1 w1)) fun b s2 ⟨H2, I2, q2⟩ => ?_)
  cases b with
  | true =>
    obtain ⟨N, hN, q2⟩ := q2
    rw [if_pos rfl]
    refine wpAny_passesOwn hp (thn (hb pins s2 σ1 H2 _ I2 q2) fun f s3 q3 => ?_)
    cases f with
    | next =>
      obtain ⟨σ3, H3, I3, n3⟩ := q3
      obtain ⟨m', hm, w3⟩ := hN σ3 H3 n3
      exact ⟨m', hm, σ3, H3, I3, w3⟩
    | cont =>
      obtain ⟨σ3, H3, I3, n3⟩ := q3
      obtain ⟨m', hm, w3⟩ := hN σ3 H3 n3
      exact ⟨m', hm, σ3, H3, I3, w3⟩
    | brk => exact q3
    | ret v => exact q3
  | false =>
    rw [if_neg Bool.false_ne_true]
    exact wpAny_execs_nil ⟨σ1, H2, I2, q2⟩
end
structure It where
  go : Nat → Hp → Prop
  yld : Nat → Hp → V → Hp → Prop
  stop : Nat → Hp → Prop
def FpOk (X : Cx) (pins : List (Addr × Obj)) (H : Hp) (b : Addr) : Prop :=
  H b = none ∧ b ≠ X.env.locals ∧ b ∉ X.fs ∧ (b ∈ X.ex ∨ X.s_0.heap.objs.size ≤ b) ∧ (∀ x c, X.env.cells.lookup x = some c → c ≠ b) ∧ ∀ p ∈ X.pn ++ pins, p.1 ≠ b
theorem Inv.fpOk {X : Cx} {pins : List (Addr × Obj)} {σ : St} {H H' : Hp} {s : Shared} {b : Addr} (I : Inv X pins σ H s) (hb : s.heap.objs.size ≤ b) (hn : H' b = none) : FpOk X pins H' b := by
  refine ⟨hn, Nat.ne_of_gt (Nat.lt_of_lt_of_le I.lt hb), I.nofs hb, .inr (Nat.le_trans I.sz hb), fun x c e z => ?_, fun p hp z => ?_⟩
  · obtain ⟨v, q⟩ := I.cell x c e
    exact absurd (Nat.lt_of_lt_of_le q.lt (by rw [z]; exact hb)) (Nat.lt_irrefl _)
  · exact absurd (Nat.lt_of_lt_of_le (Heap.lt_size (I.pin p hp).1) (by rw [z]; exact hb)) (Nat.lt_irrefl _)
structure Turn (P : Program) (w : World) (K : PySem.W.Frag) (tg : Expr) (J : It) (fp : List Addr) (it : Addr) (tn : Nat → Heap → Prop) : Prop where
  mem : it ∈ fp
  obj : ∀ i h, tn i h → ∀ b ∈ fp, ∃ o, h.get? b = some o ∧ ∀ v, o.data ≠ .cell v
  keep : ∀ i h h', tn i h → (∀ b ∈ fp, ∀ o, h.get? b = some o → h'.get? b = some o) → tn i h'
  item : ∀ (X : Cx), X.prog = P → X.w = w → X.K = K → X.calm = true → ∀ (i : Nat) (pins : List (Addr × Obj)) (s : Shared) (σ : St) (H : Hp) (E : Value → Shared → Prop), Inv X pins σ H s → (∀ b ∈ fp, FpOk X pins H b) → tn i s.heap → J.go i H →
    wpAny (model P w) X.A (pyNext (.ref it)) (fun r s1 => ∃ u, r = some u ∧
      wpAny (model P w) X.A (letOwnedTupleGo tg (.ref it) u) (fun _ s2 => ∃ x H', Inv X pins σ H' s2 ∧ RelV x u ∧ J.yld i H x H' ∧ tn (i + 1) s2.heap ∧ ∀ b ∈ fp, H' b = none) E s1) E s
  done : ∀ (X : Cx), X.prog = P → X.w = w → X.K = K → X.calm = true → ∀ (i : Nat) (pins : List (Addr × Obj)) (s : Shared) (σ : St) (H : Hp) (E : Value → Shared → Prop), Inv X pins σ H s → (∀ b ∈ fp, FpOk X pins H b) → tn i s.heap → J.stop i H →
    wpAny (model P w) X.A (pyNext (.ref it)) (fun r s1 => r = none ∧ Inv X pins σ H s1) E s
  self : ∀ (A : Around) (i : Nat) (s : Shared) (Q : Value → Shared → Prop) (E : Value → Shared → Prop), tn i s.heap → Q (.ref it) s → wpAny (model P w) A (pyIter (.ref it)) Q E s
abbrev TI := St → Hp → (It → Hp → Prop) → Prop
def PIE (X : Cx) (pins : List (Addr × Obj)) (σ : St) (tg : Expr) (R : It → Hp → Prop) (itv : Value) (s2 : Shared) : Prop :=
  ∃ (it : Addr) (fp : List Addr) (tn : Nat → Heap → Prop) (J : It) (H' : Hp), itv = .ref it ∧ Inv X pins σ H' s2 ∧ Turn X.prog X.w X.K tg J fp it tn ∧ tn 0 s2.heap ∧ (∀ b ∈ fp, FpOk X pins H' b) ∧ R J H'
def PI (X : Cx) (tg iter : Expr) (wi : TI) : Prop :=
  ∀ (pins : List (Addr × Obj)) (s : Shared) (σ : St) (H : Hp) (R : It → Hp → Prop), Inv X pins σ H s → wi σ H R →
    wpAny (model X.prog X.w) X.A (eval iter X.env) (fun v s1 => wpAny (model X.prog X.w) X.A (pyIter v) (PIE X pins σ tg R) X.xe s1) X.xe s
theorem go_of {M : Model} {A : Around} {E : Value → Shared → Prop} {s : Shared} {tg : Expr} {it : Addr} {u : Value} {o : Obj} {n : String} {vs : Array Value} {Q : Unit → Shared → Prop} (ho : s.heap.get? it = some o) (hc : o.cls = .type n) (hd : o.data = .fields vs)
    (hn : ["enumerate", "zip", "dict_itemiterator", "dict_reverseitemiterator", "odict_iterator", "itertools.zip_longest", "itertools.pairwise"].contains n = false) (hQ : Q () s) : wpAny M A (letOwnedTupleGo tg (.ref it) u) Q E s := by
  unfold letOwnedTupleGo
  cases tg <;> first
    | exact wpAny_pure hQ
    | (cases u <;> first
        | exact wpAny_pure hQ
        | (refine wpAny_bind (wpAny_load ho ?_)
           rw [hc, hd]
           show wpAny M A (if (["enumerate", "zip", "dict_itemiterator", "dict_reverseitemiterator", "odict_iterator", "itertools.zip_longest", "itertools.pairwise"].contains n && vs[0]? == some (rawInt _)) = true then _ else _) Q E s
           rw [if_neg (by intro h; rw [hn, Bool.false_and] at h; cases h)]
           exact wpAny_pure hQ))
def Itl (K : PySem.W.Frag) (a : Addr) : It :=
  ⟨fun i H => ∃ xs x, SqL K H a xs ∧ xs[i]? = some x, fun i H x H' => H' = H ∧ ∀ xs, SqL K H a xs → xs[i]? = some x, fun i H => ∃ xs, SqL K H a xs ∧ xs.length ≤ i⟩
def Itr (lo : Int) (n : Nat) : It := ⟨fun i _ => i < n, fun i H x H' => H' = H ∧ x = .int (lo + i), fun i _ => n ≤ i⟩
theorem turn_list {P : Program} {w : World} {K : PySem.W.Frag} {tg : Expr} (a it : Addr) : Turn P w K tg (Itl K a) [it] it (fun i h => h.IsListIter it a i) where
  mem := by simp
  obj := fun i h st b hb => by
    have e : b = it := by simpa using hb
    subst e
    obtain ⟨o, e, c, d⟩ := st
    exact ⟨o, e, fun v z => by rw [d] at z; cases z⟩
  keep := fun i h h' st k => st.at fun o e => k it (by simp) o e
  item := by
    intro X hP hw hK hc i pins s σ H E I hf st hg
    subst hP hw hK
    obtain ⟨xs, x, hq, hx⟩ := hg
    obtain ⟨its, rv, p, hz⟩ := I.list hq
    obtain ⟨u, hu, ru⟩ := rv.get hx
    obtain ⟨f0, f1, f2, f3, f4, f5⟩ := hf it (by simp)
    refine wpAny_pyNext_list_item st p.isList (x := u) (by simpa using hu) fun h' st' sb => ?_
    have I1 : Inv X pins σ H { s with heap := h' } := I.turned (t' := s.toks) (fun b o hb e => (sb.2 b hb).trans e) f0 f1 f3 f4 f5
    obtain ⟨o, e, c, d⟩ := id st'
    exact ⟨u, rfl, go_of (s := { s with heap := h' }) e c d (by decide) ⟨x, H, I1, ru, ⟨rfl, fun ys hy => by rw [I.list_inj hy hq]; exact hx⟩, st', fun b hb => (hf b hb).1⟩⟩
  done := by
    intro X hP hw hK hc i pins s σ H E I hf st hg
    subst hP hw hK
    obtain ⟨xs, hq, hx⟩ := hg
    obtain ⟨its, rv, p, hz⟩ := I.list hq
    obtain ⟨f0, f1, f2, f3, f4, f5⟩ := hf it (by simp)
    have hl := rv.length
    exact wpAny_pyNext_list_end (I.ok.hd hc) st p.isList (by simp; omega) fun h' eb => ⟨rfl, I.turned (t' := s.toks) (fun b o hb e => eb b o hb e) f0 f1 f3 f4 f5⟩
  self := fun _ _ _ _ _ st h => wpAny_pyIter_listiter st h
theorem turn_range {P : Program} {w : World} {K : PySem.W.Frag} {tg : Expr} (it : Addr) (lo : Int) (n : Nat) : Turn P w K tg (Itr lo n) [it] it (fun i h => IsRangeIter h it (lo + (i : Nat) * 1) ((n : Int) - (i : Nat)) 1) where
  mem := by simp
  obj := fun i h st b hb => by
    have e : b = it := by simpa using hb
    subst e
    exact ⟨_, st, fun v z => by
      have z' : Data.fields _ = Data.cell v := z
      cases z'⟩
  keep := fun i h h' st k => k it (by simp) _ st
  item := by
    intro X hP hw hK hc i pins s σ H E I hf st hg
    subst hP hw hK
    obtain ⟨f0, f1, f2, f3, f4, f5⟩ := hf it (by simp)
    have W := Walks.range (prog := X.prog) (w := X.w) (I.ok.hd hc) it lo 1 n
    refine W.item i s _ _ hg st fun v h' tk hv st' kk => ?_
    obtain ⟨t, rfl⟩ := hv
    have I1 : Inv X pins σ H { s with heap := h', toks := tk } := I.turned (fun b o hb e => kk b o (by simpa using hb) e) f0 f1 f3 f4 f5
    refine ⟨_, rfl, go_of (s := { s with heap := h', toks := tk }) (n := "range_iterator") st' rfl rfl (by decide) ⟨.int (lo + i), H, I1, ⟨t, ?_⟩, ⟨rfl, rfl⟩, st', fun b hb => (hf b hb).1⟩⟩
    rw [Int.mul_one]
  done := by
    intro X hP hw hK hc i pins s σ H E I hf st hg
    subst hP hw hK
    obtain ⟨f0, f1, f2, f3, f4, f5⟩ := hf it (by simp)
    exact wpAny_pyNext_range_end (I.ok.hd hc) st (by have : n ≤ i := hg; omega) fun h' eb => ⟨rfl, I.turned (t' := s.toks) (fun b o hb e => eb b o hb e) f0 f1 f3 f4 f5⟩
  self := fun _ _ _ _ _ st h => wpAny_pyIter_rangeiter st h
end L2
namespace L2
open PySem PySem.Spec PyProof.Rows
section
variable {X : Cx} {tg : Expr}
def iList (K : PySem.W.Frag) (tl : TE) : TI := fun σ H R => tl σ H fun x H1 => ∃ a, x = .ref a ∧ (∃ xs, SqL K H1 a xs) ∧ R (Itl K a) H1
theorem pi_list {l : Expr} {tl : TE} (hl : PE X l tl) : PI X tg l (iList X.K tl) := by
  intro pins s σ H R I h
  refine thn (hl pins s σ H _ I h) fun v s1 ⟨x, H1, I1, r1, q1⟩ => ?_
  obtain ⟨a, e, ⟨xs, hq⟩, q⟩ := q1
  subst e
  cases r1
  obtain ⟨its, rv, p, hz⟩ := I1.list hq
  refine wpAny_pyIter_list p.isList ?_
  refine ⟨s1.heap.objs.size, [s1.heap.objs.size], _, _, H1, rfl, I1.kept (t' := s1.toks) fun b o e => Heap.get?_push_of_some _ e, turn_list a _, ⟨_, Heap.get?_push_size _ rfl, rfl, rfl⟩, fun b hb => ?_, q⟩
  have e : b = s1.heap.objs.size := by simpa using hb
  subst e
  exact I1.fpOk (Nat.le_refl _) (I1.hok.fresh (Nat.le_refl _))
theorem range_it {pins : List (Addr × Obj)} {σ : St} {H : Hp} {s : Shared} {R : It → Hp → Prop} {E : Value → Shared → Prop} {lo hi : Int} {t u v : Tok} {tk : Nat} (I : Inv X pins σ H s) (h1 : -(2 ^ 62) ≤ lo) (h2 : lo < 2 ^ 62) (h3 : -(2 ^ 62) ≤ hi) (h4 : hi < 2 ^ 62)
    (q : R (Itr lo (hi - lo).toNat) H) : wpAny (model X.prog X.w) X.A (pyIter (.ref s.heap.objs.size)) (PIE X pins σ tg R) E { s with heap := s.heap.push { cls := .type "range", data := .fields #[.int lo t, .int hi u, .int 1 v] }, toks := tk } := by
  refine wpAny_pyIter_range (IsRange.new ..) (small_one h1 h2 h3 h4) ?_
  have I1 : Inv X pins σ H { s with heap := s.heap.push { cls := .type "range", data := .fields #[.int lo t, .int hi u, .int 1 v] }, toks := tk } := I.kept fun b o e => Heap.get?_push_of_some _ e
  refine ⟨(s.heap.push { cls := .type "range", data := .fields #[.int lo t, .int hi u, .int 1 v] }).objs.size, [(s.heap.push { cls := .type "range", data := .fields #[.int lo t, .int hi u, .int 1 v] }).objs.size], _, _, H, rfl,
    I1.kept (t' := tk) fun b o e => Heap.get?_push_of_some _ e, turn_range _ lo (hi - lo).toNat, ?_, fun b hb => ?_, q⟩
  · have e1 : lo + ((0 : Nat) : Int) * 1 = lo := by simp
    have e2 : (((hi - lo).toNat : Nat) : Int) - ((0 : Nat) : Int) = Builtin.Range.rangeSize lo hi 1 := by rw [rangeSize_one]; split <;> omega
    show IsRangeIter _ _ (lo + ((0 : Nat) : Int) * 1) ((((hi - lo).toNat : Nat) : Int) - ((0 : Nat) : Int)) 1
    rw [e1, e2]
    exact Heap.get?_push_size _ rfl
  · have e : b = (s.heap.push { cls := .type "range", data := .fields #[.int lo t, .int hi u, .int 1 v] }).objs.size := by simpa using hb
    subst e
    exact I1.fpOk (Nat.le_refl _) (I1.hok.fresh (Nat.le_refl _))
def iRng1 (ta : TA) : TI := fun σ H R => ta σ H fun vs H1 => ∃ j : Int, vs = [.int j] ∧ -(2 ^ 62) ≤ j ∧ j < 2 ^ 62 ∧ R (Itr 0 j.toNat) H1
def iRng2 (ta : TA) : TI := fun σ H R => ta σ H fun vs H1 => ∃ i j : Int, vs = [.int i, .int j] ∧ (-(2 ^ 62) ≤ i ∧ i < 2 ^ 62 ∧ -(2 ^ 62) ≤ j ∧ j < 2 ^ 62) ∧ R (Itr i (j - i).toNat) H1
theorem pi_range1 {a : Expr} {ta : TA} {p pos : Pos} (hg : Gl X "range") (hm : X.mg "range" = none) (ha : PA X [a] ta) (hs : starEach [a] X.env = [(false, eval a X.env)] := by rfl) : PI X tg (.Call (.Name "range" p) [a] [] pos) (iRng1 ta) := by
  intro pins s σ H R I h
  refine Call_ (ld_blt I hg hm boot_range (PyProof.Rows.callWith_type1 (thn (ha pos pins s σ H _ I h) fun us s1 ⟨vs, H1, I1, r1, q1⟩ => ?_) hs rfl))
  obtain ⟨j, e, q1, q2, q⟩ := q1
  subst e
  cases r1 with
  | cons r rr =>
    cases rr
    obtain ⟨t, rfl⟩ := r
    exact call_range_1 (range_it I1 (by omega) (by omega) q1 q2 (by simpa using q))
theorem pi_range2 {a b : Expr} {ta : TA} {p pos : Pos} (hg : Gl X "range") (hm : X.mg "range" = none) (ha : PA X [a, b] ta) (hs : starEach [a, b] X.env = [(false, eval a X.env), (false, eval b X.env)] := by rfl) (hs2 : starEach [b] X.env = [(false, eval b X.env)] := by rfl) :
    PI X tg (.Call (.Name "range" p) [a, b] [] pos) (iRng2 ta) := by
  intro pins s σ H R I h
  refine Call_ (ld_blt I hg hm boot_range (PyProof.Rows.callWith_type1 (thn (ha pos pins s σ H _ I h) fun us s1 ⟨vs, H1, I1, r1, q1⟩ => ?_) (by rw [hs, hs2]) (by rw [hs2]; rfl)))
  obtain ⟨i, j, e, ⟨q1, q2, q3, q4⟩, q⟩ := q1
  subst e
  cases r1 with
  | cons r rr =>
    cases rr with
    | cons r' rr =>
      cases rr
      obtain ⟨t, rfl⟩ := r
      obtain ⟨t', rfl⟩ := r'
      exact call_range_2 (range_it I1 q1 q2 q3 q4 q)
def tFor (wi : TI) (g : TG) (tb : TS) : TS := fun D σ H => wi σ H fun J H1 => ∃ W : Nat → Nat → St → Hp → Prop, (∃ m, W 0 m σ H1) ∧ ∀ i m σ H, W i m σ H →
  (J.stop i H ∧ D.nx σ H) ∨ (J.go i H ∧ ∃ N : St → Hp → Prop, (∀ σ' H', N σ' H' → ∃ m', m' < m ∧ W (i + 1) m' σ' H') ∧ ∀ x H', J.yld i H x H' → g x σ H' fun σ2 H2 => tb { D with nx := N, ct := N, bk := D.nx } σ2 H2)
def pinsAt (fp : List Addr) (h : Heap) : List (Addr × Obj) := fp.filterMap fun b => (h.get? b).map fun o => (b, o)
theorem mem_pinsAt {fp : List Addr} {h : Heap} {b : Addr} {o : Obj} (hb : b ∈ fp) (e : h.get? b = some o) : (b, o) ∈ pinsAt fp h := List.mem_filterMap.mpr ⟨b, hb, by rw [e]; rfl⟩
theorem of_pinsAt {fp : List Addr} {h : Heap} {p : Addr × Obj} (hp : p ∈ pinsAt fp h) : p.1 ∈ fp ∧ h.get? p.1 = some p.2 := by
  obtain ⟨b, hb, e⟩ := List.mem_filterMap.mp hp
  cases q : h.get? b with
  | none => rw [q] at e; cases e
  | some o =>
    rw [q] at e
    have e' : (b, o) = p := Option.some.inj e
    subst e'
    exact ⟨hb, q⟩
theorem Inv.pinned {pins : List (Addr × Obj)} {σ : St} {H : Hp} {s : Shared} {fp : List Addr} (I : Inv X pins σ H s) (hf : ∀ b ∈ fp, FpOk X pins H b) (ho : ∀ b ∈ fp, ∃ o, s.heap.get? b = some o ∧ ∀ v, o.data ≠ .cell v) : Inv X (pins ++ pinsAt fp s.heap) σ H s :=
  I.pins_of fun p hp => (List.mem_append.mp hp).elim (fun z => I.pin p (List.mem_append_right _ z)) fun z => by
    obtain ⟨hb, e⟩ := of_pinsAt z
    obtain ⟨f0, f1, f2, _⟩ := hf p.1 hb
    obtain ⟨o, e', d⟩ := ho p.1 hb
    rw [e] at e'; cases e'
    exact ⟨e, f0, f1, f2, d⟩
theorem Inv.unpinned {pins pl : List (Addr × Obj)} {σ : St} {H : Hp} {s : Shared} (I : Inv X (pins ++ pl) σ H s) : Inv X pins σ H s := I.pins_of fun p hp => I.pin p (List.mem_append_right _ (List.mem_append_left _ hp))
theorem ps_for {iter : Expr} {body : List Stmt} {wi : TI} {g : TG} {tb : TS} {pos : Pos} (hp : PassesOwn (model X.prog X.w) X.A X.env X.xe) (hc : X.calm = true) (hi : PI X tg iter wi) (hg : PG X tg g) (hb : PSs X body tb)
    (hs : ∀ x, foldedSetIterable iter X.env x = pure x := by intro _; rfl) : PS X (.For tg iter body [] pos) (tFor wi g tb) := by
  intro pins s σ H D I h
  refine wpAny_For (thn (hi pins s σ H _ I h) fun v s1 h1 => thn h1 fun itv s2 h2 => ?_) hs
  obtain ⟨it, fp, tn, J, H2, e, I2, T, st2, f2, W, ⟨m0, w0⟩, turn⟩ := h2
  subst e
  have stat : ∀ {H' : Hp}, (∀ b ∈ fp, H' b = none) → ∀ b ∈ fp, FpOk X pins H' b := fun hn b hb => ⟨hn b hb, (f2 b hb).2⟩
  refine codeAny_forLoop_any (fun n s' => ∃ i σ' H', Inv X pins σ' H' s' ∧ tn i s'.heap ∧ (∀ b ∈ fp, H' b = none) ∧ W i n σ' H') ?_ m0 ⟨0, σ, H2, I2, st2, fun b hb => (f2 b hb).1, w0⟩
  rintro n s3 ⟨i, σ3, H3, I3, st3, fr3, w3⟩
  rcases turn i n σ3 H3 w3 with ⟨stop, qn⟩ | ⟨go, N, hN, step⟩
  · refine wpAny_passesOwn hp (thn (T.done X rfl rfl rfl hc i pins s3 σ3 H3 X.xe I3 (stat fr3) st3 stop) fun r s4 ⟨hr, I4⟩ => ?_)
    subst hr
    exact wpAny_execs_nil ⟨σ3, H3, I4, qn⟩
  · refine wpAny_passesOwn hp (thn (T.item X rfl rfl rfl hc i pins s3 σ3 H3 X.xe I3 (stat fr3) st3 go) fun r s4 ⟨u, hr, h4⟩ => ?_)
    subst hr
    refine wpAny_passesOwn hp (thn h4 fun _ s5 ⟨x, H5, I5, r5, y5, st5, fr5⟩ => ?_)
    have I5' := I5.pinned (stat fr5) (T.obj _ _ st5)
    refine wpAny_passesOwn hp (thn (hg _ s5 σ3 H5 x u _ I5' r5 (step x H5 y5)) fun _ s6 ⟨σ6, H6, I6, q6⟩ => ?_)
    refine wpAny_passesOwn hp (thn (hb _ s6 σ6 H6 _ I6 q6) fun f s7 q7 => ?_)
    have again : ∀ {σ7 : St} {H7 : Hp}, Inv X (pins ++ pinsAt fp s5.heap) σ7 H7 s7 → N σ7 H7 → ∃ m, m < n ∧ ∃ i σ' H', Inv X pins σ' H' s7 ∧ tn i s7.heap ∧ (∀ b ∈ fp, H' b = none) ∧ W i m σ' H' := fun {σ7 H7} I7 n7 => by
      obtain ⟨m', hm, w7⟩ := hN σ7 H7 n7
      refine ⟨m', hm, i + 1, σ7, H7, I7.unpinned, T.keep _ _ _ st5 fun b hb o e => (I7.pin (b, o) (List.mem_append_right _ (List.mem_append_right _ (mem_pinsAt hb e)))).1, fun b hb => ?_, w7⟩
      obtain ⟨o, e, d⟩ := T.obj _ _ st5 b hb
      exact (I7.pin (b, o) (List.mem_append_right _ (List.mem_append_right _ (mem_pinsAt hb e)))).2.1
    cases f with
    | next => obtain ⟨σ7, H7, I7, n7⟩ := q7; exact again I7 n7
    | cont => obtain ⟨σ7, H7, I7, n7⟩ := q7; exact again I7 n7
    | brk => obtain ⟨σ7, H7, I7, q7⟩ := q7; exact ⟨σ7, H7, I7.unpinned, q7⟩
    | ret v => obtain ⟨x7, σ7, H7, I7, r7, q7⟩ := q7; exact ⟨x7, σ7, H7, I7.unpinned, r7, q7⟩
end
theorem for_list {K : PySem.W.Frag} {a : Addr} {xs : List V} {g : TG} {tb : TS} {D : Ends} {σ : St} {H : Hp} (Pv : Nat → St → Hp → Prop) (h0 : Pv 0 σ H) (hl : ∀ i σ H, i ≤ xs.length → Pv i σ H → SqL K H a xs)
    (hs : ∀ i x σ H, xs[i]? = some x → Pv i σ H → g x σ H fun σ2 H2 => tb { D with nx := Pv (i + 1), ct := Pv (i + 1), bk := D.nx } σ2 H2) (hd : ∀ σ H, Pv xs.length σ H → D.nx σ H) :
    ∃ W : Nat → Nat → St → Hp → Prop, (∃ m, W 0 m σ H) ∧ ∀ i m σ H, W i m σ H →
      ((Itl K a).stop i H ∧ D.nx σ H) ∨ ((Itl K a).go i H ∧ ∃ N : St → Hp → Prop, (∀ σ' H', N σ' H' → ∃ m', m' < m ∧ W (i + 1) m' σ' H') ∧ ∀ x H', (Itl K a).yld i H x H' → g x σ H' fun σ2 H2 => tb { D with nx := N, ct := N, bk := D.nx } σ2 H2) := by
  refine ⟨fun i m σ H => m = xs.length - i ∧ i ≤ xs.length ∧ Pv i σ H, ⟨xs.length, by simp, Nat.zero_le _, h0⟩, ?_⟩
  rintro i m σ H ⟨rfl, hi, p⟩
  have q := hl i σ H hi p
  by_cases hlt : i < xs.length
  · refine .inr ⟨⟨xs, xs[i], q, by simp [hlt]⟩, Pv (i + 1), fun σ' H' p' => ⟨xs.length - (i + 1), by omega, rfl, hlt, p'⟩, fun x H' y => ?_⟩
    obtain ⟨e, y⟩ := y
    subst e
    exact hs i x σ _ (y xs q) p
  · have e : i = xs.length := by omega
    subst e
    exact .inl ⟨⟨xs, q, Nat.le_refl _⟩, hd σ H p⟩
theorem for_range {lo : Int} {n : Nat} {g : TG} {tb : TS} {D : Ends} {σ : St} {H : Hp} (Pv : Nat → St → Hp → Prop) (h0 : Pv 0 σ H)
    (hs : ∀ i σ H, i < n → Pv i σ H → g (.int (lo + i)) σ H fun σ2 H2 => tb { D with nx := Pv (i + 1), ct := Pv (i + 1), bk := D.nx } σ2 H2) (hd : ∀ σ H, Pv n σ H → D.nx σ H) :
    ∃ W : Nat → Nat → St → Hp → Prop, (∃ m, W 0 m σ H) ∧ ∀ i m σ H, W i m σ H →
      ((Itr lo n).stop i H ∧ D.nx σ H) ∨ ((Itr lo n).go i H ∧ ∃ N : St → Hp → Prop, (∀ σ' H', N σ' H' → ∃ m', m' < m ∧ W (i + 1) m' σ' H') ∧ ∀ x H', (Itr lo n).yld i H x H' → g x σ H' fun σ2 H2 => tb { D with nx := N, ct := N, bk := D.nx } σ2 H2) := by
  refine ⟨fun i m σ H => m = n - i ∧ i ≤ n ∧ Pv i σ H, ⟨n, by simp, Nat.zero_le _, h0⟩, ?_⟩
  rintro i m σ H ⟨rfl, hi, p⟩
  by_cases hlt : i < n
  · refine .inr ⟨hlt, Pv (i + 1), fun σ' H' p' => ⟨n - (i + 1), by omega, rfl, hlt, p'⟩, fun x H' y => ?_⟩
    obtain ⟨e, y⟩ := y
    subst e y
    exact hs i σ _ hlt p
  · have e : i = n := by omega
    subst e
    exact .inl ⟨Nat.le_refl _, hd σ H p⟩
theorem while_by {c : TT} {tb : TS} {D : Ends} {σ : St} {H : Hp} (Pv : St → Hp → Prop) (μ : St → Hp → Nat) (h0 : Pv σ H)
    (hs : ∀ σ H, Pv σ H → c σ H fun b H1 => if b = true then tb { D with nx := fun σ' H' => Pv σ' H' ∧ μ σ' H' < μ σ H, ct := fun σ' H' => Pv σ' H' ∧ μ σ' H' < μ σ H, bk := D.nx } σ H1 else D.nx σ H1)
    (mono : ∀ σ H Q Q', (∀ b H1, Q b H1 → Q' b H1) → c σ H Q → c σ H Q') : tWhile c tb D σ H := by
  refine ⟨fun m σ H => m = μ σ H ∧ Pv σ H, ⟨_, rfl, h0⟩, ?_⟩
  rintro m σ H ⟨rfl, p⟩
  refine mono σ H _ _ (fun b H1 q => ?_) (hs σ H p)
  cases b with
  | true => exact ⟨_, fun σ' H' ⟨p', l⟩ => ⟨_, l, rfl, p'⟩, q⟩
  | false => exact q
end L2
namespace L2
open PySem PySem.Spec PyProof.Rows
abbrev R2 := V → V → Hp → VK → Prop
def OpR (X : Cx) (f : Value → Value → Sem Value) (r : R2) : Prop :=
  ∀ (pins : List (Addr × Obj)) (s : Shared) (σ : St) (H : Hp) (x y : V) (v u : Value) (Q : VK), Inv X pins σ H s → RelV x v → RelV y u → r x y H Q →
    wpAny (model X.prog X.w) X.A (f v u) (EP X pins σ Q) X.xe s
def UnR (X : Cx) (f : Value → Sem Value) (r : V → Hp → VK → Prop) : Prop :=
  ∀ (pins : List (Addr × Obj)) (s : Shared) (σ : St) (H : Hp) (x : V) (v : Value) (Q : VK), Inv X pins σ H s → RelV x v → r x H Q →
    wpAny (model X.prog X.w) X.A (f v) (EP X pins σ Q) X.xe s
def CallR (X : Cx) (f : Value) (r : List V → Hp → VK → Prop) : Prop :=
  ∀ (pins : List (Addr × Obj)) (s : Shared) (σ : St) (H : Hp) (xs : List V) (us : List Value) (Q : VK), Inv X pins σ H s → Vals xs us → r xs H Q →
    wpAny (model X.prog X.w) X.A (call f us) (EP X pins σ Q) X.xe s
def tOp (r : R2) (ta tb : TE) : TE := fun σ H Q => ta σ H fun x H1 => tb σ H1 fun y H2 => r x y H2 Q
def tUn (r : V → Hp → VK → Prop) (ta : TE) : TE := fun σ H Q => ta σ H fun x H1 => r x H1 Q
def rI (C : Int → Int → Prop) (g : Int → Int → V) : R2 := fun x y H Q => ∃ i j, x = .int i ∧ y = .int j ∧ C i j ∧ Q (g i j) H
def rI0 (g : Int → Int → V) : R2 := fun x y H Q => ∃ i j, x = .int i ∧ y = .int j ∧ Q (g i j) H
def rU (g : Int → V) : V → Hp → VK → Prop := fun x H Q => ∃ i, x = .int i ∧ Q (g i) H
section
variable {X : Cx} {a b c : Expr} {ta tb tc : TE} {pos : Pos}
theorem binT (ha : PE X a ta) (hb : PE X b tb) {pins : List (Addr × Obj)} {s : Shared} {σ : St} {H : Hp} {R : V → V → Hp → Prop} (I : Inv X pins σ H s)
    (h : ta σ H fun x H1 => tb σ H1 fun y H2 => R x y H2) {Q : Value → Shared → Prop} {f : Value → Value → Sem Value}
    (hf : ∀ v u s2 x y H2, Inv X pins σ H2 s2 → RelV x v → RelV y u → R x y H2 → wpAny (model X.prog X.w) X.A (f v u) Q X.xe s2) :
    wpAny (model X.prog X.w) X.A (eval a X.env) (fun v s₁ => wpAny (model X.prog X.w) X.A (eval b X.env) (fun u s₂ => wpAny (model X.prog X.w) X.A (f v u) Q X.xe s₂) X.xe s₁) X.xe s := by
  refine thn (ha pins s σ H _ I h) fun v s1 ⟨x, H1, I1, r1, q1⟩ => ?_
  refine thn (hb pins s1 σ H1 _ I1 q1) fun u s2 ⟨y, H2, I2, r2, q2⟩ => ?_
  exact hf v u s2 x y H2 I2 r1 r2 q2
theorem pe_op {op : Operator} {r : R2} (ho : OpR X (binaryOp op) r) (ha : PE X a ta) (hb : PE X b tb) : PE X (.BinOp a op b pos) (tOp r ta tb) := by
  intro pins s σ H Q I h
  exact wpAny_BinOp (binT ha hb I h fun v u s2 x y H2 I2 rx ry q => ho pins s2 σ H2 x y v u Q I2 rx ry q)
theorem pe_un {op : UnaryOp} {r : V → Hp → VK → Prop} (ho : UnR X (unaryOp op) r) (ha : PE X a ta) : PE X (.UnaryOp op a pos) (tUn r ta) := by
  intro pins s σ H Q I h
  exact UnaryOp_ (thn (ha pins s σ H _ I h) fun v s1 ⟨x, H1, I1, r1, q1⟩ => ho pins s1 σ H1 x v Q I1 r1 q1)
theorem opI {f : Value → Value → Sem Value} {C : Int → Int → Prop} {g : Int → Int → Int}
    (rule : ∀ (i j : Int) (t u : Tok) (s : Shared) (Q : Value → Shared → Prop) (E : Value → Shared → Prop), C i j → Q (.int (g i j) s.toks) { s with toks := s.toks + 1 } → wpAny (model X.prog X.w) X.A (f (.int i t) (.int j u)) Q E s) :
    OpR X f (rI C fun i j => .int (g i j)) := by
  intro pins s σ H x y v u Q I rx ry h
  obtain ⟨i, j, rfl, rfl, hc, q⟩ := h
  obtain ⟨t, rfl⟩ := rx
  obtain ⟨t', rfl⟩ := ry
  exact rule i j t t' s _ _ hc ⟨.int (g i j), H, I.tok _, ⟨_, rfl⟩, q⟩
theorem opI0 {f : Value → Value → Sem Value} {g : Int → Int → Int}
    (rule : ∀ (i j : Int) (t u : Tok) (s : Shared) (Q : Value → Shared → Prop) (E : Value → Shared → Prop), Q (.int (g i j) s.toks) { s with toks := s.toks + 1 } → wpAny (model X.prog X.w) X.A (f (.int i t) (.int j u)) Q E s) :
    OpR X f (rI0 fun i j => .int (g i j)) := by
  intro pins s σ H x y v u Q I rx ry h
  obtain ⟨i, j, rfl, rfl, q⟩ := h
  obtain ⟨t, rfl⟩ := rx
  obtain ⟨t', rfl⟩ := ry
  exact rule i j t t' s _ _ ⟨.int (g i j), H, I.tok _, ⟨_, rfl⟩, q⟩
theorem opB0 {f : Value → Value → Sem Value} {g : Int → Int → Bool}
    (rule : ∀ (i j : Int) (t u : Tok) (s : Shared) (Q : Value → Shared → Prop) (E : Value → Shared → Prop), Q (.bool (g i j)) s → wpAny (model X.prog X.w) X.A (f (.int i t) (.int j u)) Q E s) :
    OpR X f (rI0 fun i j => .bl (g i j)) := by
  intro pins s σ H x y v u Q I rx ry h
  obtain ⟨i, j, rfl, rfl, q⟩ := h
  obtain ⟨t, rfl⟩ := rx
  obtain ⟨t', rfl⟩ := ry
  exact rule i j t t' s _ _ ⟨.bl (g i j), H, I, rfl, q⟩
def CDiv (i j : Int) : Prop := 0 < j ∧ j < 1073741824
def CMul (i j : Int) : Prop := (-(2 ^ 64) < i ∧ i < 2 ^ 64) ∨ (-(2 ^ 64) < j ∧ j < 2 ^ 64)
theorem CMul.ok {i j : Int} (h : CMul i j) : IntMulOk i j := by
  rcases h with ⟨h1, h2⟩ | ⟨h1, h2⟩
  · exact .of_left (intBits_le_64 h1 h2)
  · exact .of_right (intBits_le_64 h1 h2)
theorem op_add : OpR X (binaryOp .Add) (rI0 fun i j => .int (i + j)) := opI0 fun _ _ _ _ _ _ _ q => add_int q
theorem op_sub : OpR X (binaryOp .Sub) (rI0 fun i j => .int (i - j)) := opI0 fun _ _ _ _ _ _ _ q => sub_int q
theorem op_mul : OpR X (binaryOp .Mult) (rI CMul fun i j => .int (i * j)) := opI fun _ _ _ _ _ _ _ hc q => mul_int q hc.ok
theorem op_fdiv : OpR X (binaryOp .FloorDiv) (rI CDiv fun i j => .int (i / j)) := opI fun i j _ _ _ _ _ hc q => by
  have h1 : (0 : Int) < j := hc.1
  have h2 : j < 1073741824 := hc.2
  exact floordiv_int (by omega) (by rw [Int.fdiv_eq_ediv_of_nonneg i (by omega)]; exact q) (.inl (PyProof.noPylong_small (by omega)))
theorem op_mod : OpR X (binaryOp .Mod) (rI (fun _ j => 0 < j) fun i j => .int (i % j)) := opI fun i j _ _ _ _ _ hc q => by
  have h1 : (0 : Int) < j := hc
  exact mod_int' (by omega) (by rw [Int.fmod_eq_emod_of_nonneg i (by omega)]; exact q)
theorem unI {f : Value → Sem Value} {g : Int → Int}
    (rule : ∀ (i : Int) (t : Tok) (s : Shared) (Q : Value → Shared → Prop) (E : Value → Shared → Prop), Q (.int (g i) s.toks) { s with toks := s.toks + 1 } → wpAny (model X.prog X.w) X.A (f (.int i t)) Q E s) :
    UnR X f (rU fun i => .int (g i)) := by
  intro pins s σ H x v Q I rx h
  obtain ⟨i, rfl, q⟩ := h
  obtain ⟨t, rfl⟩ := rx
  exact rule i t s _ _ ⟨.int (g i), H, I.tok _, ⟨_, rfl⟩, q⟩
theorem un_neg : UnR X (unaryOp .USub) (rU fun i => .int (-i)) := unI fun _ _ _ _ _ q => neg_int q
end
def scal : V → V → Bool
  | .non, .non => true | .non, .int _ => true | .int _, .non => true | .non, .bl _ => true | .bl _, .non => true | .non, .str _ => true | .str _, .non => true
  | .int _, .int _ => true | .bl _, .bl _ => true | .str _, .str _ => true | .byt _, .byt _ => true
  | .int _, .str _ => true | .str _, .int _ => true | .bl _, .str _ => true | .str _, .bl _ => true
  | _, _ => false
def rEq : R2 := fun x y H Q => scal x y = true ∧ Q (.bl (decide (x = y))) H
def rNe : R2 := fun x y H Q => scal x y = true ∧ Q (.bl (!decide (x = y))) H
theorem dec_int {i j : Int} : decide (V.int i = V.int j) = (i == j) := by
  rw [Bool.eq_iff_iff]
  simp
theorem dec_bl {i j : Bool} : decide (V.bl i = V.bl j) = (i == j) := by
  rw [Bool.eq_iff_iff]
  simp
theorem dec_str {i j : Str} : decide (V.str i = V.str j) = (i == j) := by
  rw [Bool.eq_iff_iff]
  simp
theorem dec_byt {i j : Array UInt8} : decide (V.byt i = V.byt j) = (i.toList == j.toList) := by
  rw [Bool.eq_iff_iff]
  cases i
  cases j
  simp
section
variable {X : Cx} {a b c : Expr} {ta tb tc : TE} {pos : Pos}
theorem fin_bl {pins : List (Addr × Obj)} {σ : St} {H : Hp} {s : Shared} {Q : VK} {k k' : Bool} (I : Inv X pins σ H s) (q : Q (.bl k) H) (e : k = k') : EP X pins σ Q (.bool k') s := by
  subst e
  exact ⟨.bl k, H, I, rfl, q⟩
theorem op_eq : OpR X (compareOp .Eq) rEq := by
  intro pins s σ H x y v u Q I rx ry h
  obtain ⟨hs, q⟩ := h
  cases x with
  | non =>
    cases rx
    cases y with
    | non => cases ry; exact PySem.EqNone.eq_none_none (fin_bl I q (by simp))
    | bl j => cases ry; exact PySem.EqNone.eq_none_bool (fin_bl I q (by simp))
    | int j => obtain ⟨t', rfl⟩ := ry; exact PySem.EqNone.eq_none_int (fin_bl I q (by simp))
    | str j => obtain ⟨t', rfl⟩ := ry; exact PySem.EqNone.eq_none_str (fin_bl I q (by simp))
    | _ => exact absurd (show false = true from hs) Bool.false_ne_true
  | bl i =>
    cases rx
    cases y with
    | non => cases ry; exact PySem.EqNone.eq_bool_none (fin_bl I q (by simp))
    | bl j => cases ry; exact eq_bool (fin_bl I q dec_bl)
    | str j => obtain ⟨t', rfl⟩ := ry; exact PySem.EqMixed.eq_bool_str (fin_bl I q (by simp))
    | _ => exact absurd (show false = true from hs) Bool.false_ne_true
  | int i =>
    obtain ⟨t, rfl⟩ := rx
    cases y with
    | non => cases ry; exact PySem.EqNone.eq_int_none (fin_bl I q (by simp))
    | int j => obtain ⟨t', rfl⟩ := ry; exact eq_int (fin_bl I q dec_int)
    | str j => obtain ⟨t', rfl⟩ := ry; exact PySem.EqMixed.eq_int_str (fin_bl I q (by simp))
    | _ => exact absurd (show false = true from hs) Bool.false_ne_true
  | str i =>
    obtain ⟨t, rfl⟩ := rx
    cases y with
    | non => cases ry; exact PySem.EqNone.eq_str_none (fin_bl I q (by simp))
    | bl j => cases ry; exact PySem.EqMixed.eq_str_bool (fin_bl I q (by simp))
    | int j => obtain ⟨t', rfl⟩ := ry; exact PySem.EqMixed.eq_str_int (fin_bl I q (by simp))
    | str j => obtain ⟨t', rfl⟩ := ry; exact eq_str (fin_bl I q dec_str)
    | _ => exact absurd (show false = true from hs) Bool.false_ne_true
  | byt i =>
    obtain ⟨t, rfl⟩ := rx
    cases y with
    | byt j => obtain ⟨t', rfl⟩ := ry; exact PySem.W.eq_bytes (fin_bl I q dec_byt)
    | _ => exact absurd (show false = true from hs) Bool.false_ne_true
  | _ => cases y <;> exact absurd (show false = true from hs) Bool.false_ne_true
theorem op_ne : OpR X (compareOp .NotEq) rNe := by
  intro pins s σ H x y v u Q I rx ry h
  obtain ⟨hs, q⟩ := h
  cases x with
  | non =>
    cases rx
    cases y with
    | non => cases ry; exact PySem.EqNone.ne_none_none (fin_bl I q (by simp))
    | bl j => cases ry; exact PySem.EqNone.ne_none_bool (fin_bl I q (by simp))
    | int j => obtain ⟨t', rfl⟩ := ry; exact PySem.EqNone.ne_none_int (fin_bl I q (by simp))
    | str j => obtain ⟨t', rfl⟩ := ry; exact PySem.EqNone.ne_none_str (fin_bl I q (by simp))
    | _ => exact absurd (show false = true from hs) Bool.false_ne_true
  | bl i =>
    cases rx
    cases y with
    | non => cases ry; exact PySem.EqNone.ne_bool_none (fin_bl I q (by simp))
    | bl j => cases ry; exact ne_bool (fin_bl I q (congrArg not dec_bl))
    | str j => obtain ⟨t', rfl⟩ := ry; exact PySem.EqMixed.ne_bool_str (fin_bl I q (by simp))
    | _ => exact absurd (show false = true from hs) Bool.false_ne_true
  | int i =>
    obtain ⟨t, rfl⟩ := rx
    cases y with
    | non => cases ry; exact PySem.EqNone.ne_int_none (fin_bl I q (by simp))
    | int j => obtain ⟨t', rfl⟩ := ry; exact ne_int (fin_bl I q (congrArg not dec_int))
    | str j => obtain ⟨t', rfl⟩ := ry; exact PySem.EqMixed.ne_int_str (fin_bl I q (by simp))
    | _ => exact absurd (show false = true from hs) Bool.false_ne_true
  | str i =>
    obtain ⟨t, rfl⟩ := rx
    cases y with
    | non => cases ry; exact PySem.EqNone.ne_str_none (fin_bl I q (by simp))
    | bl j => cases ry; exact PySem.EqMixed.ne_str_bool (fin_bl I q (by simp))
    | int j => obtain ⟨t', rfl⟩ := ry; exact PySem.EqMixed.ne_str_int (fin_bl I q (by simp))
    | str j => obtain ⟨t', rfl⟩ := ry; exact ne_str (fin_bl I q (congrArg not dec_str))
    | _ => exact absurd (show false = true from hs) Bool.false_ne_true
  | byt i =>
    obtain ⟨t, rfl⟩ := rx
    cases y with
    | byt j => obtain ⟨t', rfl⟩ := ry; exact PySem.W.ne_bytes (fin_bl I q (congrArg not dec_byt))
    | _ => exact absurd (show false = true from hs) Bool.false_ne_true
  | _ => cases y <;> exact absurd (show false = true from hs) Bool.false_ne_true
theorem op_lt : OpR X (compareOp .Lt) (rI0 fun i j => .bl (decide (i < j))) := opB0 fun _ _ _ _ _ _ _ q => lt_int q
theorem op_le : OpR X (compareOp .LtE) (rI0 fun i j => .bl (decide (i ≤ j))) := opB0 fun _ _ _ _ _ _ _ q => le_int q
theorem op_gt : OpR X (compareOp .Gt) (rI0 fun i j => .bl (decide (j < i))) := opB0 fun _ _ _ _ _ _ _ q => gt_int q
theorem op_ge : OpR X (compareOp .GtE) (rI0 fun i j => .bl (decide (j ≤ i))) := opB0 fun _ _ _ _ _ _ _ q => ge_int q
theorem op_notN : OpR X (compareOp .IsNot) (fun x y H Q => y = .non ∧ Q (.bl (!decide (x = .non))) H) := by
  intro pins s σ H x y v u Q I rx ry h
  obtain ⟨rfl, q⟩ := h
  cases ry
  refine isnot_none_gen (fin_bl I q ?_)
  cases x <;> first
    | (cases rx; rfl)
    | (obtain ⟨t, rfl⟩ := rx; rfl)
theorem nomark (b : Expr) {op : CmpOp} (h : op ≠ .In := by decide) (h2 : op ≠ .NotIn := by decide) : behindInMarks op b = false := by
  have e1 : (op == CmpOp.In) = false := by cases op <;> first | rfl | exact absurd rfl h
  have e2 : (op == CmpOp.NotIn) = false := by cases op <;> first | rfl | exact absurd rfl h2
  cases b <;> simp [behindInMarks, e1, e2]
theorem pe_cmpR {op : CmpOp} {r : R2} (ho : OpR X (compareOp op) r) (ha : PE X a ta) (hb : PE X b tb) (hm : behindInMarks op b = false) : PE X (.Compare a [op] [b] pos) (tOp r ta tb) := by
  intro pins s σ H Q I h
  exact wpAny_Compare1 (binT ha hb I h fun v u s2 x y H2 I2 rx ry q => ho pins s2 σ H2 x y v u Q I2 rx ry q) hm
def tTest (t : TE) : TT := fun σ H Q => t σ H fun x H' => ∃ k, x = .bl k ∧ Q k H'
theorem pt_cmpR {op : CmpOp} {r : R2} (ho : OpR X (compareOp op) r) (ha : PE X a ta) (hb : PE X b tb) (hm : behindInMarks op b = false) : PT X (.Compare a [op] [b] pos) (tTest (tOp r ta tb)) := by
  intro pins s σ H Q I h
  refine wpAny_isTrue_Compare1 (thn (ha pins s σ H _ I h) fun v s1 ⟨x, H1, I1, r1, q1⟩ => thn (hb pins s1 σ H1 _ I1 q1) fun u s2 ⟨y, H2, I2, r2, q2⟩ =>
    thn (ho pins s2 σ H2 x y v u _ I2 r1 r2 q2) fun c s3 ⟨z, H3, I3, r3, k, e, q3⟩ => ?_) hm
  subst e
  cases r3
  exact wpAny_truthy_bool ⟨H3, I3, q3⟩
def tChain (r r' : R2) (ta tb tc : TE) : TE := fun σ H Q => ta σ H fun x H1 => tb σ H1 fun y H2 => r x y H2 fun z H3 => ∃ k, z = .bl k ∧
  (if k = true then tc σ H3 fun w' H4 => r' y w' H4 Q else Q (.bl false) H3)
theorem pe_chain {op op' : CmpOp} {r r' : R2} (ho : OpR X (compareOp op) r) (ho' : OpR X (compareOp op') r') (ha : PE X a ta) (hb : PE X b tb) (hc : PE X c tc)
    (hm : lastMarks [op, op'] [b, c] = false := by with_unfolding_all rfl) : PE X (.Compare a [op, op'] [b, c] pos) (tChain r r' ta tb tc) := by
  intro pins s σ H Q I h
  refine Compare_chain (thn (ha pins s σ H _ I h) fun v s1 ⟨x, H1, I1, r1, q1⟩ => chain_link (thn (hb pins s1 σ H1 _ I1 q1) fun u s2 ⟨y, H2, I2, r2, q2⟩ =>
    thn (ho pins s2 σ H2 x y v u _ I2 r1 r2 q2) fun d s3 ⟨z, H3, I3, r3, k, e, q3⟩ => ?_)) hm
  subst e
  cases r3
  refine wpAny_truthy_bool ?_
  cases k with
  | false => exact ite_ff ⟨.bl false, H3, I3, rfl, q3⟩
  | true => exact ite_tt (chain_last (thn (hc pins s3 σ H3 _ I3 q3) fun w' s4 ⟨z', H4, I4, r4, q4⟩ => ho' pins s4 σ H4 y z' u w' Q I4 r2 r4 q4))
theorem line63 : (sizeLine : Nat) < 2 ^ 63 := by rw [sizeLine_eq]; decide
theorem vals1 {x : V} {us : List Value} (r : Vals [x] us) : ∃ u, us = [u] ∧ RelV x u := by
  cases r with
  | cons r1 r2 => cases r2; exact ⟨_, rfl, r1⟩
theorem call_ord : CallR X (.builtin "ord") (fun xs H Q => ∃ x, xs = [.str x] ∧ x.length = 1 ∧ Q (.int (x.cps.getD 0 0 : Nat)) H) := by
  intro pins s σ H xs us Q I r h
  obtain ⟨x, rfl, hz, q⟩ := h
  obtain ⟨u, rfl, t, rfl⟩ := vals1 r
  exact ord_of_one hz ⟨.int _, H, I.tok _, ⟨_, rfl⟩, q⟩
end
end L2
namespace L2
open PySem PySem.Spec PyProof.Rows
structure ObjM (h : Heap) (x dx C : Addr) (mA : Str → Option Value) : Prop where
  obj : h.get? x = some (PySem.W.instObj C dx)
  ns : h.Ns1 dx mA
  ne : dx ≠ x
theorem lookIn_ns {h : Heap} {dx : Addr} {mA : Str → Option Value} (n : h.Ns1 dx mA) : ∃ od, h.get? dx = some od ∧ ∀ name, PySem.W.lookIn name od = some (mA name) := by
  obtain ⟨o, es, ep, ho, hd, hk, _, hm⟩ := n
  refine ⟨o, ho, fun name => ?_⟩
  have e := hm name
  unfold nsFind findBy at e
  rw [← Array.find?_toList] at e
  unfold PySem.W.lookIn
  rw [hd]
  dsimp only
  split
  · rename_i y q
    rw [q] at e
    exact congrArg some e
  · rename_i q
    rw [q] at e
    have a : es.toList.any (·.refKey) = false := by
      rw [List.any_eq_false]
      intro y hy
      obtain ⟨z, t, hkey⟩ := hk y (Array.mem_toList_iff.mp hy)
      simp [DictEntry.refKey, hkey]
    have a' : ¬ es.toList.any (·.refKey) = true := by rw [a]; exact Bool.false_ne_true
    rw [if_neg a']
    exact congrArg some e
theorem ObjM.look {h : Heap} {x dx C : Addr} {mA : Str → Option Value} (I : ObjM h x dx C mA) : ∃ od, PySem.W.InstAt h x (PySem.W.instObj C dx) C (some od) ∧ ∀ name, PySem.W.lookIn name od = some (mA name) :=
  let ⟨od, ho, hl⟩ := lookIn_ns I.ns
  ⟨od, ⟨I.obj, rfl, rfl, ho⟩, hl⟩
section
variable {prog : Program} {w : World} {A : Around} {E : Value → Shared → Prop} {s : Shared} {K : PySem.W.Frag} {x dx C f : Addr} {mA : Str → Option Value} {name : Str} {v : Value}
theorem get_map {expr : Bool} {Q : Value → Shared → Prop} (X : K.In s.heap) (I : ObjM s.heap x dx C mA) (hg : PySem.W.plainGet K C name = true) (hh : PySem.W.hasDictIn K C = true)
    (ha : PySem.W.findIn K (.ref C) name = some none) (hv : mA name = some v) (hv' : PySem.W.handedIn v = true) (h : Q v { s with toks := s.toks + 1 }) :
    wpAny (model prog w) A (getAttr (.ref x) name expr) Q E s := by
  obtain ⟨od, J, hl⟩ := I.look
  exact PySem.W.get_value X J (PySem.W.plainGet_of hg).1 (PySem.W.findObj_own hh ha rfl (by rw [hl, hv])) hv' h
theorem get_meth {pl : Sem Bool} {Q : Value × List Value → Shared → Prop} (X : K.In s.heap) (I : ObjM s.heap x dx C mA) (hg : PySem.W.plainGet K C name = true)
    (hf : PySem.W.findIn K (.ref C) name = some (some (.ref f))) (ht : PySem.W.isFn K (.ref f) = true) (hv : mA name = none) (h : Q (.ref f, [.ref x]) s) :
    wpAny (model prog w) A (getMethod (.ref x) name pl) Q E s := by
  obtain ⟨od, J, hl⟩ := I.look
  exact PySem.W.method_fn X J (PySem.W.plainGet_of hg).1 (PySem.W.plainGet_of hg).2 hf (beq_iff_eq.mp ht) (by show (PySem.W.lookIn name od).map (·.isSome) = some false; rw [hl, hv]; rfl) h
theorem set_map {ns : List Str} {Q : Unit → Shared → Prop} (X : K.In s.heap) (I : ObjM s.heap x dx C mA)
    (hs : PySem.W.findIn K (.ref C) "__setattr__" = some (some (.builtin "object.__setattr__"))) (hp : PySem.W.plainOver K C = true) (ht : PySem.W.takerIn K C name = some none) (hh : PySem.W.hasDictIn K C = true)
    (hw : PySem.Within mA ns) (hsz : ns.length ≤ sizeLine)
    (h : ∀ h', ObjM h' x dx C (fun y => if y = name then some v else mA y) → Heap.SameBut dx s.heap h' → Q () { s with heap := h', toks := s.toks + 2 }) :
    wpAny (model prog w) A (setAttr (.ref x) name v) Q E s := by
  obtain ⟨od, J, hl⟩ := I.look
  refine PySem.W.set_plain X J hs (PySem.W.osa_open (s := { s with toks := s.toks + 1 }) (r := none) X J hp ht fun b => ?_)
  obtain ⟨cd, hc, hd'⟩ := PySem.W.any_some hh
  have hx : s.heap.get? x = some ⟨.ref C, some dx, .plain, #[]⟩ := I.obj
  refine wpAny_bind (wpAny_pure (wpAny_bind (wpAny_bind (wpAny_loadPart hx (wpAny_bind (PySem.W.Looks.here (s := { s with toks := s.toks + 1 }) (PySem.W.looks_clsIn X hc) ?_))))))
  rw [hd']
  refine wpAny_pure (a := some dx) (wpAny_bind (wpAny_pure (wpAny_bind ?_)))
  refine wpAny_nsSet1 (s := { s with toks := s.toks + 1 }) I.ns fun h' hn2 hs2 => ?_
  obtain ⟨oD, esD, epD, hoD, hdD, hcD⟩ := hn2.count (PySem.Within.cons name v hw)
  refine wpAny_bind (wpAny_lookBehind hoD (by rw [hdD]; exact pastItsLine_dict (Nat.le_trans hcD (by rw [List.length_cons]; omega))) ?_)
  exact wpAny_pure (h _ ⟨(hs2.2 _ (Ne.symm I.ne)).trans I.obj, hn2, I.ne⟩ hs2)
theorem make_map {R : Result → Shared → Prop} {vs : List Value} {kw : List (Str × Value)} (X : K.In s.heap) (hm : PySem.W.makesIn K C = true)
    (hi : PySem.W.findIn K (.ref C) "__init__" = some (some (.ref f))) (hf : PySem.W.typeIn K (.ref f) = some (.type "function"))
    (h : codeAny (model prog w) (A.under (.builtin "type.__call__" ⟨.ref C :: vs, kw⟩)) (.call (.ref f) ⟨.ref (s.heap.objs.size + 1) :: vs, kw⟩) (PySem.W.InitBack (s.heap.objs.size + 1) R)
      { s with heap := (s.heap.push PySem.W.emptyDict).push (PySem.W.instObj C s.heap.objs.size) }) :
    codeAny (model prog w) A (.call (.ref C) ⟨vs, kw⟩) R s := by
  obtain ⟨hh, g, d, t, os⟩ := s
  exact PySem.W.make_core (PySem.W.makes_of X hm) (PySem.W.looks_findIn X hi) (fun self => PySem.W.bind_fn X self hf) (.inl rfl) h
end
def putF (f : Str) (v : V) : List (Str × V) → List (Str × V)
  | [] => [(f, v)]
  | (g, x) :: r => if g = f then (g, v) :: r else (g, x) :: putF f v r
theorem lookup_putF (f g : Str) (v : V) : ∀ fs : List (Str × V), (putF f v fs).lookup g = if g = f then some v else fs.lookup g
  | [] => by
    show List.lookup g [(f, v)] = _
    by_cases h : g = f
    · have hb : (g == f) = true := beq_iff_eq.mpr h
      simp only [List.lookup, hb, if_pos h]
    · have hb : (g == f) = false := beq_eq_false_iff_ne.mpr h
      simp only [List.lookup, hb, if_neg h]
  | (k, x) :: r => by
    have ih := lookup_putF f g v r
    rw [show putF f v ((k, x) :: r) = (if k = f then (k, v) :: r else (k, x) :: putF f v r) from rfl]
    by_cases hk : k = f
    · rw [if_pos hk]
      by_cases h : g = k
      · have hb : (g == k) = true := beq_iff_eq.mpr h
        simp only [List.lookup, hb, if_pos (h.trans hk)]
      · have hb : (g == k) = false := beq_eq_false_iff_ne.mpr h
        simp only [List.lookup, hb, if_neg (fun e : g = f => h (e.trans hk.symm))]
    · rw [if_neg hk]
      by_cases h : g = k
      · have hb : (g == k) = true := beq_iff_eq.mpr h
        simp only [List.lookup, hb, if_neg (fun e : g = f => hk (h.symm.trans e))]
      · have hb : (g == k) = false := beq_eq_false_iff_ne.mpr h
        simp only [List.lookup, hb]
        exact ih
theorem keys_putF (f : Str) (v : V) : ∀ fs : List (Str × V), f ∈ (putF f v fs).map (·.1) ∧ ∀ g, g ∈ fs.map (·.1) → g ∈ (putF f v fs).map (·.1)
  | [] => ⟨by simp [putF], fun g h => by simp at h⟩
  | (k, x) :: r => by
    obtain ⟨i1, i2⟩ := keys_putF f v r
    rw [show putF f v ((k, x) :: r) = (if k = f then (k, v) :: r else (k, x) :: putF f v r) from rfl]
    by_cases hk : k = f
    · rw [if_pos hk]
      subst hk
      exact ⟨by simp, fun g h => by simpa using h⟩
    · rw [if_neg hk]
      refine ⟨?_, fun g h => ?_⟩
      · rw [List.map_cons]
        exact List.mem_cons_of_mem _ i1
      · rw [List.map_cons] at h ⊢
        rcases List.mem_cons.mp h with e | e
        · exact List.mem_cons.mpr (.inl e)
        · exact List.mem_cons_of_mem _ (i2 g e)
theorem length_putF (f : Str) (v : V) : ∀ fs : List (Str × V), (putF f v fs).length ≤ fs.length + 1
  | [] => by simp [putF]
  | (k, x) :: r => by
    have ih := length_putF f v r
    rw [show putF f v ((k, x) :: r) = (if k = f then (k, v) :: r else (k, x) :: putF f v r) from rfl]
    by_cases hk : k = f
    · rw [if_pos hk, List.length_cons, List.length_cons]; omega
    · rw [if_neg hk, List.length_cons, List.length_cons]; omega
theorem RelO.some_of {v : V} {o : Option Value} (r : RelO (some v) o) : ∃ u, o = some u ∧ RelV v u := by
  cases o with
  | none => exact (show False from r).elim
  | some u => exact ⟨u, rfl, r⟩
theorem RelO.none_of {o : Option Value} (r : RelO none o) : o = none := by
  cases o with
  | none => rfl
  | some u => exact (show False from r).elim
theorem handed_of {v : V} {u : Value} (r : RelV v u) : PySem.W.handedIn u = true := by
  cases v with
  | non => cases (show u = Value.none from r); rfl
  | bl b => cases (show u = Value.bool b from r); rfl
  | int i => obtain ⟨t, e⟩ := (show ∃ t, u = Value.int i t from r); cases e; rfl
  | str x => obtain ⟨t, e⟩ := (show ∃ t, u = Value.str x t from r); cases e; rfl
  | byt b => obtain ⟨t, e⟩ := (show ∃ t, u = Value.bytes b t from r); cases e; rfl
  | flt b => obtain ⟨t, e⟩ := (show ∃ t, u = Value.float b t from r); cases e; rfl
  | ref a => cases (show u = Value.ref a from r); rfl
  | ty n => cases (show u = Value.type n from r); rfl
section
variable {P : Program} {w : World} {H H' : Hp} {h h' : Heap} {a C dx : Addr} {fs fs' : List (Str × V)}
theorem ins_get (hok : HOk P w H h) (e : H a = some (.ins C dx fs)) : ∃ mA, ObjM h a dx C mA ∧ (∀ f, RelO (fs.lookup f) (mA f)) ∧ PySem.Within mA (fs.map (·.1)) ∧ fs.length ≤ 1000 ∧ H dx = some (.own a) := by
  obtain ⟨d, z, ne, ob, mA, n, r, q⟩ := (show ObjOk P w H h a (.ins C dx fs) from hok a _ e)
  exact ⟨mA, ⟨ob, n, ne⟩, r, q, z, d⟩
end
structure Cls (K : PySem.W.Frag) (C : Addr) : Prop where
  pg : PySem.W.plainGet K C Str.empty = true
  hd : PySem.W.hasDictIn K C = true
  po : PySem.W.plainOver K C = true
  sa : PySem.W.findIn K (.ref C) "__setattr__" = some (some (.builtin "object.__setattr__"))
theorem Cls.get {K : PySem.W.Frag} {C : Addr} (c : Cls K C) (f : Str) : PySem.W.plainGet K C f = true := c.pg
def NoAttr (K : PySem.W.Frag) (C : Addr) (f : Str) : Prop := PySem.W.findIn K (.ref C) f = some none
theorem NoAttr.taker {K : PySem.W.Frag} {C : Addr} {f : Str} (n : NoAttr K C f) : PySem.W.takerIn K C f = some none := by
  unfold PySem.W.takerIn
  rw [show PySem.W.findIn K (.ref C) f = some none from n]
  rfl
structure Meth (K : PySem.W.Frag) (C : Addr) (m : Str) (f : Addr) : Prop where
  at_ : PySem.W.findIn K (.ref C) m = some (some (.ref f))
  fn : PySem.W.isFn K (.ref f) = true
  kp : PySem.W.keepIn K (.ref f) = true
section
variable {X : Cx} {pins : List (Addr × Obj)} {σ : St} {H : Hp} {s : Shared} {a C dx : Addr} {fs : List (Str × V)} {f : Str} {v : V} {A : Around} {E : Value → Shared → Prop}
theorem getattr_ok {b : Bool} {Q : Value → Shared → Prop} (I : Inv X pins σ H s) (e : H a = some (.ins C dx fs)) (c : Cls X.K C) (n : NoAttr X.K C f) (l : fs.lookup f = some v)
    (h : ∀ u s', Inv X pins σ H s' → RelV v u → Q u s') : wpAny (model X.prog X.w) A (getAttr (.ref a) f b) Q E s := by
  obtain ⟨mA, O, r, _, _, _⟩ := ins_get I.hok e
  obtain ⟨u, hu, ru⟩ := RelO.some_of (v := v) (o := mA f) (by rw [← l]; exact r f)
  exact get_map I.kIn O (c.get f) c.hd n hu (handed_of ru) (h u _ (I.tok _) ru)
theorem getmeth_ok {m : Str} {g : Addr} {pl : Sem Bool} {Q : Value × List Value → Shared → Prop} (I : Inv X pins σ H s) (e : H a = some (.ins C dx fs)) (c : Cls X.K C) (k : Meth X.K C m g) (l : fs.lookup m = none)
    (h : Q (.ref g, [.ref a]) s) : wpAny (model X.prog X.w) A (getMethod (.ref a) m pl) Q E s := by
  obtain ⟨mA, O, r, _, _, _⟩ := ins_get I.hok e
  have hn : mA m = none := RelO.none_of (by rw [← l]; exact r m)
  exact get_meth I.kIn O (c.get m) k.at_ k.fn hn h
theorem setattr_ok {y : V} {u : Value} {Q : Unit → Shared → Prop} (I : Inv X pins σ H s) (e : H a = some (.ins C dx fs)) (c : Cls X.K C) (n : NoAttr X.K C f) (hl : fs.length < 1000) (ry : RelV y u)
    (h : ∀ s', Inv X pins σ (upd H a (.ins C dx (putF f y fs))) s' → Q () s') : wpAny (model X.prog X.w) A (setAttr (.ref a) f u) Q E s := by
  obtain ⟨mA, O, r, wi, _, ho⟩ := ins_get I.hok e
  have hz : (fs.map (·.1)).length ≤ sizeLine := by rw [List.length_map, sizeLine_eq]; omega
  refine set_map I.kIn O c.sa c.po n.taker c.hd wi hz fun h' O' sb => h _ ?_
  have hd : ∃ o, h'.get? dx = some o := let ⟨o, _, _, e', _⟩ := O'.ns; ⟨o, e'⟩
  refine I.write (x := a) (e := dx) (by rw [e]; exact True.intro) (.inr ho) (fun b q hb z => (sb.2 b hb).trans z) hd ?_
  refine ⟨by rw [upd_ne O.ne]; exact ho, ?_, O.ne, O'.obj, _, O'.ns, fun g => ?_, fun g hg => ?_⟩
  · have := length_putF f y fs; omega
  · show RelO ((putF f y fs).lookup g) (if g = f then some u else mA g)
    rw [lookup_putF]
    by_cases q : g = f
    · rw [if_pos q, if_pos q]; exact ry
    · rw [if_neg q, if_neg q]; exact r g
  · by_cases q : g = f
    · rw [q]; exact (keys_putF f y fs).1
    · refine (keys_putF f y fs).2 g (wi g fun z => hg ?_)
      show (if g = f then some u else mA g) = none
      rw [if_neg q]; exact z
theorem Inv.made (I : Inv X pins σ H s) : Inv X pins σ (upd (upd H s.heap.objs.size (.own (s.heap.objs.size + 1))) (s.heap.objs.size + 1) (.ins C s.heap.objs.size []))
    { s with heap := (s.heap.push PySem.W.emptyDict).push (PySem.W.instObj C s.heap.objs.size) } := by
  have e1 : (s.heap.push PySem.W.emptyDict).get? s.heap.objs.size = some PySem.W.emptyDict := Heap.get?_push_size s.heap rfl
  have e2 : ((s.heap.push PySem.W.emptyDict).push (PySem.W.instObj C s.heap.objs.size)).get? (s.heap.objs.size + 1) = some (PySem.W.instObj C s.heap.objs.size) := by
    have := Heap.get?_push_size (s.heap.push PySem.W.emptyDict) (o := PySem.W.instObj C s.heap.objs.size) rfl
    rwa [Heap.size_push] at this
  have e3 : (s.heap.push PySem.W.emptyDict).Ns s.heap.objs.size (fun _ => none) := ⟨PySem.W.emptyDict, #[], _, e1, rfl, (fun e he => absurd he (by simp)), fun _ => rfl⟩
  have I1 := I.laid (a := s.heap.objs.size) (o := .own (s.heap.objs.size + 1)) (h' := s.heap.push PySem.W.emptyDict) (t' := s.toks) (fun b u q => Heap.get?_push_of_some _ q) (Nat.le_refl _) ⟨_, e1⟩
  refine I1.laid (a := s.heap.objs.size + 1) (o := .ins C s.heap.objs.size []) (t' := s.toks) (fun b u q => Heap.get?_push_of_some _ q) (Nat.le_of_eq (Heap.size_push _ _)) ?_
  have ne : s.heap.objs.size ≠ s.heap.objs.size + 1 := Nat.ne_of_lt (Nat.lt_succ_self _)
  refine ⟨by rw [upd_ne ne, upd_same], Nat.zero_le _, ne, e2, fun _ => none, (Heap.Ns1.of_empty e3).at fun o q => Heap.get?_push_of_some _ q, fun _ => True.intro, fun y hy => absurd rfl hy⟩
theorem attr_of {prog : Program} {w : World} {env : Env} {e : Expr} {f : Str} {pos : Pos} {s : Shared} {Q : Value → Shared → Prop} (hb : attributeBase e f env (eval e env) = eval e env)
    (h : wpAny (model prog w) A (eval e env) (fun o s₁ => wpAny (model prog w) A (getAttr o f true) Q E s₁) E s) : wpAny (model prog w) A (eval (.Attribute e f pos) env) Q E s :=
  Attribute_any_ h (by rw [arm_eval_Attribute, hb])
end
def tFld (K : PySem.W.Frag) (ta : TE) (f : Str) : TE := fun σ H Q => ta σ H fun x H1 => ∃ a C dx fs v, x = .ref a ∧ H1 a = some (.ins C dx fs) ∧ Cls K C ∧ NoAttr K C f ∧ fs.lookup f = some v ∧ Q v H1
def sFld (K : PySem.W.Frag) (ta tv : TE) (f : Str) : TS := fun D σ H => tv σ H fun y H1 => ta σ H1 fun x H2 => ∃ a C dx fs, x = .ref a ∧ H2 a = some (.ins C dx fs) ∧ Cls K C ∧ NoAttr K C f ∧ fs.length < 1000 ∧
  D.nx σ (upd H2 a (.ins C dx (putF f y fs)))
section
variable {X : Cx} {o e value : Expr} {f : Str} {pos pos' tpos : Pos} {ta tv : TE}
theorem pe_fld (he : PE X e ta) (hb : attributeBase e f X.env (eval e X.env) = eval e X.env) : PE X (.Attribute e f pos) (tFld X.K ta f) := by
  intro pins s σ H Q I h
  refine attr_of hb (thn (he pins s σ H _ I h) fun u s1 ⟨x, H1, I1, rx, a, C, dx, fs, v, ex, ea, c, n, l, q⟩ => ?_)
  subst ex
  obtain rfl : u = Value.ref a := rx
  exact getattr_ok I1 ea c n l fun u' s2 I2 ru => ⟨v, H1, I2, ru, q⟩
theorem ps_fld (ha : PE X o ta) (hv : PE X value tv) (hs : swapsWith value (some (.Attribute o f pos')) pos.line X.env = pure false) : PS X (.Assign [.Attribute o f pos'] value pos) (sFld X.K ta tv f) := by
  intro pins s σ H D I h
  refine plainObj_wpAny_Assign_Attribute (thn (hv pins s σ H _ I h) fun u s1 ⟨y, H1, I1, ry, q⟩ => thn (ha pins s1 σ H1 _ I1 q) fun ov s2 ⟨x, H2, I2, rx, a, C, dx, fs, ex, ea, c, n, l, q2⟩ => ?_) hs
  subst ex
  obtain rfl : ov = Value.ref a := rx
  exact setattr_ok I2 ea c n l ry fun s3 I3 => ⟨σ, _, I3, q2⟩
end
section
variable {X : Cx} {pins : List (Addr × Obj)} {σ : St} {H : Hp} {s : Shared} {A : Around} {E : Value → Shared → Prop} {Q : Value → Shared → Prop} {c : Value} {b : Bool}
end
end L2
namespace L2
open PySem PySem.Spec PyProof.Rows
structure Room (k : Nat) (A : Around) : Prop where
  hd : A.handled = none
  dp : A.depth + 3 * k + 5 < recursionLimit
  un : A.units + 16 * k + 200 < cLine
theorem Room.mono {j k : Nat} {A : Around} (r : Room k A) (h : j ≤ k) : Room j A := ⟨r.hd, by have := r.dp; omega, by have := r.un; omega⟩
theorem Room.deeper {k : Nat} {A : Around} (r : Room (k + 1) A) (env : Env) : Room k (A.deeper env) :=
  ⟨r.hd, by have := r.dp; show A.depth + 1 + 3 * k + 5 < _; omega, by have := r.un; show A.units + 3 + 16 * k + 200 < _; omega⟩
theorem make_depth {A : Around} {C : Addr} {us : List Value} {kw : List (Str × Value)} : (A.under (.builtin "type.__call__" ⟨.ref C :: us, kw⟩)).depth = A.depth + 1 := by
  first | rfl | simp [Around.under, Code.weight, Code.isCreation, Code.isGuard, Code.isCaller, Code.frames, Code.isFrame, guardIds]
theorem make_units {A : Around} {C : Addr} {us : List Value} {kw : List (Str × Value)} : (A.under (.builtin "type.__call__" ⟨.ref C :: us, kw⟩)).units = A.units + 1 := by
  first | rfl | simp [Around.under, Code.cUnits, Code.frames, Code.isFrame]
theorem Room.make {k : Nat} {A : Around} (r : Room (k + 1) A) (C : Addr) (us : List Value) (kw : List (Str × Value)) : Room k (A.under (.builtin "type.__call__" ⟨.ref C :: us, kw⟩)) :=
  ⟨r.hd, by have := r.dp; rw [make_depth]; omega, by have := r.un; rw [make_units]; omega⟩
theorem Room.depth {k : Nat} {A : Around} (r : Room k A) : A.depth < recursionLimit := by have := r.dp; omega
theorem Room.units {k : Nat} {A : Around} (r : Room k A) : A.units + 64 < cLine := by have := r.un; omega
def tNil : TA := fun _ H Q => Q [] H
def tCons (ta : TE) (tr : TA) : TA := fun σ H Q => ta σ H fun x H1 => tr σ H1 fun xs H2 => Q (x :: xs) H2
section
variable {X : Cx} {e : Expr} {es : List Expr} {te : TE} {t : TA} {pos : Pos}
theorem pa_nil : PA X [] tNil := fun _ _ _ _ H Q I h => Calls.spliced_nil ⟨[], H, I, .nil, h⟩
theorem pa_cons (ha : PE X e te) (hr : PA X es t) (hs : starEach (e :: es) X.env = (false, eval e X.env) :: starEach es X.env := by rfl) : PA X (e :: es) (tCons te t) := by
  intro pos pins s σ H Q I h
  rw [hs]
  show wpAny _ _ (spliced ((false, eval e X.env) :: backTo pos (starEach es X.env))) _ _ s
  refine Calls.spliced_cons (thn (ha pins s σ H _ I h) fun u s1 ⟨x, H1, I1, r1, q1⟩ => ?_)
  exact thn (hr pos pins s1 σ H1 _ I1 q1) fun us s2 ⟨xs, H2, I2, r2, q2⟩ => ⟨x :: xs, H2, I2, .cons r1 r2, q2⟩
def tTup (t : TA) : TE := fun σ H Q => t σ H fun xs H1 => xs.length ≤ sizeLine ∧ ∀ p, H1 p = none → Q (.ref p) (upd H1 p (.tup xs))
def tLst (t : TA) : TE := fun σ H Q => t σ H fun xs H1 => xs.length ≤ sizeLine ∧ ∀ p, H1 p = none → Q (.ref p) (upd H1 p (.lst xs))
theorem pe_tup {x1} (h : PA X es t) : PE X (.Tuple es x1 pos) (tTup t) := by
  intro pins s σ H Q I hq
  refine wpAny_Tuple_spliced (thn (h pos pins s σ H _ I hq) fun us s1 ⟨xs, H1, I1, r, z, q⟩ => ⟨by rw [← r.length]; exact z, ?_⟩)
  have hf : H1 s1.heap.objs.size = none := I1.hok.fresh (Nat.le_refl _)
  refine ⟨.ref s1.heap.objs.size, upd H1 s1.heap.objs.size (.tup xs), I1.laid (t' := s1.toks) (fun b u e => Heap.get?_push_of_some _ e) (Nat.le_refl _) ?_, rfl, q _ hf⟩
  exact ⟨z, us, r, ⟨_, Heap.get?_push_size _ rfl, rfl, _, rfl⟩⟩
theorem pe_lst (h : PA X es t) : PE X (.List es pos) (tLst t) := by
  intro pins s σ H Q I hq
  refine wpAny_List_spliced (thn (h pos pins s σ H _ I hq) fun us s1 ⟨xs, H1, I1, r, z, q⟩ => ⟨by rw [← r.length]; exact z, ?_⟩)
  have hf : H1 s1.heap.objs.size = none := I1.hok.fresh (Nat.le_refl _)
  refine ⟨.ref s1.heap.objs.size, upd H1 s1.heap.objs.size (.lst xs), I1.laid (t' := s1.toks) (fun b u e => Heap.get?_push_of_some _ e) (Nat.le_refl _) ?_, rfl, q _ hf⟩
  exact ⟨z, us, 0, r, Heap.get?_push_size _ rfl⟩
end
abbrev Sp := List V → Hp → VK → XK → Prop
abbrev CXT := List Env → Hp → Shared → XK → Value → Shared → Prop
structure Env0 (P : Program) (w : World) (K : PySem.W.Frag) (mg : Str → Option Value) (base : Heap) (A : Around) (outer : List Env) (s : Shared) (H : Hp) : Prop where
  frames : A.frames = some outer
  mod : Mod K mg base
  bs : ∀ b o, base.get? b = some o → s.heap.get? b = some o ∧ H b = none
  bsz : base.objs.size ≤ s.heap.objs.size
  funs : s.heap.FunFrames base outer
  frf : ∀ b ∈ frs outer, H b = none
  hok : HOk P w H s.heap
  bare : AllBare s.gens
def CE (outer : List Env) (P : Program) (w : World) (H : Hp) (s : Shared) (Q : VK) (u : Value) (s' : Shared) : Prop :=
  ∃ v H', s'.os = s.os ∧ AllBare s'.gens ∧ Un (frs outer) [] H H' s.heap s'.heap ∧ HOk P w H' s'.heap ∧ RelV v u ∧ Q v H'
def CR (CX : CXT) (outer : List Env) (P : Program) (w : World) (H : Hp) (s : Shared) (Q : VK) (E : XK) (r : Result) (s' : Shared) : Prop :=
  match r with
  | .ok (.ret u) => CE outer P w H s Q u s'
  | .ok _ => False
  | .error e => CX outer H s E e s'
structure FnOk (P : Program) (w : World) (K : PySem.W.Frag) (mg : Str → Option Value) (base : Heap) (CX : CXT) (k : Nat) (f : Addr) (fd : FuncData) (ps : List Str) (sp : Sp) : Prop where
  len : ∀ vs H Q E, sp vs H Q E → vs.length = ps.length
  run : ∀ (A : Around) (outer : List Env) (s : Shared) (H : Hp) (args : Args) (us : List Value) (vs : List V) (Q : VK) (E : XK), Room k A → Env0 P w K mg base A outer s H → BindsTo s fd args (ps.zip us) → Vals vs us → sp vs H Q E →
    codeAny (model P w) A (.call (.ref f) args) (CR CX outer P w H s Q E) s
theorem Env0.make {P : Program} {w : World} {K : PySem.W.Frag} {mg : Str → Option Value} {base : Heap} {A : Around} {outer : List Env} {s : Shared} {H : Hp} (e : Env0 P w K mg base A outer s H) (C : Addr) (us : List Value) (kw : List (Str × Value)) :
    Env0 P w K mg base (A.under (.builtin "type.__call__" ⟨.ref C :: us, kw⟩)) outer s H := ⟨by first | exact e.frames | (simpa [Around.under, Code.envs, Code.isFrame, pushEnvs] using e.frames), e.mod, e.bs, e.bsz, e.funs, e.frf, e.hok, e.bare⟩
section
variable {X : Cx} {pins : List (Addr × Obj)} {σ : St} {H : Hp} {s s' : Shared}
theorem Inv.env0 (I : Inv X pins σ H s) : Env0 X.prog X.w X.K X.mg X.base X.A X.stack s H :=
  ⟨I.ok.frames, I.ok.mod, I.bs, Nat.le_trans I.ok.bsz I.sz, I.stack, I.stkFree, I.hok, I.bare⟩
theorem Inv.after {Q : VK} {u : Value} (I : Inv X pins σ H s) (h : CE X.stack X.prog X.w H s Q u s') : EP X pins σ Q u s' := by
  obtain ⟨v, H', os, bare, un, hok, r, q⟩ := h
  obtain ⟨hh, g, d, t, os'⟩ := s'
  obtain rfl : os' = s.os := os
  exact ⟨v, H', I.call (h' := hh) (g' := g) (d' := d) (t' := t) (ch := []) un hok bare (fun b z => absurd z (by simp)), r, q⟩
end
def tCall (sp : Sp) (dvs : List V) (E : XK) (t : TA) : TE := fun σ H Q => t σ H fun vs H1 => sp (vs ++ dvs) H1 Q E
def tMeth (C : Addr) (m : Str) (sp : Sp) (dvs : List V) (E : XK) (ta : TE) (t : TA) : TE := fun σ H Q => ta σ H fun x H1 => ∃ a dx fs, x = .ref a ∧ H1 a = some (.ins C dx fs) ∧ fs.lookup m = none ∧
  t σ H1 fun vs H2 => sp (x :: (vs ++ dvs)) H2 Q E
def tMake (C : Addr) (sp : Sp) (dvs : List V) (E : XK) (t : TA) : TE := fun σ H Q => t σ H fun vs H1 => ∀ x dx, H1 x = none → H1 dx = none → dx ≠ x →
  sp (.ref x :: (vs ++ dvs)) (upd (upd H1 dx (.own x)) x (.ins C dx [])) (fun v H2 => v = .non ∧ Q (.ref x) H2) E
def Binds (K : PySem.W.Frag) (fd : FuncData) (ps : List Str) (ds : List Value) : Prop :=
  ∀ (s : Shared) (us : List Value), K.In s.heap → (us ++ ds).length = ps.length → BindsTo s fd ⟨us, []⟩ (ps.zip (us ++ ds))
theorem Binds.all {K : PySem.W.Frag} {fd : FuncData} {ps : List Str} (h : ∀ us : List Value, us.length = ps.length → bindArgs fd ⟨us, []⟩ = pure (ps.zip us)) : Binds K fd ps [] := fun s us _ hl => by
  rw [List.append_nil] at hl ⊢
  exact .of_eq (h us hl)
def Passes (CX : CXT) (X : Cx) (E : XK) : Prop := ∀ (pins : List (Addr × Obj)) (σ : St) (H : Hp) (s : Shared) (e : Value) (s' : Shared), Inv X pins σ H s → CX X.stack H s E e s' → X.xe e s'
section
variable {X : Cx} {CX : CXT} {k : Nat} {f C : Addr} {fd : FuncData} {ps : List Str} {sp : Sp} {dvs : List V} {ds : List Value} {E : XK} {x m : Str} {p pos apos : Pos} {e o : Expr} {es : List Expr} {ta : TE} {t : TA}
theorem run_fn {pins : List (Addr × Obj)} {σ : St} {H : Hp} {s : Shared} {Q : VK} {us : List Value} {vs : List V} (F : FnOk X.prog X.w X.K X.mg X.base CX k f fd ps sp) (hr : Room k X.A) (hb : Binds X.K fd ps ds) (hd : Vals dvs ds) (hx : Passes CX X E)
    (I : Inv X pins σ H s) (r : Vals vs us) (h : sp (vs ++ dvs) H Q E) : wpAny (model X.prog X.w) X.A (call (.ref f) us) (EP X pins σ Q) X.xe s := by
  have r2 : Vals (vs ++ dvs) (us ++ ds) := r.append hd
  have hl : (us ++ ds).length = ps.length := by rw [← r2.length]; exact F.len _ _ _ _ h
  refine wpAny_call (codeAny_mono (F.run X.A X.stack s H ⟨us, []⟩ (us ++ ds) (vs ++ dvs) Q E hr I.env0 (hb s us I.kIn hl) r2 h) fun r s' hq => ?_)
  cases r with
  | error e => exact hx pins σ H s e s' I hq
  | ok fl =>
    cases fl with
    | ret u => exact I.after hq
    | next => exact False.elim hq
    | brk => exact False.elim hq
    | cont => exact False.elim hq
theorem pe_call (F : FnOk X.prog X.w X.K X.mg X.base CX k f fd ps sp) (hr : Room k X.A) (hg : Gl X x) (hm : X.mg x = some (.ref f)) (hk : PySem.W.keepIn X.K (.ref f) = true) (hb : Binds X.K fd ps ds) (hd : Vals dvs ds) (hx : Passes CX X E)
    (ha : PA X (e :: es) t) (hdb : (x == ("__debug__" : Str)) = false := by decide) (he : starEach (e :: es) X.env = (false, eval e X.env) :: starEach es X.env := by rfl) (hpl : (backTo pos (starEach es X.env)).any (·.1) = false := by rfl) :
    PE X (.Call (.Name x p) (e :: es) [] pos) (tCall sp dvs E t) := by
  intro pins s σ H Q I h
  refine wpAny_Call_Name_kw (ld_glob I hg hm ?_ hdb)
  refine PySem.W.callWith_K (h₀ := X.base) I.ok.mod.kin hk (thn (ha pos pins s σ H _ I h) fun us s1 ⟨vs, H1, I1, r, q⟩ => ⟨I1.kIn, ?_⟩) he hpl
  exact run_fn F hr hb hd hx I1 r q
theorem pe_meth {pl : Sem Bool} (he : PE X o ta) (c : Cls X.K C) (hm : Meth X.K C m f) (F : FnOk X.prog X.w X.K X.mg X.base CX k f fd ps sp) (hr : Room k X.A) (hb : Binds X.K fd ps ds) (hd : Vals dvs ds) (hx : Passes CX X E) (ha : PA X (e :: es) t)
    (hst : starEach (e :: es) X.env = (false, eval e X.env) :: starEach es X.env := by rfl) (hpl : (backTo pos (starEach es X.env)).any (·.1) = false := by rfl)
    (ht : eval (.Call (.Attribute o m apos) (e :: es) [] pos) X.env = (do
      let ov ← eval o X.env
      standAt apos.atName
      let (f, first) ← holding [ov] (getMethod ov m pl)
      callWith pos f first (backTo pos (starEach (e :: es) X.env)) (backToKw pos (keywordEach [] X.env))) := by rfl) :
    PE X (.Call (.Attribute o m apos) (e :: es) [] pos) (tMeth C m sp dvs E ta t) := by
  intro pins s σ H Q I h
  refine PySem.W.methodCall_KW (pl := pl) (thn (he pins s σ H _ I h) fun u s1 ⟨x, H1, I1, rx, a, dx, fs, ex, ea, l, q⟩ => ?_) ht
  subst ex
  obtain rfl : u = Value.ref a := rx
  refine getmeth_ok I1 ea c hm l ?_
  refine PySem.W.callWith_K (first := [.ref a]) (h₀ := X.base) I.ok.mod.kin hm.kp (thn (ha pos pins s1 σ H1 _ I1 q) fun us s2 ⟨vs, H2, I2, r, q2⟩ => ⟨I2.kIn, ?_⟩) hst hpl
  exact run_fn (us := .ref a :: us) (vs := .ref a :: vs) F hr hb hd hx I2 (.cons rfl r) q2
theorem pe_meth0 {pl : Sem Bool} (he : PE X o ta) (c : Cls X.K C) (hm : Meth X.K C m f) (F : FnOk X.prog X.w X.K X.mg X.base CX k f fd ps sp) (hr : Room k X.A) (hb : Binds X.K fd ps ds) (hd : Vals dvs ds) (hx : Passes CX X E)
    (ht : eval (.Call (.Attribute o m apos) [] [] pos) X.env = (do
      let ov ← eval o X.env
      standAt apos.atName
      let (f, first) ← holding [ov] (getMethod ov m pl)
      callWith pos f first (backTo pos (starEach [] X.env)) (backToKw pos (keywordEach [] X.env))) := by rfl) :
    PE X (.Call (.Attribute o m apos) [] [] pos) (tMeth C m sp dvs E ta tNil) := by
  intro pins s σ H Q I h
  refine PySem.W.methodCall_KW (pl := pl) (thn (he pins s σ H _ I h) fun u s1 ⟨x, H1, I1, rx, a, dx, fs, ex, ea, l, q⟩ => ?_) ht
  subst ex
  obtain rfl : u = Value.ref a := rx
  refine getmeth_ok I1 ea c hm l ?_
  exact PySem.W.callWith_K0 (first := [.ref a]) I1.kIn hm.kp (run_fn (us := [.ref a]) (vs := [.ref a]) F hr hb hd hx I1 (.cons rfl .nil) q)
structure Mk (K : PySem.W.Frag) (C f : Addr) : Prop where
  makes : PySem.W.makesIn K C = true
  init : PySem.W.findIn K (.ref C) "__init__" = some (some (.ref f))
  fn : PySem.W.isFn K (.ref f) = true
  kp : PySem.W.keepIn K (.ref C) = true
theorem run_make {pins : List (Addr × Obj)} {σ : St} {H : Hp} {s : Shared} {Q : VK} {us : List Value} {vs : List V} (M : Mk X.K C f) (F : FnOk X.prog X.w X.K X.mg X.base CX k f fd ps sp) (hr : Room (k + 1) X.A) (hb : Binds X.K fd ps ds) (hd : Vals dvs ds)
    (hx : Passes CX X E) (I : Inv X pins σ H s) (r : Vals vs us)
    (h : ∀ x dx, H x = none → H dx = none → dx ≠ x → sp (.ref x :: (vs ++ dvs)) (upd (upd H dx (.own x)) x (.ins C dx [])) (fun v H2 => v = .non ∧ Q (.ref x) H2) E) :
    wpAny (model X.prog X.w) X.A (call (.ref C) us) (EP X pins σ Q) X.xe s := by
  have hq := h (s.heap.objs.size + 1) s.heap.objs.size (I.hok.fresh (Nat.le_succ _)) (I.hok.fresh (Nat.le_refl _)) (Nat.ne_of_lt (Nat.lt_succ_self _))
  have I2 := Inv.made (C := C) I
  have r2 : Vals (V.ref (s.heap.objs.size + 1) :: (vs ++ dvs)) (Value.ref (s.heap.objs.size + 1) :: (us ++ ds)) := .cons rfl (r.append hd)
  have hl : (Value.ref (s.heap.objs.size + 1) :: us ++ ds).length = ps.length := by
    have e := r2.length
    rw [F.len _ _ _ _ hq] at e
    exact e.symm
  refine wpAny_call (make_map (f := f) I.kIn M.makes M.init (beq_iff_eq.mp M.fn) (codeAny_mono (F.run _ X.stack _ _ ⟨Value.ref (s.heap.objs.size + 1) :: us, []⟩ (Value.ref (s.heap.objs.size + 1) :: (us ++ ds)) _ _ E (hr.make C us [])
    (I2.env0.make C us []) (hb _ (Value.ref (s.heap.objs.size + 1) :: us) I2.kIn hl) r2 hq) fun r s' hq' => ?_))
  cases r with
  | error e => exact hx pins σ _ _ e s' I2 hq'
  | ok fl =>
    cases fl with
    | ret u =>
      obtain ⟨v, H', I3, rv, ev, q3⟩ := I2.after hq'
      subst ev
      exact ⟨rv, ⟨V.ref (s.heap.objs.size + 1), H', I3, rfl, q3⟩⟩
    | next => exact False.elim hq'
    | brk => exact False.elim hq'
    | cont => exact False.elim hq'
theorem pe_make (M : Mk X.K C f) (F : FnOk X.prog X.w X.K X.mg X.base CX k f fd ps sp) (hr : Room (k + 1) X.A) (hg : Gl X x) (hm : X.mg x = some (.ref C)) (hb : Binds X.K fd ps ds) (hd : Vals dvs ds) (hx : Passes CX X E)
    (ha : PA X (e :: es) t) (hdb : (x == ("__debug__" : Str)) = false := by decide) (he : starEach (e :: es) X.env = (false, eval e X.env) :: starEach es X.env := by rfl) (hpl : (backTo pos (starEach es X.env)).any (·.1) = false := by rfl) :
    PE X (.Call (.Name x p) (e :: es) [] pos) (tMake C sp dvs E t) := by
  intro pins s σ H Q I h
  refine wpAny_Call_Name_kw (ld_glob I hg hm ?_ hdb)
  refine PySem.W.callWith_K (h₀ := X.base) I.ok.mod.kin M.kp (thn (ha pos pins s σ H _ I h) fun us s1 ⟨vs, H1, I1, r, q⟩ => ⟨I1.kIn, ?_⟩) he hpl
  exact run_make M F hr hb hd hx I1 r q
end
section
variable {X : Cx} {CX : CXT} {k : Nat} {f C : Addr} {fd : FuncData} {ps ks : List Str} {sp : Sp} {E : XK} {x m : Str} {p pos apos kpos : Pos} {e o : Expr} {es : List Expr} {kws : List Keyword} {te ta : TE} {t tk : TA} {nm : Option Str}
variable {g : List Value → List Value → List Value} {gV : List V → List V → List V}
end
structure FnScope (N P : List Str) (sc : Scope) : Prop where
  kind : sc.kind = .function
  co : sc.isCoroutine = false
  gen : sc.isGenerator = false
  nd : N.Nodup
  pre : N.take P.length = P
  par : ∀ x ∈ P, sc.names.lookup x = some .local ∨ sc.names.lookup x = some .cell
  nofree : ∀ y ∈ sc.names, y.2 ≠ .free
theorem bindL_out {kindOf : Str → Option NameKind} {x : Str} : ∀ {binds : List (Str × Value)} {m : Str → Option Value}, (∀ v, (x, v) ∉ binds) → bindL kindOf binds m x = m x
  | [], _, _ => rfl
  | (n, v) :: r, m, h => by
    unfold bindL
    rw [bindL_out fun w hw => h w (List.mem_cons_of_mem _ hw)]
    split
    · have : x ≠ n := by rintro rfl; exact h v List.mem_cons_self
      simp [this]
    · rfl
theorem bindC_out {kindOf : Str → Option NameKind} {x : Str} : ∀ {binds : List (Str × Value)} {m : Str → Option Value}, (∀ v, (x, v) ∉ binds) → bindC kindOf binds m x = m x
  | [], _, _ => rfl
  | (n, v) :: r, m, h => by
    unfold bindC
    rw [bindC_out fun w hw => h w (List.mem_cons_of_mem _ hw)]
    split
    · rfl
    · have : x ≠ n := by rintro rfl; exact h v List.mem_cons_self
      simp [this]
theorem bindL_get {kindOf : Str → Option NameKind} {x : Str} {v : Value} : ∀ {P : List Str} {vs : List Value} {i : Nat} {m : Str → Option Value}, P.Nodup → P[i]? = some x → vs[i]? = some v → kindOf x = some .local →
    bindL kindOf (P.zip vs) m x = some v
  | [], _, _, _, _, h, _, _ => by simp at h
  | _ :: _, [], _, _, _, _, h, _ => by simp at h
  | p :: P, w :: vs, 0, m, nd, h1, h2, hk => by
    simp at h1 h2; subst h1; subst h2
    show bindL kindOf ((p, w) :: P.zip vs) m p = _
    unfold bindL
    rw [bindL_out fun v hv => (List.nodup_cons.mp nd).1 (List.of_mem_zip hv).1, if_pos hk]
    simp
  | p :: P, w :: vs, i + 1, m, nd, h1, h2, hk => by
    show bindL kindOf ((p, w) :: P.zip vs) m x = _
    unfold bindL
    exact bindL_get (i := i) (List.nodup_cons.mp nd).2 (by simpa using h1) (by simpa using h2) hk
theorem bindC_get {kindOf : Str → Option NameKind} {x : Str} {v : Value} : ∀ {P : List Str} {vs : List Value} {i : Nat} {m : Str → Option Value}, P.Nodup → P[i]? = some x → vs[i]? = some v → kindOf x ≠ some .local →
    bindC kindOf (P.zip vs) m x = some v
  | [], _, _, _, _, h, _, _ => by simp at h
  | _ :: _, [], _, _, _, _, h, _ => by simp at h
  | p :: P, w :: vs, 0, m, nd, h1, h2, hk => by
    simp at h1 h2; subst h1; subst h2
    show bindC kindOf ((p, w) :: P.zip vs) m p = _
    unfold bindC
    rw [bindC_out fun v hv => (List.nodup_cons.mp nd).1 (List.of_mem_zip hv).1, if_neg hk]
    simp
  | p :: P, w :: vs, i + 1, m, nd, h1, h2, hk => by
    show bindC kindOf ((p, w) :: P.zip vs) m x = _
    unfold bindC
    exact bindC_get (i := i) (List.nodup_cons.mp nd).2 (by simpa using h1) (by simpa using h2) hk
def start (N : List Str) (vs : List V) : St := vs.map some ++ List.replicate (N.length - vs.length) none
def cxOf (CX : CXT) (P : Program) (w : World) (K : PySem.W.Frag) (mg : Str → Option Value) (base : Heap) (N : List Str) (qual : Str) (scope : Scope) (f : Addr) (cd : Value) (A : Around) (outer : List Env) (s : Shared) (H : Hp) (E : XK) : Cx where
  prog := P
  w := w
  K := K
  mg := mg
  base := base
  A := A.deeper (envOfC qual scope s.heap.objs.size f cd)
  N := N
  s_0 := s
  H_0 := H
  env := envOfC qual scope s.heap.objs.size f cd
  outer := outer
  stack := envOfC qual scope s.heap.objs.size f cd :: outer
  ex := []
  calm := true
  fn := fun _ => true
  pn := []
  xe := fun e s' => wpAny (model P w) (A.deeper (envOfC qual scope s.heap.objs.size f cd)) (leaving (envOfC qual scope s.heap.objs.size f cd) e) (fun _ s'' => CX outer H s E e s'') (fun e' s'' => CX outer H s E e' s'') s'
theorem cell_has {sc : Scope} {n : Nat} {x : Str} (h : sc.names.lookup x = some .cell) : ∃ c, (cellsFrom n sc.names []).lookup x = some c := by
  have q := PySem.W.cellsFrom_some sc.names n [] (.inl h)
  exact Option.isSome_iff_exists.mp q
theorem inv_start {CX : CXT} {P : Program} {w : World} {K : PySem.W.Frag} {mg : Str → Option Value} {base : Heap} {N ps : List Str} {qual : Str} {scope : Scope} {f : Addr} {cd : Value} {A : Around} {outer : List Env} {s s1 : Shared} {H : Hp} {E : XK} {us : List Value} {vs : List V}
    (S : FnScope N ps scope) (hd : A.handled = none) (e0 : Env0 P w K mg base A outer s H) (hl : vs.length = ps.length) (r : Vals vs us)
    (x : InCallC s s.heap.objs.size (bindL (envOfC qual scope s.heap.objs.size f cd).kindOf (ps.zip us) fun _ => none) (cellsFrom (s.heap.objs.size + 1) scope.names []) (bindC (envOfC qual scope s.heap.objs.size f cd).kindOf (ps.zip us) fun _ => none) s1) :
    Inv (cxOf CX P w K mg base N qual scope f cd A outer s H E) [] (start N vs) H s1 := by
  have hpl : ps.length ≤ N.length := by have := congrArg List.length S.pre; rw [List.length_take] at this; omega
  obtain ⟨h1, tk, rfl, hk⟩ := x.done
  have noA : ∀ b : Addr, b ∉ (cxOf CX P w K mg base N qual scope f cd A outer s H E).ex := fun b z => absurd (show b ∈ ([] : List Addr) from z) (by simp)
  refine ⟨⟨e0.mod, S.kind, rfl, rfl, Nat.le_refl _, fun y z c h1 h2 => ?_, fun y hy => ?_, fun y c _ h => ?_, fun _ => hd, Around.frames_deeper e0.frames, .inr ⟨rfl, rfl⟩, fun b z => absurd z (noA b), e0.bs, e0.bsz, fun b _ _ => noA b, fun b z => absurd z (noA b), e0.funs, e0.frf⟩,
    rfl, e0.bare, Un.kept hk, ⟨_, x.toInCall.ns, fun i y v h1 h2 h3 => ?_⟩, fun y c h => ⟨_, x.cell y c h⟩, e0.hok.fresh (Nat.le_refl _), fun y c h => ?_, fun p hp => absurd (show p ∈ ([] : List (Addr × Obj)) from hp) (by simp), e0.hok.kept hk, ?_⟩
  · exact name_of_addr x.apart (PySem.mem_of_lookup h1) (PySem.mem_of_lookup h2)
  · have hy : scope.names.lookup y = some .cell ∨ scope.names.lookup y = some .free := hy
    rcases hy with hy | hy
    · exact cell_has hy
    · exact absurd rfl (S.nofree _ (PySem.mem_of_lookup hy))
  · exact Nat.le_of_lt (x.above y c (PySem.mem_of_lookup h))
  · have hi : i < vs.length := by
      unfold start at h2
      by_cases hi : i < vs.length
      · exact hi
      · rw [List.getElem?_append_right (by simpa using hi)] at h2
        rw [List.getElem?_replicate] at h2
        split at h2 <;> cases h2
    have ha : vs[i]? = some v := by
      unfold start at h2
      rw [List.getElem?_append_left (by simpa using hi), List.getElem?_map] at h2
      cases e : vs[i]? with
      | none => rw [e] at h2; cases h2
      | some a => rw [e] at h2; cases h2; rfl
    obtain ⟨u, hu, rv⟩ := r.get ha
    have hp : ps[i]? = some y := by
      rw [← S.pre, List.getElem?_take_of_lt (by omega)]; exact h1
    have ndP : ps.Nodup := by rw [← S.pre]; exact S.nd.sublist (List.take_sublist _ _)
    refine ⟨u, rv, ?_⟩
    rcases S.par y (List.mem_of_getElem? hp) with k | k
    · exact .inl ⟨k, bindL_get ndP hp hu k⟩
    · obtain ⟨c, e⟩ := cell_has (n := s.heap.objs.size + 1) k
      refine .inr ⟨.inl k, c, e, ?_⟩
      have q := x.cell y c e
      rw [bindC_get ndP hp hu (by show scope.names.lookup y ≠ _; rw [k]; decide)] at q
      exact q
  · exact e0.hok.fresh (Nat.le_of_lt (x.above y c (PySem.mem_of_lookup h)))
  · unfold start
    show _ = N.length
    rw [List.length_append, List.length_map, List.length_replicate]
    omega
theorem fn_of {CX : CXT} {P : Program} {w : World} {K : PySem.W.Frag} {mg : Str → Option Value} {base : Heap} {k : Nat} {f : Addr} {name qual : Str} {params : Arguments} {body : List Stmt} {scope : Scope} {dV kV doc pm cdv ct oc : Value} {an od : Option Addr}
    {osl : Array (Option Value)} {N ps : List Str} {sp : Sp} (lk : K.lookup f = some ⟨oc, od, .func (PySem.W.fnOf name qual params body scope dV kV doc pm an cdv ct), osl⟩) (hcd : PySem.W.codeIn K cdv qual = true) (S : FnScope N ps scope)
    (len : ∀ vs H Q E, sp vs H Q E → vs.length = ps.length)
    (hbody : ∀ (A : Around) (outer : List Env) (s : Shared) (H : Hp) (vs : List V) (Q : VK) (E : XK), Room k (A.deeper (envOfC qual scope s.heap.objs.size f cdv)) → sp vs H Q E →
      ∃ t, PSs (cxOf CX P w K mg base N qual scope f cdv A outer s H E) body t ∧ t { nx := fun _ H' => Q .non H', rt := Q } (start N vs) H) :
    FnOk P w K mg base CX (k + 1) f (PySem.W.fnOf name qual params body scope dV kV doc pm an cdv ct) ps sp := by
  refine ⟨len, fun A outer s H args us vs Q E hr e0 hb r hsp => ?_⟩
  have hl := len _ _ _ _ hsp
  have KX : K.In s.heap := e0.mod.kin.keeps fun b o e => (e0.bs b o e).1
  have lim : s.heap.NoLimit := e0.mod.nolimit.keeps fun b o e => (e0.bs b o e).1
  have hkind : ∀ y ∈ ps.zip us, scope.names.lookup y.1 = some .local ∨ (scope.names.lookup y.1 = some .cell ∧ ((cellsFrom (s.heap.objs.size + 1) scope.names []).lookup y.1).isSome = true) := fun ⟨n, v⟩ hy => by
    rcases S.par n (List.of_mem_zip hy).1 with q | q
    · exact .inl q
    · exact .inr ⟨q, PySem.W.cellsFrom_some _ _ _ (.inl q)⟩
  refine codeAny_call_function hr.depth (KX _ _ lk) rfl S.co S.gen rfl (PySem.W.codeRec_of KX hcd) (hb _ _ _ _ ?_)
  refine wpAny_newFunctionEnv_cells S.kind hkind fun env he s1 x => ?_
  subst he
  refine ⟨lim.keeps x.toInCall.keep, codeAny_func ?_⟩
  obtain ⟨t, ht, hq⟩ := hbody A outer s H vs Q E (hr.deeper _) hsp
  have I : Inv (cxOf CX P w K mg base N qual scope f cdv A outer s H E) [] (start N vs) H s1 := inv_start S hr.hd e0 hl r x
  refine wpAny_mono (ht [] s1 (start N vs) H _ I hq) (fun fl s' hs => ?_) fun e s' hs => hs
  have fin : ∀ {σ' : St} {H' : Hp} {v : V} {u : Value}, Inv (cxOf CX P w K mg base N qual scope f cdv A outer s H E) [] σ' H' s' → RelV v u → Q v H' → CE outer P w H s Q u s' :=
    fun {σ' H' v u} J rv q => ⟨v, H', J.os, J.bare, J.base, J.hok, rv, q⟩
  cases fl with
  | ret u =>
    obtain ⟨v, σ', H', J, rv, q⟩ := hs
    exact fin J rv q
  | next =>
    obtain ⟨σ', H', J, q⟩ := hs
    exact fin (v := V.non) (u := Value.none) J rfl q
  | brk =>
    obtain ⟨_, _, _, q⟩ := hs
    exact False.elim q
  | cont =>
    obtain ⟨_, _, _, q⟩ := hs
    exact False.elim q
end L2
namespace L2
open PySem PySem.Spec PyProof.Rows
section
variable {X : Cx} {x : Str} {p pos : Pos} {e : Expr} {es : List Expr} {t : TA} {id T : String} {r : List V → Hp → VK → Prop}
def tCB (r : List V → Hp → VK → Prop) (t : TA) : TE := fun σ H Q => t σ H fun vs H1 => r vs H1 Q
theorem pe_callB (hc : CallR X (.builtin id) r) (hg : Gl X x) (hm : X.mg x = none) (hv : bootBuiltins x = some (.builtin id)) (ha : PA X (e :: es) t) (hn : x ≠ "__name__" := by decide) (hdb : (x == ("__debug__" : Str)) = false := by decide)
    (he : starEach (e :: es) X.env = (false, eval e X.env) :: starEach es X.env := by rfl) (hpl : (backTo pos (starEach es X.env)).any (·.1) = false := by rfl) : PE X (.Call (.Name x p) (e :: es) [] pos) (tCB r t) := by
  intro pins s σ H Q I h
  refine wpAny_Call_Name_kw (ld_blt I hg hm hv ?_ hn hdb)
  exact PyProof.Rows.callWith_builtin1 (thn (ha pos pins s σ H _ I h) fun us s1 ⟨vs, H1, I1, r1, q1⟩ => hc pins s1 σ H1 vs us Q I1 r1 q1) he hpl
theorem pe_callTy (hc : CallR X (.type T) r) (hg : Gl X x) (hm : X.mg x = none) (hv : bootBuiltins x = some (.type T)) (ha : PA X (e :: es) t) (hn : x ≠ "__name__" := by decide) (hdb : (x == ("__debug__" : Str)) = false := by decide)
    (he : starEach (e :: es) X.env = (false, eval e X.env) :: starEach es X.env := by rfl) (hpl : (backTo pos (starEach es X.env)).any (·.1) = false := by rfl) : PE X (.Call (.Name x p) (e :: es) [] pos) (tCB r t) := by
  intro pins s σ H Q I h
  refine wpAny_Call_Name_kw (ld_blt I hg hm hv ?_ hn hdb)
  exact PyProof.Rows.callWith_type1 (thn (ha pos pins s σ H _ I h) fun us s1 ⟨vs, H1, I1, r1, q1⟩ => hc pins s1 σ H1 vs us Q I1 r1 q1) he hpl
end
end L2
namespace HT
open PySem PyProof.Rows
section
open PySem.SeqAt
open PySem.AutoSeq1 (wpAny_loadPart')
open PySem.MeetsSeq PySem.MeetsSeq2 PySem.MeetsSeq3
end
section
variable {prog : Program} {w : World} {A : Around} {E : Value → Shared → Prop} {s : Shared}
def sIx (n d : Nat) : Option Int → Nat
  | none => d
  | some v => if v < 0 then (v + (n : Int)).toNat else min v.toNat n
theorem sIx_nat (n d k : Nat) : sIx n d (some (k : Int)) = min k n := by
  show (if (k : Int) < 0 then ((k : Int) + (n : Int)).toNat else min (k : Int).toNat n) = min k n
  rw [if_neg (by omega), Int.toNat_natCast]
end
end HT
namespace L2
open PySem PySem.Spec PyProof.Rows
abbrev TO := St → Hp → (Option Int → Hp → Prop) → Prop
def PO (X : Cx) (e : Option Expr) (t : TO) : Prop :=
  ∀ (pins : List (Addr × Obj)) (s : Shared) (σ : St) (H : Hp) (Q : Option Int → Hp → Prop), Inv X pins σ H s → t σ H Q →
    wpAny (model X.prog X.w) X.A (evalPart e X.env) (fun u s' => ∃ o H', Inv X pins σ H' s' ∧ IsPart u o ∧ Q o H') X.xe s
def tNoPart : TO := fun _ H Q => Q none H
def tPart (t : TE) : TO := fun σ H Q => t σ H fun x H1 => ∃ i, x = .int i ∧ Q (some i) H1
section
variable {X : Cx} {e : Expr} {te : TE} {lo hi : Option Expr} {tl th : TO} {pos p2 : Pos}
theorem po_none : PO X none tNoPart := by
  intro pins s σ H Q I h
  rw [evalPart_none]
  exact wpAny_pure ⟨none, H, I, .none, h⟩
theorem po_some (h : PE X e te) : PO X (some e) (tPart te) := by
  intro pins s σ H Q I hw
  rw [evalPart_some]
  refine thn (h pins s σ H _ I hw) fun u s1 ⟨x, H1, I1, r1, q1⟩ => ?_
  obtain ⟨i, rfl, q⟩ := q1
  obtain ⟨t, rfl⟩ := r1
  exact ⟨some i, H1, I1, .int i t, q⟩
def SlR (X : Cx) (r : V → Option Int → Option Int → Hp → VK → Prop) : Prop :=
  ∀ (pins : List (Addr × Obj)) (s : Shared) (σ : St) (H : Hp) (x : V) (v vl vu : Value) (lo hi : Option Int) (sl : Addr) (Q : VK), Inv X pins σ H s → RelV x v → s.heap.IsSliceOf sl vl vu .none → IsPart vl lo → IsPart vu hi → r x lo hi H Q →
    ∃ T id, typeLookup (.type T) "__getitem__" = pure (some (.builtin id)) ∧ s.TypeIs v T ∧ wpAny (model X.prog X.w) X.A (getItem v (.ref sl)) (EP X pins σ Q) X.xe s
def tSl (r : V → Option Int → Option Int → Hp → VK → Prop) (te : TE) (tl th : TO) : TE := fun σ H Q => te σ H fun x H1 => tl σ H1 fun l H2 => th σ H2 fun u H3 => r x l u H3 Q
theorem pe_slice {r : V → Option Int → Option Int → Hp → VK → Prop} (hr : SlR X r) (he : PE X e te) (hl : PO X lo tl) (hu : PO X hi th) : PE X (.Subscript e (.Slice lo hi none p2) pos) (tSl r te tl th) := by
  intro pins s σ H Q I h
  refine Subscript_ (thn (he pins s σ H _ I h) fun v s1 ⟨x, H1, I1, r1, q1⟩ => ?_)
  refine wpAny_Slice (thn (hl pins s1 σ H1 _ I1 q1) fun vl s2 ⟨l, H2, I2, pl, q2⟩ => thn (hu pins s2 σ H2 _ I2 q2) fun vu s3 ⟨u, H3, I3, pu, q3⟩ => ?_)
  rw [evalPart_none]
  refine wpAny_pure ?_
  have I4 : Inv X pins σ H3 { s3 with heap := s3.heap.push { cls := .type "slice", data := .fields #[vl, vu, .none] } } := I3.kept (t' := s3.toks) fun b ob q => Heap.get?_push_of_some _ q
  obtain ⟨T, id, hT, ht, hg⟩ := hr pins { s3 with heap := s3.heap.push { cls := .type "slice", data := .fields #[vl, vu, .none] } } σ H3 x v vl vu l u s3.heap.objs.size Q I4 r1 (Heap.IsSliceOf.new ..) pl pu q3
  show wpAny (model X.prog X.w) X.A (subscriptTail e (.Slice lo hi none p2) v (.ref s3.heap.objs.size)) (EP X pins σ Q) X.xe { s3 with heap := s3.heap.push { cls := .type "slice", data := .fields #[vl, vu, .none] } }
  exact tail_any (ops := [.ref s3.heap.objs.size, v]) ht hT hg (by with_unfolding_all rfl)
def cutV (xs : List V) (lo hi : Option Int) : List V := (xs.drop (HT.sIx xs.length 0 lo)).take (HT.sIx xs.length xs.length hi - HT.sIx xs.length 0 lo)
theorem cutV_length (xs : List V) (lo hi : Option Int) : (cutV xs lo hi).length ≤ xs.length := by
  unfold cutV
  rw [List.length_take, List.length_drop]
  omega
end
end L2
namespace L2
open PySem PySem.Spec PyProof.Rows
def ixN (n : Nat) (i : Int) : Option Nat := if 0 ≤ i then (if i < n then some i.toNat else none) else if -(n : Int) ≤ i then some (i + n).toNat else none
def atI {α : Type} (xs : List α) (i : Int) : Option α := (ixN xs.length i).bind fun j => xs[j]?
theorem ixN_seq {n : Nat} {i : Int} {j : Nat} (h : ixN n i = some j) : seqIndex? i n = some j ∧ j < n ∧ -(n : Int) ≤ i ∧ i < n := by
  unfold ixN at h
  by_cases h0 : 0 ≤ i
  · rw [if_pos h0] at h
    by_cases h1 : i < n
    · rw [if_pos h1] at h
      have e : i.toNat = j := Option.some.inj h
      exact ⟨by rw [seqIndex_of h0 h1, e], by omega, by omega, h1⟩
    · rw [if_neg h1] at h; cases h
  · rw [if_neg h0] at h
    by_cases h1 : -(n : Int) ≤ i
    · rw [if_pos h1] at h
      have e : (i + n).toNat = j := Option.some.inj h
      exact ⟨by rw [seqIndex_neg (by omega) h1, e], by omega, h1, by omega⟩
    · rw [if_neg h1] at h; cases h
theorem atI_get {α : Type} {xs : List α} {i : Int} {v : α} (h : atI xs i = some v) : ∃ j, seqIndex? i xs.length = some j ∧ xs[j]? = some v ∧ j < xs.length ∧ -(xs.length : Int) ≤ i ∧ i < xs.length := by
  unfold atI at h
  cases e : ixN xs.length i with
  | none => rw [e] at h; cases h
  | some j =>
    rw [e] at h
    obtain ⟨h1, h2, h3, h4⟩ := ixN_seq e
    exact ⟨j, h1, h, h2, h3, h4⟩
theorem atI_nat {α : Type} {xs : List α} {j : Nat} {v : α} (h : xs[j]? = some v) : atI xs (j : Int) = some v := by
  have hj : j < xs.length := (List.getElem?_eq_some_iff.mp h).1
  have e : ixN xs.length (j : Int) = some j := by
    unfold ixN
    rw [if_pos (by omega), if_pos (by omega)]; simp
  unfold atI; rw [e]; exact h
def PlainIx (b : Expr) : Prop := ∀ o i, subscripted b false o i = operate [o, i] (getItem o i)
def IxR (X : Cx) (r : R2) : Prop :=
  ∀ (value slice : Expr) (pins : List (Addr × Obj)) (s : Shared) (σ : St) (H : Hp) (x y : V) (v u : Value) (Q : VK), Inv X pins σ H s → RelV x v → RelV y u → r x y H Q →
    subscripted slice false v u = operate [v, u] (getItem v u) → wpAny (model X.prog X.w) X.A (subscriptTail value slice v u) (EP X pins σ Q) X.xe s
def MtR (X : Cx) (id : String) (r : V → List V → Hp → VK → Prop) : Prop :=
  ∀ (pins : List (Addr × Obj)) (s : Shared) (σ : St) (H : Hp) (x : V) (xs : List V) (v : Value) (us : List Value) (Q : VK), Inv X pins σ H s → RelV x v → Vals xs us → r x xs H Q →
    wpAny (model X.prog X.w) X.A (call (.builtin id) (v :: us)) (EP X pins σ Q) X.xe s
section
variable {X : Cx} {a b : Expr} {ta tb : TE} {pos : Pos}
theorem IxR.or {r r' : R2} (h : IxR X r) (h' : IxR X r') : IxR X (fun x y H Q => r x y H Q ∨ r' x y H Q) := by
  intro value slice pins s σ H x y v u Q I rx ry q hs
  rcases q with q | q
  · exact h value slice pins s σ H x y v u Q I rx ry q hs
  · exact h' value slice pins s σ H x y v u Q I rx ry q hs
theorem pe_ix {r : R2} (hr : IxR X r) (ha : PE X a ta) (hb : PE X b tb) (hs : PlainIx b) : PE X (.Subscript a b pos) (tOp r ta tb) := by
  intro pins s σ H Q I h
  exact Subscript_ (binT ha hb I h fun v u s2 x y H2 I2 rx ry q => hr a b pins s2 σ H2 x y v u Q I2 rx ry q (hs _ _))
def rIxL (K : PySem.W.Frag) : R2 := fun x y H Q => ∃ p xs i v, x = .ref p ∧ y = .int i ∧ SqL K H p xs ∧ atI xs i = some v ∧ Q v H
def rIxT (K : PySem.W.Frag) : R2 := fun x y H Q => ∃ p xs i v, x = .ref p ∧ y = .int i ∧ SqT K H p xs ∧ atI xs i = some v ∧ Q v H
def rIxS : R2 := fun x y H Q => ∃ z i c, x = .str z ∧ y = .int i ∧ z.length ≤ sizeLine ∧ atI z.cps.toList i = some c ∧ Q (.str ⟨#[c]⟩) H
theorem ix_list : IxR X (rIxL X.K) := by
  intro value slice pins s σ H x y v u Q I rx ry h hs
  obtain ⟨p, xs, i, z, rfl, rfl, hq, he, q⟩ := h
  cases rx
  obtain ⟨t, rfl⟩ := ry
  obtain ⟨its, r, pl, hz⟩ := I.list hq
  obtain ⟨j, h1, h2, h3, h4, h5⟩ := atI_get he
  obtain ⟨w, ew, rw'⟩ := r.get h2
  have hl := r.length
  have hn := line63
  have fin : EP X pins σ Q w s := ⟨z, H, I, rw', q⟩
  by_cases h0 : 0 ≤ i
  · have hj : i.toNat = j := by
      rw [seqIndex_of h0 h5] at h1
      exact Option.some.inj h1
    exact item_listR pl.isList h0 (by omega) (by rw [hj]; simpa using ew) fin hs
  · have hj : (i + (its.toArray.size : Int)).toNat = j := by
      rw [seqIndex_neg (by omega) h4] at h1
      rw [List.size_toArray, ← hl]
      exact Option.some.inj h1
    exact subscriptTail_builtinR (x := w) pl.isList.typeIs slot_list_getitem.lookup
      (wpAny_getItem_list_neg (Q := fun r s' => r = w ∧ EP X pins σ Q r s') pl.isList (by omega) (by rw [List.size_toArray] <;> omega) (by omega) (by rw [hj]; simpa using ew) ⟨rfl, fin⟩) hs
theorem ix_tup : IxR X (rIxT X.K) := by
  intro value slice pins s σ H x y v u Q I rx ry h hs
  obtain ⟨p, xs, i, z, rfl, rfl, hq, he, q⟩ := h
  cases rx
  obtain ⟨t, rfl⟩ := ry
  obtain ⟨its, r, pl, hz⟩ := I.tuple hq
  obtain ⟨j, h1, h2, h3, h4, h5⟩ := atI_get he
  obtain ⟨w, ew, rw'⟩ := r.get h2
  have hl := r.length
  have hn := line63
  have fin : EP X pins σ Q w s := ⟨z, H, I, rw', q⟩
  exact subscriptTail_builtinR (x := w) pl.typeIs slot_tuple_getitem.lookup
    (getItem_tuple (j := j) (Q := fun r s' => r = w ∧ EP X pins σ Q r s') pl (by omega) (by omega) (by rw [List.size_toArray, ← hl]; exact h1) (by simpa using ew) ⟨rfl, fin⟩) hs
theorem ix_str : IxR X rIxS := by
  intro value slice pins s σ H x y v u Q I rx ry h hs
  obtain ⟨z, i, c, rfl, rfl, hz, he, q⟩ := h
  obtain ⟨t, rfl⟩ := rx
  obtain ⟨t', rfl⟩ := ry
  obtain ⟨j, h1, h2, h3, h4, h5⟩ := atI_get he
  have hl : z.cps.toList.length = z.length := by simp [Str.length]
  rw [hl] at h1 h4 h5
  have hn := line63
  exact tail_any (typeIs_str s z t) slot_str_getitem.lookup (getItem_str (c := c) (by
    have e1 : decide (i < -(2 ^ 63 : Int)) = false := decide_eq_false (by omega)
    have e2 : decide (i ≥ 2 ^ 63) = false := decide_eq_false (by omega)
    rw [e1, e2, Bool.or_false]) (by rw [h1]; simpa using h2) ⟨.str ⟨#[c]⟩, H, I.tok _, ⟨_, rfl⟩, q⟩) hs
def rIx (K : PySem.W.Frag) : R2 := fun x y H Q => rIxL K x y H Q ∨ rIxT K x y H Q ∨ rIxS x y H Q
theorem ix_seq : IxR X (rIx X.K) := ix_list.or (ix_tup.or ix_str)
theorem mapSeq_set (its : List Value) (n j : Nat) (u : Value) : Obj.mapSeq (·.setIfInBounds j u) { cls := .type "list", data := .seq its.toArray n } = { cls := .type "list", data := .seq (its.set j u).toArray n } := by
  simp [Obj.mapSeq]
theorem Inv.lst {pins : List (Addr × Obj)} {σ : St} {H : Hp} {s : Shared} {p : Addr} {xs : List V} (I : Inv X pins σ H s) (h : H p = some (.lst xs)) :
    ∃ (its : List Value) (n : Nat), Vals xs its ∧ s.heap.get? p = some { cls := .type "list", data := .seq its.toArray n } ∧ xs.length ≤ sizeLine := by
  obtain ⟨z, its, n, r, e⟩ := I.hok p _ h
  exact ⟨its, n, r, e, z⟩
theorem Inv.lstUpd {pins : List (Addr × Obj)} {σ : St} {H : Hp} {s : Shared} {p : Addr} {xs ys : List V} {its its' : List Value} {n n' : Nat} {f : Obj → Obj} (I : Inv X pins σ H s) (h : H p = some (.lst xs))
    (ho : s.heap.get? p = some { cls := .type "list", data := .seq its.toArray n }) (hf : f { cls := .type "list", data := .seq its.toArray n } = { cls := .type "list", data := .seq its'.toArray n' }) (r : Vals ys its') (hz : ys.length ≤ sizeLine) (t : Nat) :
    Inv X pins σ (upd H p (.lst ys)) { s with heap := s.heap.update p f, toks := t } := by
  have e : (s.heap.update p f).get? p = some { cls := .type "list", data := .seq its'.toArray n' } := by
    rw [Heap.get?_update_self f ho (by rw [hf] <;> rfl), hf]
  refine I.write (x := p) (e := p) (by rw [h]; trivial) (.inl rfl) (fun b u hb q => (Heap.get?_update_other _ _ (Ne.symm hb)).trans q) ⟨_, e⟩ ?_
  exact ⟨hz, its', n', r, e⟩
def rSetL : V → V → V → Hp → (Hp → Prop) → Prop := fun o i v H Q => ∃ p xs k j, o = .ref p ∧ i = .int k ∧ H p = some (.lst xs) ∧ ixN xs.length k = some j ∧ Q (upd H p (.lst (xs.set j v)))
theorem set_list : PSet X rSetL := by
  intro pins s σ H o i v ov iv u Q I ro ri rv h
  obtain ⟨p, xs, k, j, rfl, rfl, hp, hj, q⟩ := h
  cases ro
  obtain ⟨t, rfl⟩ := ri
  obtain ⟨its, n, r, ho, hz⟩ := I.lst hp
  obtain ⟨h1, h2, h3, h4⟩ := ixN_seq hj
  have hl := r.length
  have hn := line63
  have I' : Inv X pins σ (upd H p (.lst (xs.set j v))) { s with heap := s.heap.update p (Obj.mapSeq (·.setIfInBounds j u)) } :=
    I.lstUpd hp ho (mapSeq_set its n j u) (r.set rv j) (by rw [List.length_set]; exact hz) s.toks
  by_cases h0 : 0 ≤ k
  · have hk : k.toNat = j := by
      rw [seqIndex_of h0 h4] at h1
      exact Option.some.inj h1
    exact PySem.W.ki_setAt ho h0 (by omega) (by rw [List.size_toArray, ← hl]; exact h4) (by rw [hk]; exact ⟨_, I', q⟩)
  · have hk : (k + (its.toArray.size : Int)).toNat = j := by
      rw [seqIndex_neg (by omega) h3] at h1
      rw [List.size_toArray, ← hl]
      exact Option.some.inj h1
    exact PySem.W.ki_setBack ho (by omega) (by rw [List.size_toArray, ← hl]; exact h3) (by omega) (by rw [hk]; exact ⟨_, I', q⟩)
theorem slice_bounds (lo hi : Option Int) (n : Nat) : (sliceBounds lo hi none n).1 = ((HT.sIx n 0 lo : Nat) : Int) ∧ (sliceBounds lo hi none n).2.1 = ((HT.sIx n n hi : Nat) : Int) ∧ (sliceBounds lo hi none n).2.2 = 1 := by
  refine ⟨?_, ?_, rfl⟩
  · cases lo with
    | none => simp [sliceBounds, HT.sIx]
    | some i =>
      simp only [sliceBounds, HT.sIx, Option.getD_none, show (1 : Int) > 0 by decide, if_true]
      by_cases h : i < 0
      · simp only [h, if_true] <;> omega
      · simp only [h, if_false] <;> omega
  · cases hi with
    | none => simp [sliceBounds, HT.sIx]
    | some i =>
      simp only [sliceBounds, HT.sIx, Option.getD_none, show (1 : Int) > 0 by decide, if_true]
      by_cases h : i < 0
      · simp only [h, if_true] <;> omega
      · simp only [h, if_false] <;> omega
theorem slicePick_cut (its : List Value) (lo hi : Option Int) : slicePick its.toArray lo hi none = ((its.drop (HT.sIx its.length 0 lo)).take (HT.sIx its.length its.length hi - HT.sIx its.length 0 lo)).toArray := by
  obtain ⟨h1, h2, h3⟩ := slice_bounds lo hi its.toArray.size
  unfold slicePick
  rw [h1, h2, h3]
  simp only [sliceRange_one, pick_run, List.size_toArray] <;> rfl
def rSlL (K : PySem.W.Frag) : V → Option Int → Option Int → Hp → VK → Prop := fun x lo hi H Q => ∃ a xs, x = .ref a ∧ SqL K H a xs ∧ ∀ p, H p = none → Q (.ref p) (upd H p (.lst (cutV xs lo hi)))
theorem sl_list : SlR X (rSlL X.K) := by
  intro pins s σ H x v vl vu lo hi sl Q I rx hs pl pu h
  obtain ⟨a, xs, rfl, hx, q⟩ := h
  cases rx
  obtain ⟨its, r, ht, hz⟩ := I.list hx
  have hlen := r.length
  refine ⟨"list", _, slot_list_getitem.lookup, ht.isList.typeIs, ?_⟩
  refine wpAny_getItem_list_slice ht.isList hs pl pu .none (by simp) ?_ (by rw [List.size_toArray] <;> omega)
  rw [slicePick_cut, ← hlen]
  refine ⟨.ref s.heap.objs.size, _, I.laid (t' := s.toks) (o := .lst (cutV xs lo hi)) (fun b ob q => Heap.get?_push_of_some _ q) (Nat.le_refl _) ?_, rfl, q _ (I.hok.fresh (Nat.le_refl _))⟩
  exact ⟨Nat.le_trans (cutV_length xs lo hi) hz, _, 0, (r.drop (HT.sIx xs.length 0 lo)).take (HT.sIx xs.length xs.length hi - HT.sIx xs.length 0 lo), Heap.get?_push_size _ rfl⟩
def flatV : V → Bool
  | .non => true
  | .bl _ => true
  | .int _ => true
  | .str _ => true
  | _ => false
def eqV : V → V → Bool
  | .non, .non => true
  | .bl a, .bl b => a == b
  | .bl a, .int b => (if a then 1 else 0) == b
  | .int a, .bl b => a == (if b then 1 else 0)
  | .int a, .int b => a == b
  | .str a, .str b => a == b
  | _, _ => false
theorem eqAt_V {A : Around} {s : Shared} {y x : V} {u v : Value} (ry : RelV y u) (rx : RelV x v) (fy : flatV y = true) (fx : flatV x = true) : SeqAt.EqAt A s u v (eqV y x) := by
  cases y with
  | non =>
    cases ry
    cases x with
    | non => cases rx; exact SeqAt.EqAt.same _
    | bl b => cases rx; exact SeqAt.EqAt.none_bool b
    | int b => obtain ⟨t, rfl⟩ := rx; exact SeqAt.EqAt.none_int b t
    | str b => obtain ⟨t, rfl⟩ := rx; exact SeqAt.EqAt.none_str b t
    | _ => exact absurd (show false = true from fx) Bool.false_ne_true
  | bl a =>
    cases ry
    cases x with
    | non => cases rx; exact SeqAt.EqAt.bool_none a
    | bl b => cases rx; exact SeqAt.EqAt.bool_bool a b
    | int b => obtain ⟨t, rfl⟩ := rx; exact SeqAt.EqAt.bool_int a b t
    | str b => obtain ⟨t, rfl⟩ := rx; exact SeqAt.EqAt.bool_str a b t
    | _ => exact absurd (show false = true from fx) Bool.false_ne_true
  | int a =>
    obtain ⟨t', rfl⟩ := ry
    cases x with
    | non => cases rx; exact SeqAt.EqAt.int_none a t'
    | bl b => cases rx; exact SeqAt.EqAt.int_bool a t' b
    | int b => obtain ⟨t, rfl⟩ := rx; exact SeqAt.EqAt.int_int a t' b t
    | str b => obtain ⟨t, rfl⟩ := rx; exact SeqAt.EqAt.int_str a t' b t
    | _ => exact absurd (show false = true from fx) Bool.false_ne_true
  | str a =>
    obtain ⟨t', rfl⟩ := ry
    cases x with
    | non => cases rx; exact SeqAt.EqAt.str_none a t'
    | bl b => cases rx; exact SeqAt.EqAt.str_bool a t' b
    | int b => obtain ⟨t, rfl⟩ := rx; exact SeqAt.EqAt.str_int a t' b t
    | str b => obtain ⟨t, rfl⟩ := rx; exact SeqAt.EqAt.str_str a t' b t
    | _ => exact absurd (show false = true from fx) Bool.false_ne_true
  | _ => exact absurd (show false = true from fy) Bool.false_ne_true
def eqU (x : V) (u : Value) : Bool := match u with
  | .none => eqV .non x
  | .bool b => eqV (.bl b) x
  | .int i _ => eqV (.int i) x
  | .str z _ => eqV (.str z) x
  | _ => false
theorem eqU_of {x y : V} {u : Value} (r : RelV y u) (f : flatV y = true) : eqU x u = eqV y x := by
  cases y with
  | non => cases r; rfl
  | bl b => cases r; rfl
  | int i => obtain ⟨t, rfl⟩ := r; rfl
  | str z => obtain ⟨t, rfl⟩ := r; rfl
  | _ => exact absurd (show false = true from f) Bool.false_ne_true
theorem any_eqU {x : V} : ∀ {xs : List V} {us : List Value}, Vals xs us → xs.all flatV = true → us.any (eqU x) = xs.any fun y => eqV y x
  | _, _, .nil, _ => rfl
  | y :: xs, u :: us, .cons r t, f => by
    rw [List.all_cons, Bool.and_eq_true] at f
    rw [List.any_cons, List.any_cons, eqU_of r f.1, any_eqU t f.2]
theorem mem_eqAt {A : Around} {s : Shared} {x : V} {v : Value} (rx : RelV x v) (fx : flatV x = true) : ∀ {xs : List V} {us : List Value}, Vals xs us → xs.all flatV = true → ∀ u ∈ us, SeqAt.EqAt A s u v (eqU x u)
  | _, _, .nil, _ => fun u hu => by cases hu
  | y :: xs, u :: us, .cons r t, f => fun u' hu => by
    rw [List.all_cons, Bool.and_eq_true] at f
    rcases List.mem_cons.mp hu with rfl | hu
    · rw [eqU_of r f.1]; exact eqAt_V r rx f.1 fx
    · exact mem_eqAt rx fx t f.2 u' hu
def inV (x : V) (xs : List V) : Bool := xs.any fun y => eqV y x
def rIn (K : PySem.W.Frag) (neg : Bool) : R2 := fun x y H Q => ∃ p xs, y = .ref p ∧ (SqL K H p xs ∨ SqT K H p xs) ∧ flatV x = true ∧ xs.all flatV = true ∧ Q (.bl (if neg then !inV x xs else inV x xs)) H
theorem op_in_seq : OpR X (compareOp .In) (rIn X.K false) := by
  intro pins s σ H x y v u Q I rx ry h
  obtain ⟨p, xs, rfl, hq, fx, fs, q⟩ := h
  cases ry
  rcases hq with hq | hq
  · obtain ⟨its, r, pl, hz⟩ := I.list hq
    refine SeqAt.in_listAt (eqU x) pl.isList (fun w hw => mem_eqAt rx fx r fs w (by simpa using hw)) ⟨.bl _, H, I, rfl, ?_⟩
    rw [show its.toArray.any (eqU x) = its.any (eqU x) by simp, any_eqU r fs]
    exact q
  · obtain ⟨its, r, pl, hz⟩ := I.tuple hq
    refine SeqAt.in_tupleAt (eqU x) pl (fun w hw => mem_eqAt rx fx r fs w (by simpa using hw)) ⟨.bl _, H, I, rfl, ?_⟩
    rw [show its.toArray.any (eqU x) = its.any (eqU x) by simp, any_eqU r fs]
    exact q
theorem op_notIn_seq : OpR X (compareOp .NotIn) (rIn X.K true) := by
  intro pins s σ H x y v u Q I rx ry h
  obtain ⟨p, xs, rfl, hq, fx, fs, q⟩ := h
  cases ry
  rcases hq with hq | hq
  · obtain ⟨its, r, pl, hz⟩ := I.list hq
    refine SeqAt.notIn_listAt (eqU x) pl.isList (fun w hw => mem_eqAt rx fx r fs w (by simpa using hw)) ⟨.bl _, H, I, rfl, ?_⟩
    rw [show its.toArray.any (eqU x) = its.any (eqU x) by simp, any_eqU r fs]
    exact q
  · obtain ⟨its, r, pl, hz⟩ := I.tuple hq
    refine SeqAt.notIn_tupleAt (eqU x) pl (fun w hw => mem_eqAt rx fx r fs w (by simpa using hw)) ⟨.bl _, H, I, rfl, ?_⟩
    rw [show its.toArray.any (eqU x) = its.any (eqU x) by simp, any_eqU r fs]
    exact q
theorem call_len_seq : CallR X (.builtin "len") (fun xs H Q => ∃ p ys, xs = [.ref p] ∧ (SqL X.K H p ys ∨ SqT X.K H p ys) ∧ Q (.int ys.length) H) := by
  intro pins s σ H xs us Q I r h
  obtain ⟨p, ys, rfl, hq, q⟩ := h
  obtain ⟨u, rfl, rx⟩ := vals1 r
  cases rx
  have hn := line63
  rcases hq with hq | hq
  · obtain ⟨its, r', pl, hz⟩ := I.list hq
    have hlen := r'.length
    exact Calls.call_len_list pl.isList (by simp only [List.size_toArray] <;> omega) ⟨.int ys.length, H, I.tok _, ⟨s.toks + 1, by rw [List.size_toArray, hlen]⟩, q⟩
  · obtain ⟨its, r', pl, hz⟩ := I.tuple hq
    have hlen := r'.length
    exact len_tuple pl (by simp only [List.size_toArray] <;> omega) ⟨.int ys.length, H, I.tok _, ⟨s.toks + 1, by rw [List.size_toArray, hlen]⟩, q⟩
theorem call_len_str : CallR X (.builtin "len") (fun xs H Q => ∃ z, xs = [.str z] ∧ z.length ≤ sizeLine ∧ Q (.int z.length) H) := by
  intro pins s σ H xs us Q I r h
  obtain ⟨z, rfl, hz, q⟩ := h
  obtain ⟨u, rfl, t, rfl⟩ := vals1 r
  have hn := line63
  exact len_str (by omega) ⟨.int z.length, H, I.tok _, ⟨_, rfl⟩, q⟩
theorem call_list_of : CallR X (.type "list") (fun xs H Q => ∃ p ys, xs = [.ref p] ∧ (SqL X.K H p ys ∨ SqT X.K H p ys) ∧ ∀ l, H l = none → Q (.ref l) (upd H l (.lst ys))) := by
  intro pins s σ H xs us Q I r h
  obtain ⟨p, ys, rfl, hq, q⟩ := h
  obtain ⟨u, rfl, rx⟩ := vals1 r
  cases rx
  have fin : ∀ (its : List Value), Vals ys its → ys.length ≤ sizeLine → ∀ (h' : Heap) (c' : Nat), (∀ b o', s.heap.get? b = some o' → h'.get? b = some o') →
      h'.get? s.heap.objs.size = some { cls := .type "list", dict := none, data := .seq its.toArray c', slots := #[] } → EP X pins σ Q (.ref s.heap.objs.size) { s with heap := h' } := fun its r' hz h' c' kp e =>
    ⟨.ref s.heap.objs.size, _, I.laid (t' := s.toks) kp (Nat.le_refl _) (show ObjOk X.prog X.w _ h' _ (.lst ys) from ⟨hz, its, c', r', e⟩), rfl, q _ (I.hok.fresh (Nat.le_refl _))⟩
  rcases hq with hq | hq
  · obtain ⟨its, r', pl, hz⟩ := I.list hq
    have hlen := r'.length
    obtain ⟨o, ho, hc, n, hd⟩ := pl.isList
    exact call_list_seq p (.inl rfl) ho hc hd (fun h' c' kp e => fin its r' hz h' c' kp e) (by simp only [List.size_toArray] <;> omega)
  · obtain ⟨its, r', pl, hz⟩ := I.tuple hq
    have hlen := r'.length
    obtain ⟨o, ho, hc, n, hd⟩ := pl
    exact call_list_seq p (.inr rfl) ho hc hd (fun h' c' kp e => fin its r' hz h' c' kp e) (by simp only [List.size_toArray] <;> omega)
def tyV (K : PySem.W.Frag) (T : String) (x : V) (H : Hp) : Prop := match x with
  | .str _ => T = "str"
  | .int _ => T = "int"
  | .ref p => (T = "list" ∧ ∃ xs, SqL K H p xs) ∨ (T = "tuple" ∧ ∃ o, K.lookup p = some o ∧ o.cls = .type "tuple" ∧ o.dict = none) ∨
      (T = "dict" ∧ ((∃ kvs, H p = some (.dK kvs)) ∨ ∃ kvs, H p = some (.dT kvs))) ∨ (T = "set" ∧ ∃ S n, H p = some (.set S n))
  | _ => False
theorem tyV_is {pins : List (Addr × Obj)} {σ : St} {H : Hp} {s : Shared} {T : String} {x : V} {v : Value} (I : Inv X pins σ H s) (r : RelV x v) (ty : tyV X.K T x H) :
    s.TypeIs v T ∧ ∀ a, v = .ref a → ∃ ob, s.heap.get? a = some ob ∧ ob.dict = none := by
  cases x with
  | str z =>
    obtain ⟨t, rfl⟩ := r
    cases (show T = "str" from ty)
    exact ⟨typeIs_str s z t, fun _ e => nomatch e⟩
  | int i =>
    obtain ⟨t, rfl⟩ := r
    cases (show T = "int" from ty)
    exact ⟨typeIs_int s i t, fun _ e => nomatch e⟩
  | ref p =>
    cases r
    rcases ty with ⟨rfl, xs, hq⟩ | ⟨rfl, o, hk, hc, hd⟩ | ⟨rfl, hk⟩ | ⟨rfl, S, n, hk⟩
    · obtain ⟨its, _, pl, _⟩ := I.list hq
      refine ⟨pl.isList.typeIs, fun a e => ?_⟩
      cases e
      obtain ⟨o, n, e, c, hd, _⟩ := pl
      exact ⟨o, e, hd⟩
    · refine ⟨⟨o, I.kIn p o hk, hc⟩, fun a e => ?_⟩
      cases e
      exact ⟨o, I.kIn _ o hk, hd⟩
    · have z : ∃ o, s.heap.get? p = some o ∧ o.ExactDict := by
        rcases hk with ⟨kvs, hk⟩ | ⟨kvs, hk⟩
        · obtain ⟨_, _, _, _, o, _, _, e, ex, _⟩ := I.hok p _ hk
          exact ⟨o, e, ex⟩
        · obtain ⟨_, _, _, _, o, _, _, e, ex, _⟩ := I.hok p _ hk
          exact ⟨o, e, ex⟩
      obtain ⟨o, e, ex⟩ := z
      refine ⟨⟨o, e, ex.1⟩, fun a e2 => ?_⟩
      cases e2
      exact ⟨o, e, ex.2.1⟩
    · obtain ⟨o, _, _, _, e, ex, _⟩ := I.hok p _ hk
      refine ⟨⟨o, e, ex.1⟩, fun a e2 => ?_⟩
      cases e2
      exact ⟨o, e, ex.2.1⟩
  | _ => exact False.elim ty
def tBM0 (K : PySem.W.Frag) (T : String) (r : V → List V → Hp → VK → Prop) (to : TE) : TE := fun σ H Q => to σ H fun x H1 => tyV K T x H1 ∧ r x [] H1 Q
def tBM (K : PySem.W.Frag) (T : String) (r : V → List V → Hp → VK → Prop) (to : TE) (t : TA) : TE := fun σ H Q => to σ H fun x H1 => tyV K T x H1 ∧ t σ H1 fun xs H2 => r x xs H2 Q
variable {o e : Expr} {es : List Expr} {to : TE} {t : TA} {name : Str} {apos cpos : Pos} {T id : String} {r : V → List V → Hp → VK → Prop}
theorem pe_bm0 (pa : PlainAttrs T) (slot : Slot T name id) (hty : typeOf (.builtin id) = pure (.type "method_descriptor")) (hm : MtR X id r) (ho : PE X o to)
    (hbase : attributeBase o name X.env (eval o X.env) = eval o X.env := by rfl) (hline : (apos.endLine == cpos.line) = true := by rfl) : PE X (.Call (.Attribute o name apos) [] [] cpos) (tBM0 X.K T r to) := by
  intro pins s σ H Q I h
  refine wpAny_Call_method0_late hbase hline (thn (ho pins s σ H _ I h) fun v s1 ⟨x, H1, I1, r1, ty, q1⟩ => ?_)
  obtain ⟨h1, h2⟩ := tyV_is I1 r1 ty
  exact ⟨T, id, pa, slot, hty, h1, h2, Calls.callWith_builtin rfl (PySem.evalArgs_none (hm pins s1 σ H1 x [] v [] Q I1 r1 .nil q1))⟩
theorem pe_bm (pa : PlainAttrs T) (slot : Slot T name id) (hty : typeOf (.builtin id) = pure (.type "method_descriptor")) (hm : MtR X id r) (ho : PE X o to) (ha : PA X (e :: es) t)
    (hbase : attributeBase o name X.env (eval o X.env) = eval o X.env := by rfl)
    (hfew : ((backTo cpos (starEach (e :: es) X.env)).all (fun x => !x.1) && (backToKw cpos (keywordEach [] X.env)).all (fun x => x.1.isSome)
      && decide ((e :: es).length + ([] : List Keyword).length + (if ([] : List Keyword).isEmpty then 0 else 1) < 30)) = true := by rfl)
    (hline : (apos.endLine == cpos.line) = true := by rfl) (hs : starEach (e :: es) X.env = (false, eval e X.env) :: starEach es X.env := by rfl) (hplain : (backTo cpos (starEach es X.env)).any (·.1) = false := by rfl) :
    PE X (.Call (.Attribute o name apos) (e :: es) [] cpos) (tBM X.K T r to t) := by
  intro pins s σ H Q I h
  refine wpAny_Call_method_late hbase hfew hline rfl (thn (ho pins s σ H _ I h) fun v s1 ⟨x, H1, I1, r1, ty, q1⟩ => ?_)
  obtain ⟨h1, h2⟩ := tyV_is I1 r1 ty
  refine ⟨T, id, pa, slot, hty, h1, h2, ?_⟩
  have hA := ha cpos pins s1 σ H1 _ I1 q1
  rw [hs] at hA ⊢
  refine Calls.callWith_builtin (by show (false || (backTo cpos (starEach es X.env)).any (·.1)) = false; rw [hplain] <;> rfl) (Calls.evalArgs_plain ?_)
  exact thn hA fun us s2 ⟨vs, H2, I2, r2, q2⟩ => hm pins s2 σ H2 x vs v us Q I2 r1 r2 q2
end
end L2
namespace L2
open PySem PySem.Spec PyProof.Rows
def MtM (X : Cx) (id : String) (r : V → List V → Hp → VK → Prop) : Prop :=
  ∀ (pins : List (Addr × Obj)) (s : Shared) (σ : St) (H : Hp) (x : V) (xs : List V) (v : Value) (us : List Value) (Q : VK), Inv X pins σ H s → RelV x v → Vals xs us → r x xs H Q →
    wpAny (model X.prog X.w) X.A (call (.builtin id) (v :: us)) (EP X pins σ Q) X.xe s
theorem Vals.one : ∀ {x : V} {us : List Value}, Vals [x] us → ∃ u, us = [u] ∧ RelV x u
  | _, _, .cons r .nil => ⟨_, rfl, r⟩
theorem Vals.zero : ∀ {us : List Value}, Vals [] us → us = []
  | _, .nil => rfl
theorem Vals.dropLast {xs : List V} {us : List Value} (h : Vals xs us) : Vals xs.dropLast us.dropLast := by
  induction h with
  | nil => exact .nil
  | cons r t ih =>
    cases t with
    | nil => exact .nil
    | cons q t' => exact .cons r ih
theorem erase_last {α : Type} (l : List α) : l.eraseIdx (l.length - 1) = l.dropLast := by
  induction l with
  | nil => rfl
  | cons a r ih =>
    cases r with
    | nil => rfl
    | cons b r =>
      have e : (a :: b :: r).length - 1 = ((b :: r).length - 1) + 1 := by
        have h1 : (a :: b :: r).length = r.length + 2 := rfl
        have h2 : (b :: r).length = r.length + 1 := rfl
        omega
      rw [e, List.eraseIdx_cons_succ, ih]
      all_goals rfl
section
variable {X : Cx} {pins : List (Addr × Obj)} {σ : St} {H : Hp} {s : Shared} {l b : Addr} {xs ys zs : List V}
theorem Inv.lset {its its' : List Value} {n : Nat} {f : Array Value → Array Value} {t' : Nat} (I : Inv X pins σ H s) (hH : H l = some (.lst xs))
    (e : s.heap.get? l = some { cls := .type "list", data := .seq its.toArray n }) (hf : f its.toArray = its'.toArray) (hv : Vals ys its') (hz : ys.length ≤ sizeLine) :
    Inv X pins σ (upd H l (.lst ys)) { s with heap := s.heap.update l (Obj.mapSeq f), toks := t' } := by
  have q := PySem.IsL.update e f
  rw [hf] at q
  refine I.write (x := l) (e := l) (by rw [hH]; exact trivial) (.inl rfl) (fun b' u hb hu => (Heap.get?_update_other s.heap (Obj.mapSeq f) (Ne.symm hb)).trans hu) ⟨_, q⟩ ?_
  exact ⟨hz, its', _, hv, q⟩
theorem Inv.lnew {its : List Value} {t' : Nat} (I : Inv X pins σ H s) (hv : Vals ys its) (hz : ys.length ≤ sizeLine) :
    Inv X pins σ (upd H s.heap.objs.size (.lst ys)) { s with heap := s.heap.push { cls := .type "list", data := .seq its.toArray }, toks := t' } :=
  I.laid (fun _ _ q => Heap.get?_push_of_some _ q) (Nat.le_refl _) ⟨hz, its, 0, hv, Heap.get?_push_size _ rfl⟩
theorem Inv.fresh (I : Inv X pins σ H s) : H s.heap.objs.size = none := I.hok.fresh (Nat.le_refl _)
theorem Inv.lstM (I : Inv X pins σ H s) (hH : H l = some (.lst xs)) : xs.length ≤ sizeLine ∧ ∃ (its : List Value) (n : Nat), Vals xs its ∧ xs.length = its.length ∧ s.heap.get? l = some { cls := .type "list", data := .seq its.toArray n } := by
  obtain ⟨z, its, n, r, e⟩ := I.hok l _ hH
  exact ⟨z, its, n, r, r.length, e⟩
theorem notLongL {n : Nat} (h : n ≤ sizeLine) : Builtin.List.listTooLong n = false := by
  unfold Builtin.List.listTooLong
  exact decide_eq_false (by omega)
end
section
variable {X : Cx}
def rAppend : V → List V → Hp → VK → Prop := fun x vs H Q => ∃ l xs y, x = .ref l ∧ vs = [y] ∧ H l = some (.lst xs) ∧ xs.length < sizeLine ∧ Q .non (upd H l (.lst (xs ++ [y])))
theorem mt_append : MtM X "list.append" rAppend := by
  intro pins s σ H x vs v us Q I rx rv h
  obtain ⟨l, xs, y, rfl, rfl, hH, hz, q⟩ := h
  cases rx
  obtain ⟨u, rfl, ru⟩ := rv.one
  obtain ⟨z, its, n, r, hl, e⟩ := I.lstM hH
  refine call_meets F.slot_list_append ⟨_, e, rfl⟩ F.entry_list_append (F.args_list_append_2 _ _) (PySem.list_append l its.toArray n u (by rw [List.size_toArray]; omega)) ⟨e, ?_⟩
  refine ⟨.non, _, I.lset (its' := its ++ [u]) hH e (by simp) (r.append (.cons ru .nil)) ?_, rfl, q⟩
  rw [List.length_append, List.length_singleton]
  omega
def rExtend : V → List V → Hp → VK → Prop := fun x vs H Q => ∃ l b xs zs, x = .ref l ∧ vs = [.ref b] ∧ H l = some (.lst xs) ∧ H b = some (.lst zs) ∧ xs.length + zs.length ≤ sizeLine ∧ Q .non (upd H l (.lst (xs ++ zs)))
theorem mt_extend : MtM X "list.extend" rExtend := by
  intro pins s σ H x vs v us Q I rx rv h
  obtain ⟨l, b, xs, zs, rfl, rfl, hH, hB, hz, q⟩ := h
  cases rx
  obtain ⟨u, rfl, ru⟩ := rv.one
  cases ru
  obtain ⟨z, its, n, r, hl, e⟩ := I.lstM hH
  obtain ⟨z2, its2, n2, r2, hl2, e2⟩ := I.lstM hB
  have hsz : its.toArray.size + its2.toArray.size ≤ sizeLine := by rw [List.size_toArray, List.size_toArray]; omega
  have hlong : ¬ (!its.toArray.isEmpty && Builtin.List.listTooLong (its.toArray.size + its2.toArray.size)) = true := by
    rw [notLongL hsz, Bool.and_false]
    exact Bool.false_ne_true
  refine call_meets F.slot_list_extend ⟨_, e, rfl⟩ F.entry_list_extend (F.args_list_extend_2 _ _)
    (AutoSeq1.list_extend_list_list_0 l its.toArray n b its2.toArray n2 hlong (by rw [List.size_toArray]; omega) (by omega)) ⟨e, e2, ?_⟩
  refine ⟨.non, _, I.lset (its' := its ++ its2) hH e (by simp) (r.append r2) ?_, rfl, q⟩
  rw [List.length_append]
  omega
def rPop : V → List V → Hp → VK → Prop := fun x vs H Q => ∃ l xs y, x = .ref l ∧ vs = [] ∧ H l = some (.lst xs) ∧ xs[xs.length - 1]? = some y ∧ Q y (upd H l (.lst xs.dropLast))
theorem mt_pop : MtM X "list.pop" rPop := by
  intro pins s σ H x vs v us Q I rx rv h
  obtain ⟨l, xs, y, rfl, rfl, hH, hy, q⟩ := h
  cases rx
  have hus := rv.zero
  subst hus
  obtain ⟨z, its, n, r, hl, e⟩ := I.lstM hH
  obtain ⟨u, hu, ru⟩ := r.get hy
  have hy' : its.toArray[its.toArray.size - 1]? = some u := by
    show its.toArray[its.length - 1]? = some u
    rw [← Array.getElem?_toList, ← hl]
    exact hu
  refine call_meets F.slot_list_pop ⟨_, e, rfl⟩ F.entry_list_pop (F.args_list_pop_1 _) (MeetsSeq.list_pop_last l its.toArray n u hy' (by rw [List.size_toArray]; omega)) ⟨e, ?_⟩
  refine ⟨y, _, I.lset (its' := its.dropLast) hH e ?_ r.dropLast ?_, ru, q⟩
  · show its.toArray.eraseIdxIfInBounds (its.toArray.size - 1) = its.dropLast.toArray
    rw [List.size_toArray, List.eraseIdxIfInBounds_toArray, erase_last]
  · rw [List.length_dropLast]
    omega
def rCat : R2 := fun x y H Q => ∃ l b xs zs, x = .ref l ∧ y = .ref b ∧ H l = some (.lst xs) ∧ H b = some (.lst zs) ∧ xs.length + zs.length ≤ sizeLine ∧ ∀ p, H p = none → Q (.ref p) (upd H p (.lst (xs ++ zs)))
theorem op_cat : OpR X (binaryOp .Add) rCat := by
  intro pins s σ H x y v u Q I rx ry h
  obtain ⟨l, b, xs, zs, rfl, rfl, hH, hB, hz, q⟩ := h
  cases rx
  cases ry
  obtain ⟨z, its, n, r, hl, e⟩ := I.lstM hH
  obtain ⟨z2, its2, n2, r2, hl2, e2⟩ := I.lstM hB
  refine PySem.P.add_list e e2 ?_ (by rw [List.size_toArray, List.size_toArray]; omega)
  have ea : its.toArray ++ its2.toArray = (its ++ its2).toArray := by simp
  rw [ea]
  exact ⟨.ref _, _, I.lnew (t' := s.toks) (r.append r2) (by rw [List.length_append]; omega), rfl, q _ I.fresh⟩
end
section
variable {prog : Program} {w : World} {A : Around} {E : Value → Shared → Prop} {s : Shared}
end
section
variable {X : Cx}
end
end L2
namespace L2
open PySem PySem.Spec PyProof.Rows
theorem Vals.ints : ∀ {ns : List Int} {us : List Value}, Vals (ns.map V.int) us → IntsAre us ns
  | [], us, h => by
    rw [List.map_nil] at h
    cases h
    exact IntsAre.nil
  | n :: ns, us, h => by
    rw [List.map_cons] at h
    cases h with
    | cons r t =>
      obtain ⟨k, rfl⟩ := r
      exact IntsAre.cons n k (Vals.ints t)
theorem Vals.bls : ∀ {bs : List Bool} {us : List Value}, Vals (bs.map V.bl) us → us = bs.map Value.bool
  | [], us, h => by
    rw [List.map_nil] at h
    cases h
    rfl
  | b :: bs, us, h => by
    rw [List.map_cons] at h
    cases h with
    | cons r t =>
      cases r
      rw [Vals.bls t, List.map_cons]
theorem Vals.ref1 {a : Addr} {us : List Value} (r : Vals [V.ref a] us) : us = [Value.ref a] := by
  cases r with
  | cons r t =>
    cases t
    cases r
    rfl
section
variable {prog : Program} {w : World} {A : Around} {E : Value → Shared → Prop} {s : Shared} {l : Addr} {its : List Value} {ns : List Int} {Q : Value → Shared → Prop}
theorem sum_raw (hh : A.handled = none) (hl : s.heap.IsList l its.toArray) (hi : IntsAre its ns)
    (h : ∀ h' tk t', (∀ b o, s.heap.get? b = some o → h'.get? b = some o) → Q (.int ns.sum t') { s with heap := h', toks := tk }) : wpAny (model prog w) A (call (.builtin "sum") [.ref l]) Q E s := by
  obtain ⟨xs, e⟩ := hi.allInts.items
  have hn : numsOf (intItems xs).toList = ns := by rw [← e]; exact hi.numsOf
  rw [nums_intItems] at hn
  rw [e] at hl
  refine PySem.sum_intListG hh hl fun h' tk t' hk => ?_
  have := h h' tk t' hk
  rw [preSum_eq, List.take_of_length_le (by simp), hn]; exact this
end
section
variable {X : Cx}
def rSum (K : PySem.W.Frag) : List V → Hp → VK → Prop := fun vs H Q => ∃ (a : Addr) (ns : List Int), vs = [V.ref a] ∧ SqL K H a (ns.map V.int) ∧ Q (.int ns.sum) H
theorem cr_sum (hc : X.calm = true) : CallR X (.builtin "sum") (rSum X.K) := by
  intro pins s σ H vs us Q I r h
  obtain ⟨a, ns, rfl, hs, q⟩ := h
  obtain ⟨its, rv, hl, _⟩ := I.list hs
  rw [Vals.ref1 r]
  exact sum_raw (I.ok.hd hc) hl.isList rv.ints fun h' tk t' hk => ⟨.int _, H, I.kept hk, ⟨_, rfl⟩, q⟩
end
section
variable {X : Cx}
end
section
variable {X : Cx}
end
theorem iter_any {prog : Program} {w : World} {A : Around} {E : Value → Shared → Prop} {s : Shared} {l : Addr} {items : Array Value} {Q : Value → Shared → Prop} (hl : s.heap.IsList l items)
    (h : ∀ s₂ : Shared, s₂ = { s with heap := s.heap.push { cls := .type "list_iterator", data := .fields #[.ref l, .int 0 0] } } →
      (s₂.heap.IsListIter s.heap.objs.size l 0 ∧ s₂.heap.IsList l items) → l ≠ s.heap.objs.size → Q (.ref s.heap.objs.size) s₂) : wpAny (model prog w) A (pyIter (.ref l)) Q E s := by
  have hlt : l < s.heap.objs.size := by obtain ⟨_, e, _⟩ := hl; exact Heap.lt_size e
  exact wpAny_pyIter_list hl (h _ rfl ⟨⟨_, Heap.get?_push_size _ rfl, rfl, rfl⟩, hl.push _⟩ (Nat.ne_of_lt hlt))
theorem truth_bools {prog : Program} {w : World} {A : Around} {bs : List Bool} {its : List Value} (e : its = bs.map Value.bool) :
    TruthOf prog w A (fun i v => its.toArray[i]? = some v) (fun i => bs.getD i false) := fun i v s Q E hv hq => by
  have hv' : its[i]? = some v := by simpa using hv
  rw [e, List.getElem?_map] at hv'
  obtain ⟨b, hb, rfl⟩ := Option.map_eq_some_iff.mp hv'
  have hg : bs.getD i false = b := by rw [List.getD_eq_getElem?_getD, hb] <;> rfl
  have hq' : Q (bs.getD i false) s := hq
  rw [hg] at hq'
  exact wpAny_truthy_bool hq'
theorem any_range : ∀ bs : List Bool, (List.range bs.length).any (fun i => bs.getD i false) = bs.any id
  | [] => rfl
  | b :: bs => by
    rw [List.length_cons, List.range_succ_eq_map, List.any_cons, List.any_map, List.any_cons, ← any_range bs]
    all_goals rfl
section
variable {X : Cx}
def rAny (K : PySem.W.Frag) : List V → Hp → VK → Prop := fun vs H Q => ∃ (a : Addr) (bs : List Bool), vs = [V.ref a] ∧ SqL K H a (bs.map V.bl) ∧ Q (.bl (bs.any id)) H
theorem cr_any (hc : X.calm = true) : CallR X (.builtin "any") (rAny X.K) := by
  intro pins s σ H vs us Q I r h
  obtain ⟨a, bs, rfl, hs, q⟩ := h
  obtain ⟨its, rv, hl, _⟩ := I.list hs
  rw [Vals.ref1 r]
  have hb := rv.bls
  refine call_any_walk (iter_any hl.isList fun s₂ e2 st hne => ?_)
  subst e2
  refine ⟨_, _, _, _, _, _, _, rfl, Walks.list (A := X.A.in1) (I.ok.hd hc) _ a hne its.toArray, st, truth_bools hb, fun h' tk hk => ?_⟩
  refine ⟨.bl _, H, I.kept fun b o eo => hk b o (fun hmem => ?_) (Heap.get?_push_of_some _ eo), ?_, q⟩
  · rcases List.mem_cons.mp hmem with e1 | hmem
    · exact absurd (e1 ▸ Heap.lt_size eo) (Nat.lt_irrefl _)
    · cases hmem
  · show Value.bool _ = Value.bool _
    rw [← any_range, hb, List.size_toArray, List.length_map]
end
mutual
inductive Dp (K : PySem.W.Frag) (H : Hp) : V → PyData → Prop
  | non : Dp K H .non .none
  | bl (b : Bool) : Dp K H (.bl b) (.bool b)
  | int (i : Int) : Dp K H (.int i) (.int i)
  | str (x : Str) : Dp K H (.str x) (.str x)
  | lst {a : Addr} {xs : List V} {ds : List PyData} : SqL K H a xs → DpAll K H xs ds → Dp K H (.ref a) (.list ds)
  | tup {a : Addr} {xs : List V} {ds : List PyData} : SqT K H a xs → DpAll K H xs ds → Dp K H (.ref a) (.tuple ds)
inductive DpAll (K : PySem.W.Frag) (H : Hp) : List V → List PyData → Prop
  | nil : DpAll K H [] []
  | cons {v : V} {vs : List V} {d : PyData} {ds : List PyData} : Dp K H v d → DpAll K H vs ds → DpAll K H (v :: vs) (d :: ds)
end
section
variable {X : Cx} {pins : List (Addr × Obj)} {σ : St} {H : Hp} {s : Shared}
mutual
theorem Dp.reads (I : Inv X pins σ H s) : ∀ (d : PyData) (v : V) (u : Value), Dp X.K H v d → RelV v u → ∃ as, Reads s.heap u d as
  | .none, _, _, h, r => by
    cases h
    cases r
    exact ⟨_, Reads.none⟩
  | .bool b, _, _, h, r => by
    cases h
    cases r
    exact ⟨_, Reads.bool b⟩
  | .int i, _, _, h, r => by
    cases h
    obtain ⟨t, rfl⟩ := r
    exact ⟨_, Reads.int i t⟩
  | .str x, _, _, h, r => by
    cases h
    obtain ⟨t, rfl⟩ := r
    exact ⟨_, Reads.str x t⟩
  | .list ds, _, _, h, r => by
    cases h with
    | lst hs ha =>
      cases r
      obtain ⟨its, rv, ⟨o, n, ho, hc, _, hd⟩, _⟩ := I.list hs
      obtain ⟨as, hr⟩ := Dp.readsAll I ds _ its ha rv
      exact ⟨_, Reads.list ho hc hd hr⟩
  | .tuple ds, _, _, h, r => by
    cases h with
    | tup hs ha =>
      cases r
      obtain ⟨its, rv, ⟨o, ho, hc, n, hd⟩, _⟩ := I.tuple hs
      obtain ⟨as, hr⟩ := Dp.readsAll I ds _ its ha rv
      exact ⟨_, Reads.tuple ho hc hd hr⟩
  | .dict _, _, _, h, _ => by cases h
theorem Dp.readsAll (I : Inv X pins σ H s) : ∀ (ds : List PyData) (vs : List V) (us : List Value), DpAll X.K H vs ds → Vals vs us → ∃ as, ReadsAll s.heap us ds as
  | [], _, _, h, r => by
    cases h
    cases r
    exact ⟨_, ReadsAll.nil⟩
  | d :: ds, _, _, h, r => by
    cases h with
    | cons h1 h2 =>
      cases r with
      | cons r1 r2 =>
        obtain ⟨as, q1⟩ := Dp.reads I d _ _ h1 r1
        obtain ⟨bs, q2⟩ := Dp.readsAll I ds _ _ h2 r2
        exact ⟨_, ReadsAll.cons q1 q2⟩
end
end
section
variable {X : Cx}
def rEqD (K : PySem.W.Frag) : R2 := fun x y H Q => ∃ d e, Dp K H x d ∧ Dp K H y e ∧ SeqAt.shaped d = true ∧ SeqAt.shaped e = true ∧ Q (.bl (PyData.eqv d e)) H
def rNeD (K : PySem.W.Frag) : R2 := fun x y H Q => ∃ d e, Dp K H x d ∧ Dp K H y e ∧ SeqAt.shaped d = true ∧ SeqAt.shaped e = true ∧ Q (.bl (!PyData.eqv d e)) H
theorem op_eqD (hu : X.A.units + 64 < cLine) : OpR X (compareOp .Eq) (rEqD X.K) := by
  intro pins s σ H x y v u Q I rx ry h
  obtain ⟨d, e, hd, he, sd, se, q⟩ := h
  obtain ⟨as, r1⟩ := Dp.reads I d x v hd rx
  obtain ⟨bs, r2⟩ := Dp.reads I e y u he ry
  exact SeqAt.compareEq_shaped r1 r2 sd se hu ⟨.bl _, H, I, rfl, q⟩
theorem op_neD (hu : X.A.units + 64 < cLine) : OpR X (compareOp .NotEq) (rNeD X.K) := by
  intro pins s σ H x y v u Q I rx ry h
  obtain ⟨d, e, hd, he, sd, se, q⟩ := h
  obtain ⟨as, r1⟩ := Dp.reads I d x v hd rx
  obtain ⟨bs, r2⟩ := Dp.reads I e y u he ry
  exact SeqAt.compareNe_shaped r1 r2 sd se hu ⟨.bl _, H, I, rfl, q⟩
end
end L2
namespace L2
open PySem PySem.Spec PyProof.Rows
abbrev CellAt (h : Heap) (c : Addr) (v : Option Value) : Prop := h.IsCell c v
def relS (scope sc : Scope) : Scope :=
  { scope with names := scope.names.map fun (n, k) => if (k == .free && sc.kind == .function && sc.names.lookup n == some .cell) then (n, .cell) else (n, k) }
def cloFrom (cells : List (Str × Addr)) : List (Str × NameKind) → List (Str × Addr) → List (Str × Addr)
  | [], acc => acc
  | (n, k) :: r, acc => if k == .free then cloFrom cells r ((n, (cells.lookup n).getD 0) :: acc) else cloFrom cells r acc
theorem closure_loop (env : Env) (f : Str × NameKind → List (Str × Addr) → Sem (ForInStep (List (Str × Addr))))
    (hf : ∀ n k c, f (n, k) c = if k == .free then (do let a ← cellOf env n; pure (.yield ((n, a) :: c))) else pure (.yield c)) :
    ∀ (names : List (Str × NameKind)) (acc : List (Str × Addr)), (∀ y ∈ names, y.2 = .free → ∃ c, env.cells.lookup y.1 = some c) → forIn names acc f = pure (cloFrom env.cells names acc)
  | [], acc, _ => by rw [List.forIn_nil]; rfl
  | (n, k) :: r, acc, h => by
    rw [List.forIn_cons, hf]
    have ih := fun acc => closure_loop env f hf r acc fun y hy => h y (List.mem_cons_of_mem _ hy)
    unfold cloFrom
    by_cases hk : (k == NameKind.free) = true
    · rw [if_pos hk, if_pos hk]
      obtain ⟨c, hc⟩ := h (n, k) List.mem_cons_self (by simpa using hk)
      have e : cellOf env n = pure c := by unfold cellOf; rw [hc]
      rw [e]
      have e2 : (env.cells.lookup n).getD 0 = c := by rw [hc]; rfl
      rw [e2]
      exact ih _
    · rw [if_neg hk, if_neg hk]
      exact ih _
theorem closure_ok {scope : Scope} {env : Env} (h : ∀ y ∈ scope.names, y.2 = .free → ∃ c, env.cells.lookup y.1 = some c) : closureFor scope env = pure (cloFrom env.cells scope.names []) := by
  simp only [closureFor]
  rw [closure_loop env _ (fun n k c => rfl) scope.names [] h]
  rfl
theorem mem_lookup {α : Type} : ∀ {l : List (Str × α)} {n : Str} {c : α}, (n, c) ∈ l → ∃ c', l.lookup n = some c'
  | (k, v) :: r, n, c, h => by
    rw [List.lookup_cons]
    cases hb : n == k with
    | true => exact ⟨_, rfl⟩
    | false =>
      rcases List.mem_cons.mp h with e | h
      · cases e; simp at hb
      · exact mem_lookup h
theorem cloFrom_mem {cells : List (Str × Addr)} : ∀ {names : List (Str × NameKind)} {acc : List (Str × Addr)} {n : Str} {c : Addr}, (n, c) ∈ cloFrom cells names acc → (n, c) ∈ acc ∨ ((n, .free) ∈ names ∧ c = (cells.lookup n).getD 0)
  | [], _, _, _, h => .inl h
  | (m, k) :: r, acc, n, c, h => by
    unfold cloFrom at h
    split at h
    · rename_i hk
      have hk : k = .free := by simpa using hk
      rcases cloFrom_mem h with h | ⟨h1, h2⟩
      · rcases List.mem_cons.mp h with e | h
        · cases e; exact .inr ⟨hk ▸ List.mem_cons_self, rfl⟩
        · exact .inl h
      · exact .inr ⟨List.mem_cons_of_mem _ h1, h2⟩
    · rcases cloFrom_mem h with h | ⟨h1, h2⟩
      · exact .inl h
      · exact .inr ⟨List.mem_cons_of_mem _ h1, h2⟩
theorem cloFrom_acc {cells : List (Str × Addr)} : ∀ {names : List (Str × NameKind)} {acc : List (Str × Addr)} {p : Str × Addr}, p ∈ acc → p ∈ cloFrom cells names acc
  | [], _, _, h => h
  | (m, k) :: r, acc, p, h => by
    unfold cloFrom
    split
    · exact cloFrom_acc (List.mem_cons_of_mem _ h)
    · exact cloFrom_acc h
theorem cloFrom_has {cells : List (Str × Addr)} : ∀ {names : List (Str × NameKind)} {acc : List (Str × Addr)} {n : Str}, (n, .free) ∈ names → (n, (cells.lookup n).getD 0) ∈ cloFrom cells names acc
  | (m, k) :: r, acc, n, h => by
    unfold cloFrom
    rcases List.mem_cons.mp h with e | h
    · cases e
      exact cloFrom_acc List.mem_cons_self
    · split
      · exact cloFrom_has h
      · exact cloFrom_has h
theorem cells_mem : ∀ {names : List (Str × NameKind)} {h : Heap} {acc : List (Str × Addr)} {x : Str} {c : Addr}, (x, c) ∈ cellsFrom h.objs.size names acc →
    (x, c) ∈ acc ∨ ((x, .cell) ∈ names ∧ h.objs.size ≤ c ∧ CellAt (pushCells h names) c none)
  | [], _, _, _, _, h => .inl h
  | (n, k) :: r, h, acc, x, c, hm => by
    unfold cellsFrom at hm
    unfold pushCells
    split at hm
    · rename_i hk
      rw [if_pos hk]
      have hk : k = .cell := by simpa using hk
      rw [← Heap.size_push h { cls := .type "cell", data := .cell none }] at hm
      rcases cells_mem hm with hm | ⟨h1, h2, h3⟩
      · rcases List.mem_cons.mp hm with e | hm
        · cases e
          exact .inr ⟨hk ▸ List.mem_cons_self, Nat.le_refl _, _, pushCells_keeps r _ _ _ (Heap.get?_push_size _ rfl), rfl⟩
        · exact .inl hm
      · rw [Heap.size_push] at h2
        exact .inr ⟨List.mem_cons_of_mem _ h1, Nat.le_of_succ_le h2, h3⟩
    · rename_i hk
      rw [if_neg hk]
      rcases cells_mem hm with hm | ⟨h1, h2, h3⟩
      · exact .inl hm
      · exact .inr ⟨List.mem_cons_of_mem _ h1, h2, h3⟩
theorem cells_acc : ∀ {names : List (Str × NameKind)} {n : Nat} {acc : List (Str × Addr)} {p : Str × Addr}, p ∈ acc → p ∈ cellsFrom n names acc
  | [], _, _, _, h => h
  | (m, k) :: r, n, acc, p, h => by
    unfold cellsFrom
    split
    · exact cells_acc (List.mem_cons_of_mem _ h)
    · exact cells_acc h
theorem cells_has : ∀ {names : List (Str × NameKind)} {n : Nat} {acc : List (Str × Addr)} {x : Str}, (x, .cell) ∈ names → ∃ c, (x, c) ∈ cellsFrom n names acc
  | (m, k) :: r, n, acc, x, h => by
    unfold cellsFrom
    rcases List.mem_cons.mp h with e | h
    · cases e
      exact ⟨n, cells_acc List.mem_cons_self⟩
    · split
      · exact cells_has h
      · exact cells_has h
theorem cells_inj : ∀ {names : List (Str × NameKind)} {h : Heap} {acc : List (Str × Addr)} {x y : Str} {c : Addr}, (∀ p ∈ acc, p.2 < h.objs.size) → (∀ x y c, (x, c) ∈ acc → (y, c) ∈ acc → x = y) →
    (x, c) ∈ cellsFrom h.objs.size names acc → (y, c) ∈ cellsFrom h.objs.size names acc → x = y
  | [], _, _, _, _, _, _, hi, h1, h2 => hi _ _ _ h1 h2
  | (n, k) :: r, h, acc, x, y, c, hl, hi, h1, h2 => by
    unfold cellsFrom at h1 h2
    split at h1
    · rename_i hk
      rw [if_pos hk] at h2
      rw [← Heap.size_push h { cls := .type "cell", data := .cell none }] at h1 h2
      refine cells_inj (h := h.push _) (fun p hp => ?_) (fun x y c a b => ?_) h1 h2
      · rw [Heap.size_push]
        rcases List.mem_cons.mp hp with rfl | hp
        · exact Nat.lt_succ_self _
        · exact Nat.lt_succ_of_lt (hl p hp)
      · rcases List.mem_cons.mp a with e | a <;> rcases List.mem_cons.mp b with e' | b
        · cases e; cases e'; rfl
        · cases e; exact absurd (hl _ b) (Nat.lt_irrefl _)
        · cases e'; exact absurd (hl _ a) (Nat.lt_irrefl _)
        · exact hi _ _ _ a b
    · rename_i hk
      rw [if_neg hk] at h2
      exact cells_inj hl hi h1 h2
theorem newEnv_comp {M : Model} {A : Around} {E : Value → Shared → Prop} {s : Shared} {scope : Scope} {globals : Addr} {closure : List (Str × Addr)} {qual : Str} {func : Option Addr} {code : Value} {around : Env} {builtins : Addr} {Q : Env → Shared → Prop}
    (h : Q (newEnv scope s.heap.objs.size globals (cellsFrom (s.heap.objs.size + 1) scope.names closure) qual func code (some around) builtins)
      { s with heap := pushCells (s.heap.push { cls := .type "dict", data := .dict #[] }) scope.names }) :
    wpAny M A (newFunctionEnv scope globals closure [] qual func code (some around) builtins) Q E s := by
  simp only [newFunctionEnv, Option.isSome_some, if_true]
  refine wpAny_bind (wpAny_alloc ?_)
  refine wpAny_bind (wpAny_layCells _ (fun n k c => rfl) scope.names closure _ _ ?_)
  rw [show ({ s with heap := s.heap.push { cls := .type "dict", data := .dict #[] } } : Shared).heap.objs.size = s.heap.objs.size + 1 from Heap.size_push ..]
  rw [List.forIn_nil]
  exact wpAny_bind (wpAny_pure (wpAny_pure h))
theorem lookup_relS {sc : Scope} : ∀ {names : List (Str × NameKind)} {x : Str} {k : NameKind},
    (names.map fun (n, k) => if (k == NameKind.free && sc.kind == .function && sc.names.lookup n == some .cell) then (n, NameKind.cell) else (n, k)).lookup x = some k →
    ∃ k', names.lookup x = some k' ∧ (k = k' ∨ (k' = .free ∧ k = .cell))
  | [], _, _, h => by simp at h
  | (n, k₀) :: r, x, k, h => by
    have ih := @lookup_relS sc r x k
    have h' : List.lookup x ((if (k₀ == NameKind.free && sc.kind == .function && sc.names.lookup n == some .cell) = true then (n, NameKind.cell) else (n, k₀)) :: (r.map _)) = some k := h
    cases hx : x == n with
    | true =>
      simp only [List.lookup_cons, hx]
      by_cases hc : (k₀ == NameKind.free && sc.kind == .function && sc.names.lookup n == some .cell) = true
      · rw [if_pos hc] at h'
        simp only [List.lookup_cons, hx] at h'
        cases h'
        simp only [Bool.and_eq_true, beq_iff_eq] at hc
        exact ⟨k₀, rfl, .inr ⟨hc.1.1, rfl⟩⟩
      · rw [if_neg hc] at h'
        simp only [List.lookup_cons, hx] at h'
        cases h'
        exact ⟨_, rfl, .inl rfl⟩
    | false =>
      simp only [List.lookup_cons, hx]
      by_cases hc : (k₀ == NameKind.free && sc.kind == .function && sc.names.lookup n == some .cell) = true
      · rw [if_pos hc] at h'
        simp only [List.lookup_cons, hx] at h'
        exact ih h'
      · rw [if_neg hc] at h'
        simp only [List.lookup_cons, hx] at h'
        exact ih h'
structure BlkOk (N : List Str) (sc scope : Scope) (own : List (Str × Nat)) : Prop where
  kind : scope.kind = .function
  uniq : ∀ y ∈ scope.names, scope.names.lookup y.1 = some y.2
  ix : ∀ p ∈ own, N[p.2]? = some p.1
  free : ∀ y ∈ scope.names, y.2 = .free → sc.names.lookup y.1 = some .cell ∨ sc.names.lookup y.1 = some .free
  own : ∀ y ∈ scope.names, y.2 = .local ∨ y.2 = .cell → y.1 ∈ own.map (·.1) ∨ y.1 ∉ N
def wipe (σ : St) : List Nat → St
  | [] => σ
  | v :: vs => (wipe σ vs).set v none
theorem wipe_length (σ : St) : ∀ vs : List Nat, (wipe σ vs).length = σ.length
  | [] => rfl
  | v :: vs => by unfold wipe; rw [List.length_set, wipe_length σ vs]
theorem wipe_some {σ : St} {i : Nat} {x : V} : ∀ {vs : List Nat}, (wipe σ vs)[i]? = some (some x) → σ[i]? = some (some x) ∧ i ∉ vs
  | [], h => ⟨h, by simp⟩
  | v :: vs, h => by
    unfold wipe at h
    by_cases hi : v = i
    · subst hi
      by_cases hv : v < (wipe σ vs).length
      · rw [List.getElem?_set_self hv] at h; cases h
      · rw [List.getElem?_eq_none (by simpa using hv)] at h; cases h
    · rw [List.getElem?_set_ne hi] at h
      obtain ⟨h1, h2⟩ := wipe_some h
      exact ⟨h1, by simp only [List.mem_cons, not_or]; exact ⟨fun e => hi e.symm, h2⟩⟩
abbrev Cx.blk (X : Cx) (s : Shared) (H : Hp) (scope : Scope) (cenv : Env) (fp : List Addr) : Cx := { X with s_0 := s, H_0 := H, env := cenv, outer := X.stack, ex := fp, fn := fun x => scope.names.lookup x == some .cell, pn := [], xe := fun _ _ => False }
section
variable {X : Cx} {pins : List (Addr × Obj)} {σ : St} {H : Hp} {s : Shared}
theorem block_start {scope : Scope} {own : List (Str × Nat)} {fp : List Addr} (I : Inv X pins σ H s) (ok : BlkOk X.N X.env.scope scope own) (hN : X.N.Nodup) (hfp : ∀ b ∈ fp, FpOk X pins H b ∧ b < s.heap.objs.size) :
    Inv (X.blk s H scope (compEnvC scope (cellsFrom (s.heap.objs.size + 1) scope.names (cloFrom X.env.cells scope.names [])) s.heap.objs.size X.env) fp) [] (wipe σ (own.map (·.2))) H { s with heap := pushCells (s.heap.push { cls := .type "dict", data := .dict #[] }) scope.names } := by
  have hfree : ∀ y ∈ scope.names, y.2 = .free → ∃ c, X.env.cells.lookup y.1 = some c := fun y hy e => by
    rcases ok.free y hy e with k | k
    · exact I.ok.has _ (.inl k)
    · exact I.ok.has _ (.inr k)
  generalize hcenv : compEnvC scope (cellsFrom (s.heap.objs.size + 1) scope.names (cloFrom X.env.cells scope.names [])) s.heap.objs.size X.env = cenv
  have kp : ∀ b o, s.heap.get? b = some o → (pushCells (s.heap.push { cls := .type "dict", data := .dict #[] }) scope.names).get? b = some o := fun b o e => pushCells_keeps _ _ _ _ (Heap.get?_push_of_some _ e)
  have hL : cenv.locals = s.heap.objs.size := by rw [← hcenv]; rfl
  have hcl : cenv.cells = cellsFrom (s.heap.objs.size + 1) scope.names (cloFrom X.env.cells scope.names []) := by rw [← hcenv]; rfl
  have hsc : cenv.scope = relS scope X.env.scope := by rw [← hcenv]; rfl
  rw [← Heap.size_push s.heap { cls := .type "dict", data := .dict #[] }] at hcl
  have cm : ∀ {y c}, (y, c) ∈ cloFrom X.env.cells scope.names [] → X.env.cells.lookup y = some c ∧ c < s.heap.objs.size := fun {y c} hm => by
    rcases cloFrom_mem hm with hm | ⟨h1, rfl⟩
    · cases hm
    · obtain ⟨c, hc⟩ := hfree _ h1 rfl
      rw [hc]
      obtain ⟨w, z⟩ := I.cell _ _ hc
      exact ⟨rfl, z.lt⟩
  have mem : ∀ {y c}, cenv.cells.lookup y = some c → (X.env.cells.lookup y = some c ∧ c < s.heap.objs.size) ∨ (s.heap.objs.size + 1 ≤ c ∧ CellAt (pushCells (s.heap.push { cls := .type "dict", data := .dict #[] }) scope.names) c none) := fun {y c} e => by
    rw [hcl] at e
    rcases cells_mem (PySem.mem_of_lookup e) with hm | ⟨_, h2, h3⟩
    · exact .inl (cm hm)
    · rw [Heap.size_push] at h2; exact .inr ⟨h2, h3⟩
  have look : ∀ {y}, scope.names.lookup y = some .free → ∃ c, cenv.cells.lookup y = some c ∧ X.env.cells.lookup y = some c := fun {y} hl => by
    have hy : (y, NameKind.free) ∈ scope.names := PySem.mem_of_lookup hl
    obtain ⟨c', e'⟩ := mem_lookup (cells_acc (names := scope.names) (n := (s.heap.push { cls := .type "dict", data := .dict #[] }).objs.size) (cloFrom_has (cells := X.env.cells) (acc := []) hy))
    rw [← hcl] at e'
    refine ⟨c', e', ?_⟩
    rw [hcl] at e'
    rcases cells_mem (PySem.mem_of_lookup e') with hm | ⟨h1, _, _⟩
    · exact (cm hm).1
    · have := ok.uniq _ h1
      rw [hl] at this; cases this
  have okB : (X.blk s H scope cenv fp).Ok := by
    refine ⟨I.ok.mod, by show cenv.scope.kind = _; rw [hsc]; exact ok.kind, by show cenv.globals = _; rw [← hcenv]; exact I.ok.glob, by show cenv.builtins = _; rw [← hcenv]; exact I.ok.blt, by show s.heap.objs.size ≤ cenv.locals; rw [hL]; exact Nat.le_refl _,
      fun y z c e1 e2 => ?_, fun y hy => ?_, fun y c z e => ?_, I.ok.hd, I.ok.frames, .inl rfl, fun b hb => ⟨?_, fun y c e z => ?_⟩, I.bs, Nat.le_trans I.ok.bsz I.sz, fun b o e hb => ?_, fun b hb z => ?_, I.stack, I.stkFree⟩
    · have e1 : cenv.cells.lookup y = some c := e1
      have e2 : cenv.cells.lookup z = some c := e2
      rw [hcl] at e1 e2
      refine cells_inj (fun p hp => ?_) (fun y z c a b => I.ok.inj y z c (cm a).1 (cm b).1) (PySem.mem_of_lookup e1) (PySem.mem_of_lookup e2)
      rw [Heap.size_push]
      exact Nat.lt_succ_of_lt (cm (y := p.1) (c := p.2) hp).2
    · show ∃ c, cenv.cells.lookup y = some c
      have key : ∀ k, cenv.kindOf y = some k → (k = .cell ∨ k = .free) → ∃ c, cenv.cells.lookup y = some c := fun k hk hk' => by
        unfold Env.kindOf at hk
        rw [hsc] at hk
        obtain ⟨k', e, r⟩ := lookup_relS hk
        have : k' = .cell ∨ k' = .free := by
          rcases r with rfl | ⟨rfl, _⟩
          · exact hk'
          · exact .inr rfl
        rcases this with rfl | rfl
        · obtain ⟨c, hm⟩ := cells_has (n := (s.heap.push { cls := .type "dict", data := .dict #[] }).objs.size) (acc := cloFrom X.env.cells scope.names []) (PySem.mem_of_lookup e)
          obtain ⟨c', e'⟩ := mem_lookup hm
          exact ⟨c', by rw [hcl]; exact e'⟩
        · obtain ⟨c, h1, _⟩ := look e
          exact ⟨c, h1⟩
      rcases hy with hy | hy
      · exact key _ hy (.inl rfl)
      · exact key _ hy (.inr rfl)
    · have z : (scope.names.lookup y == some NameKind.cell) = true := z
      have z : scope.names.lookup y = some .cell := by simpa using z
      have e : cenv.cells.lookup y = some c := e
      rw [hcl] at e
      rcases cells_mem (PySem.mem_of_lookup e) with hm | ⟨_, h2, _⟩
      · rcases cloFrom_mem hm with hm | ⟨h1, _⟩
        · cases hm
        · have q := ok.uniq _ h1
          rw [z] at q; cases q
      · rw [Heap.size_push] at h2
        exact Nat.le_of_succ_le h2
    · show b ≠ cenv.locals
      rw [hL]; exact Nat.ne_of_lt (hfp b hb).2
    · have e : cenv.cells.lookup y = some c := e
      rcases mem e with ⟨h1, _⟩ | ⟨h1, _⟩
      · exact (hfp b hb).1.2.2.2.2.1 y c h1 z
      · have h2 : s.heap.objs.size + 1 ≤ b := by rw [← z]; exact h1
        exact absurd (Nat.lt_of_lt_of_le (hfp b hb).2 (Nat.le_of_succ_le h2)) (Nat.lt_irrefl _)
    · rcases (hfp b hb).1.2.2.2.1 with z | z
      · exact I.ok.noex b o e z
      · exact absurd (Nat.lt_of_lt_of_le (Heap.lt_size e) (Nat.le_trans I.ok.bsz z)) (Nat.lt_irrefl _)
    · rcases List.mem_cons.mp (I.stkSub b z) with z | z
      · exact (hfp b hb).1.2.1 z
      · exact (hfp b hb).1.2.2.1 z
  refine ⟨okB, rfl, I.bare, Un.kept kp, ⟨fun _ => none, ?_, fun i y av e1 e2 e3 => ?_⟩, fun y c e => ?_, ?_, fun y c e => ?_, fun p hp => ?_, I.hok.kept kp, by rw [wipe_length]; exact I.len⟩
  · show Heap.Ns _ cenv.locals _
    rw [hL]
    exact Heap.Ns.keeps (Heap.Ns.new ..) fun b o e => pushCells_keeps _ _ _ _ e
  · obtain ⟨e2, hne⟩ := wipe_some e2
    have hfr : scope.names.lookup y = some .free ∧ (cenv.kindOf y = some .cell ∨ cenv.kindOf y = some .free) := by
      have key : ∀ k, cenv.scope.names.lookup y = some k → k = .local ∨ k = .cell ∨ k = .free → scope.names.lookup y = some .free ∧ (cenv.kindOf y = some .cell ∨ cenv.kindOf y = some .free) := fun k hk hk' => by
        have hk0 := hk
        rw [hsc] at hk
        obtain ⟨k', e, r⟩ := lookup_relS hk
        have no : ¬ (k' = .local ∨ k' = .cell) := fun hh => by
          rcases ok.own _ (PySem.mem_of_lookup e) hh with e' | e'
          · obtain ⟨p, hp, hpy⟩ := List.mem_map.mp e'
            have e3 := ok.ix p hp
            have : p.1 = y := hpy
            rw [this] at e3
            exact hne (List.mem_map.mpr ⟨p, hp, nodup_ix hN e3 e1⟩)
          · exact e' (List.mem_of_getElem? e1)
        rcases r with rfl | ⟨rfl, rfl⟩
        · rcases hk' with rfl | rfl | rfl
          · exact absurd (.inl rfl) no
          · exact absurd (.inr rfl) no
          · exact ⟨e, .inr hk0⟩
        · exact ⟨e, .inl hk0⟩
      have e3 : Vis cenv.scope y := e3
      rcases e3 with e3 | e3 | e3
      · exact key _ e3 (.inl rfl)
      · exact key _ e3 (.inr (.inl rfl))
      · exact key _ e3 (.inr (.inr rfl))
    obtain ⟨m, hn, hl⟩ := I.loc
    have hvis : Vis X.env.scope y := (ok.free _ (PySem.mem_of_lookup hfr.1) rfl).elim (fun k => .inr (.inl k)) (fun k => .inr (.inr k))
    obtain ⟨w, r, q⟩ := hl i y av e1 e2 hvis
    refine ⟨w, r, .inr ⟨hfr.2, ?_⟩⟩
    obtain ⟨c, h1, h2⟩ := look hfr.1
    rcases q with ⟨k, _⟩ | ⟨_, c', e', z⟩
    · have k : X.env.scope.names.lookup y = some .local := k
      rcases ok.free _ (PySem.mem_of_lookup hfr.1) rfl with k' | k' <;> rw [show X.env.scope.names.lookup y = _ from k'] at k <;> cases k
    · rw [h2] at e'; cases e'
      exact ⟨c, h1, z.keeps kp⟩
  · have e : cenv.cells.lookup y = some c := e
    rcases mem e with ⟨h1, _⟩ | ⟨_, z⟩
    · obtain ⟨w, z⟩ := I.cell y c h1
      exact ⟨w, z.keeps kp⟩
    · exact ⟨_, z⟩
  · show H cenv.locals = none
    rw [hL]; exact I.hok.fresh (Nat.le_refl _)
  · have e : cenv.cells.lookup y = some c := e
    rcases mem e with ⟨h1, _⟩ | ⟨h1, _⟩
    · exact I.freeC y c h1
    · exact I.hok.fresh (Nat.le_of_succ_le h1)
  · exact absurd (show p ∈ ([] : List (Addr × Obj)) ++ [] from hp) (by simp)
theorem app_ok {E : Value → Shared → Prop} {D : Addr} {xs : List V} {y : V} {v : Value} {Q : Value → Shared → Prop} (I : Inv X pins σ H s) (hD : H D = some (.lst xs)) (hz : xs.length < sizeLine) (r : RelV y v)
    (h : ∀ s', Inv X pins σ (upd H D (.lst (xs ++ [y]))) s' → Q .none s') : wpAny (model X.prog X.w) X.A (call (.builtin "list.append") [.ref D, v]) Q E s := by
  obtain ⟨hz', its, n, ri, e⟩ := I.hok D _ hD
  have hl := ri.length
  refine append_at (hsz := by rw [List.size_toArray]; omega) e fun h' sb ho' => ?_
  refine h { s with heap := h' } (I.write (t' := s.toks) (by rw [hD]; trivial) (.inl rfl) (fun b u hb q => (sb.2 b hb).trans q) ⟨_, ho'⟩ ⟨by rw [List.length_append]; exact hz, its ++ [v], n + 1, ri.append (.cons r .nil), ?_⟩)
  rw [ho']
  simp
def PTs (X : Cx) (ifs : List Expr) (t : TT) : Prop :=
  ∀ (pins : List (Addr × Obj)) (s : Shared) (σ : St) (H : Hp) (Q : Bool → Hp → Prop), Inv X pins σ H s → t σ H Q →
    wpAny (model X.prog X.w) X.A (forIn ifs true fun c r => if r = true then do let ok ← isTrue c X.env (eval c X.env); pure (ForInStep.yield ok) else pure (ForInStep.yield r)) (TP X pins σ Q) X.xe s
def tYes : TT := fun _ H Q => Q true H
theorem pts_nil : PTs X [] tYes := fun _ _ _ H _ I h => wpAny_tests_nil ⟨H, I, h⟩
theorem pts_one {c : Expr} {t : TT} (h : PT X c t) : PTs X [c] t := fun pins s σ H Q I hw => wpAny_tests_one (h pins s σ H Q I hw)
end
theorem thnF {α : Type} {t : Sem α} {Q Q' : α → Shared → Prop} {M : Model} {A : Around} {E : Value → Shared → Prop} {s : Shared} (h : wpAny M A t Q (fun _ _ => False) s) (hQ : ∀ a s, Q a s → Q' a s) : wpAny M A t Q' E s := wpAny_mono h hQ fun _ _ z => False.elim z
theorem compLoop_any {prog : Program} {w : World} {A : Around} {R : Result → Shared → Prop} {s : Shared} {elt target iter : Expr} {ifs : List Expr} {scope : Scope} {pos : Pos} {it acc : Value} {env : Env} (I : Nat → Shared → Prop)
    (turn : ∀ n s, I n s → wpAny (model prog w) A (pyNext it) (fun r s₁ => match r with
      | none => R (.ok .next) s₁
      | some v => wpAny (model prog w) A (letOwnedTupleGo target it v) (fun _ s₁' => wpAny (model prog w) A (assign target env v) (fun _ s₂ =>
          wpAny (model prog w) A (forIn ifs true fun c r => if r = true then do let ok ← isTrue c env (eval c env); pure (ForInStep.yield ok) else pure (ForInStep.yield r)) (fun ok s₃ =>
            if ok = true then wpAny (model prog w) A (eval elt env) (fun x s₄ =>
              wpAny (model prog w) A (call (.builtin "list.append") [acc, x]) (fun _ s₅ => ∃ m, m < n ∧ I m s₅) (notedBy (model prog w) A env fun e s' => R (.error e) s') s₄) (notedBy (model prog w) A env fun e s' => R (.error e) s') s₃
            else ∃ m, m < n ∧ I m s₃) (notedBy (model prog w) A env fun e s' => R (.error e) s') s₂) (notedBy (model prog w) A env fun e s' => R (.error e) s') s₁') (notedBy (model prog w) A env fun e s' => R (.error e) s') s₁) (notedBy (model prog w) A env fun e s' => R (.error e) s') s)
    (n : Nat) (h : I n s) :
    codeAny (model prog w) A (.compLoop (.ListComp elt [⟨target, iter, ifs, 0⟩] scope pos) 0 it acc env) R s := by
  refine codeAny_loop rfl I (fun n s hI => ?_) n h
  show wpAny _ A ((compTurn (.ListComp elt [⟨target, iter, ifs, 0⟩] scope pos) 0 it acc env).onRaise (fun x => do noteFrame x env; theTreesLotGoes x)) _ _ s
  refine wpAny_noted ?_
  rw [compTurn_list]
  refine wpAny_bind (wpAny_standAt (wpAny_bind (wpAny_mono (turn n s hI) (fun r s₁ h₁ => ?_) fun _ _ h' => h')))
  cases r with
  | none => exact wpAny_pure h₁
  | some v =>
    refine wpAny_bind (wpAny_mono h₁ (fun _ s₁' h₁' => ?_) fun _ _ h' => h')
    refine wpAny_bind (wpAny_mono h₁' (fun _ s₂ h₂ => wpAny_bind (wpAny_mono h₂ (fun ok s₃ h₃ => ?_) fun _ _ h' => h')) fun _ _ h' => h')
    cases ok with
    | false => exact wpAny_pure ⟨rfl, h₃⟩
    | true =>
      exact wpAny_bind (wpAny_bind (wpAny_mono h₃ (fun x s₄ h₄ => wpAny_bind (wpAny_mono h₄ (fun _ s₅ h₅ => wpAny_pure (wpAny_pure ⟨rfl, h₅⟩)) fun _ _ h' => h')) fun _ _ h' => h'))
section
variable {X : Cx}
def tLc (wi : TI) (g : TG) (tt : TT) (te : TE) (vs : List Nat) : TE := fun σ H Q => wi σ H fun J H1 => ∀ D, H1 D = none → ∃ W : Nat → Nat → Hp → Prop, (∃ m, W 0 m (upd H1 D (.lst []))) ∧ ∀ i m H, W i m H →
  (J.stop i H ∧ Q (.ref D) H) ∨ (J.go i H ∧ ∃ Nx : Hp → Prop, (∀ H', Nx H' → ∃ m', m' < m ∧ W (i + 1) m' H') ∧ ∀ x H', J.yld i H x H' → g x (wipe σ vs) H' fun σ2 H2 => wipe σ2 vs = wipe σ vs ∧ tt σ2 H2 fun b H3 =>
    if b = true then te σ2 H3 fun y H4 => ∃ acc, H4 D = some (.lst acc) ∧ acc.length < sizeLine ∧ Nx (upd H4 D (.lst (acc ++ [y]))) else Nx H3)
theorem lc_core {pins : List (Addr × Obj)} {s : Shared} {σ : St} {H : Hp} {Q : VK} {elt tg iter : Expr} {ifs : List Expr} {scope : Scope} {own : List (Str × Nat)} {pos pos' : Pos} {wi : TI} {g : TG} {tt : TT} {te : TE} {use : Option (Value → Sem Unit)} {Qf : Value → Shared → Prop}
    (hc : X.calm = true) (hN : X.N.Nodup) (I : Inv X pins σ H s) (hi : PI X tg iter wi) (ok : BlkOk X.N X.env.scope scope own)
    (hg : ∀ (s : Shared) (H : Hp) (C : Addr) (cl : List (Str × Addr)) (fp : List Addr), PG (X.blk s H scope (compEnvC scope cl C X.env) fp) tg g) (ht : ∀ (s : Shared) (H : Hp) (C : Addr) (cl : List (Str × Addr)) (fp : List Addr), PTs (X.blk s H scope (compEnvC scope cl C X.env) fp) ifs tt)
    (he : ∀ (s : Shared) (H : Hp) (C : Addr) (cl : List (Str × Addr)) (fp : List Addr), PE (X.blk s H scope (compEnvC scope cl C X.env) fp) elt te) (hs : ∀ x, foldedSetIterable iter X.env x = pure x)
    (h : tLc wi g tt te (own.map (·.2)) σ H Q)
    (hRR : ∀ D C s' m H', Inv X pins σ H' s' → Q (.ref D) H' → s'.heap.Ns C m → FpOk X pins H' C → compPost (model X.prog X.w) X.A X.xe use Qf (.ref D) C (.ok .next) s') :
    wpAny (model X.prog X.w) X.A (comprehension (.ListComp elt [⟨tg, iter, ifs, 0⟩] scope pos) scope X.env pos' (newList []) false (eval iter X.env) use) Qf X.xe s := by
  have hfree : ∀ y ∈ scope.names, y.2 = .free → ∃ c, X.env.cells.lookup y.1 = some c := fun y hy e => by
    rcases ok.free y hy e with k | k
    · exact I.ok.has _ (.inl k)
    · exact I.ok.has _ (.inr k)
  refine wpAny_comprehension_free (use := use) rfl hs (closure_ok hfree) ok.kind (fun y hy e => by rw [ok.uniq y hy, e])
    (thn (hi pins s σ H _ I h) fun xv s1 hx => thn hx fun itv s2 h2 => ?_)
  obtain ⟨it, fp, tn, J, H2, e, I2, T, st2, f2, q⟩ := h2
  subst e
  refine wpAny_newObj_type (newEnv_comp ?_) (by show 0 ≤ sizeLine; decide)
  generalize hD : s2.heap.objs.size = D
  have hDn : H2 D = none := I2.hok.fresh (Nat.le_of_eq hD)
  obtain ⟨W, ⟨m0, w0⟩, turn⟩ := q D hDn
  generalize hs3 : ({ s2 with heap := s2.heap.push { cls := .type "list", data := .seq ([] : List Value).toArray } } : Shared) = s3
  have I3 : Inv X pins σ (upd H2 D (.lst [])) s3 := by
    rw [← hs3]
    refine I2.laid (t' := s2.toks) (fun b o e => Heap.get?_push_of_some _ e) (Nat.le_of_eq hD) ⟨Nat.zero_le _, [], 0, .nil, ?_⟩
    rw [← hD]
    exact Heap.get?_push_size _ rfl
  have h3 : s3.heap = s2.heap.push { cls := .type "list", data := .seq ([] : List Value).toArray } := by rw [← hs3]
  have sz : ∀ b ∈ fp, b < s2.heap.objs.size := fun b hb => by
    obtain ⟨o, e, _⟩ := T.obj _ _ st2 b hb
    exact Heap.lt_size e
  have f3 : ∀ b ∈ fp, FpOk X pins (upd H2 D (.lst [])) b ∧ b < s3.heap.objs.size := fun b hb => by
    have hlt := sz b hb
    refine ⟨⟨?_, (f2 b hb).2⟩, by rw [h3, Heap.size_push]; exact Nat.lt_succ_of_lt hlt⟩
    rw [upd_ne (by rw [← hD]; exact Nat.ne_of_lt hlt)]
    exact (f2 b hb).1
  have st3 : tn 0 s3.heap := T.keep _ _ _ st2 fun b _ o e => by rw [h3]; exact Heap.get?_push_of_some _ e
  have I4 := block_start I3 ok hN f3
  have pg := hg s3 (upd H2 D (.lst [])) s3.heap.objs.size (cellsFrom (s3.heap.objs.size + 1) scope.names (cloFrom X.env.cells scope.names [])) fp
  have pt := ht s3 (upd H2 D (.lst [])) s3.heap.objs.size (cellsFrom (s3.heap.objs.size + 1) scope.names (cloFrom X.env.cells scope.names [])) fp
  have pe := he s3 (upd H2 D (.lst [])) s3.heap.objs.size (cellsFrom (s3.heap.objs.size + 1) scope.names (cloFrom X.env.cells scope.names [])) fp
  show codeAny _ _ (.compStart (.ListComp elt [⟨tg, iter, ifs, 0⟩] scope pos) 0 (.ref it) (.ref D) (compEnvC scope (cellsFrom (s3.heap.objs.size + 1) scope.names (cloFrom X.env.cells scope.names [])) s3.heap.objs.size X.env)) (compPost (model X.prog X.w) X.A X.xe use Qf (.ref D) s3.heap.objs.size) { s3 with heap := pushCells (s3.heap.push { cls := .type "dict", data := .dict #[] }) scope.names }
  have nfp : ∀ b ∈ fp, (upd H2 D (.lst [])) b = none := fun b hb => (f3 b hb).1.1
  generalize hce : compEnvC scope (cellsFrom (s3.heap.objs.size + 1) scope.names (cloFrom X.env.cells scope.names [])) s3.heap.objs.size X.env = ce at I4 pg pt pe ⊢
  have cL : ce.locals = s3.heap.objs.size := by subst hce; rfl
  generalize hH3 : upd H2 D (.lst []) = H3 at I3 I4 pg pt pe w0 nfp f3
  generalize hs4 : ({ s3 with heap := pushCells (s3.heap.push { cls := .type "dict", data := .dict #[] }) scope.names } : Shared) = s4 at I4 ⊢
  have st4 : tn 0 s4.heap := T.keep _ _ _ st3 fun b _ o e => by rw [← hs4]; exact pushCells_keeps _ _ _ _ (Heap.get?_push_of_some _ e)
  have stat : ∀ {σ' : St} {H' : Hp} {s' : Shared}, Inv (X.blk s3 H3 scope ce fp) [] σ' H' s' → (∀ b ∈ fp, H' b = none) → ∀ b ∈ fp, FpOk (X.blk s3 H3 scope ce fp) [] H' b := fun {σ' H' s'} I' hn b hb =>
    ⟨hn b hb, (I'.ok.exf b hb).1, I'.ok.exfs b hb, .inl hb, fun x c e => (I'.ok.exf b hb).2 x c e, fun p hp => absurd (show p ∈ ([] : List (Addr × Obj)) ++ [] from hp) (by simp)⟩
  have loop : codeAny (model X.prog X.w) X.A (.compLoop (.ListComp elt [⟨tg, iter, ifs, 0⟩] scope pos) 0 (.ref it) (.ref D) ce) (compPost (model X.prog X.w) X.A X.xe use Qf (.ref D) s3.heap.objs.size) s4 := by
    refine compLoop_any (fun n s' => ∃ i H', Inv (X.blk s3 H3 scope ce fp) [] (wipe σ (own.map (·.2))) H' s' ∧ tn i s'.heap ∧ (∀ b ∈ fp, H' b = none) ∧ W i n H') ?_ m0 ⟨0, H3, I4, st4, nfp, w0⟩
    rintro n s5 ⟨i, H5, I5, st5, n5, w5⟩
    rcases turn i n H5 w5 with ⟨stop, qq⟩ | ⟨go, Nx, hNx, step⟩
    · have td := T.done (X.blk s3 H3 scope ce fp) rfl rfl rfl hc i [] s5 _ H5 (fun _ _ => False) I5 (stat I5 n5) st5 stop
      refine thnF td fun r s6 ⟨hr, I6⟩ => ?_
      subst hr
      have I7 : Inv X pins σ H5 s6 := I3.call' (ch := fp) I6.os I6.base I6.hok I6.bare fun b hb => ⟨(f3 b hb).1.2.2.2.1, (f3 b hb).1.2.1, (f3 b hb).1.2.2.2.2.1, (f3 b hb).1.2.2.2.2.2⟩
      have nC : H5 s3.heap.objs.size = none := by
        have z : H5 ce.locals = none := I6.free
        rw [cL] at z
        exact z
      obtain ⟨m, hn, _⟩ := I6.loc
      have hn : s6.heap.Ns ce.locals m := hn
      rw [cL] at hn
      exact hRR D s3.heap.objs.size s6 m H5 I7 qq hn (I3.fpOk (Nat.le_refl _) nC)
    · have ti := T.item (X.blk s3 H3 scope ce fp) rfl rfl rfl hc i [] s5 _ H5 (fun _ _ => False) I5 (stat I5 n5) st5 go
      refine thnF ti fun r s6 ⟨u, hr, h6⟩ => ?_
      subst hr
      refine thnF h6 fun _ s7 ⟨x, H7, I7, r7, y7, st7, n7⟩ => ?_
      have I7' := I7.pinned (stat I7 n7) (T.obj _ _ st7)
      refine thnF (pg _ s7 _ H7 x u _ I7' r7 (step x H7 y7)) fun _ s8 ⟨σ8, H8, I8, hw8, q8⟩ => ?_
      refine thnF (pt _ s8 σ8 H8 _ I8 q8) fun b s9 ⟨H9, I9, q9⟩ => ?_
      have fin : ∀ {s' : Shared} {H' : Hp}, Inv (X.blk s3 H3 scope ce fp) ([] ++ pinsAt fp s7.heap) σ8 H' s' → Nx H' → ∃ m, m < n ∧ ∃ i H', Inv (X.blk s3 H3 scope ce fp) [] (wipe σ (own.map (·.2))) H' s' ∧ tn i s'.heap ∧ (∀ b ∈ fp, H' b = none) ∧ W i m H' := fun {s' H'} I' nx => by
        obtain ⟨m', hm, w'⟩ := hNx H' nx
        have pin' : ∀ b ∈ fp, ∀ o, s7.heap.get? b = some o → s'.heap.get? b = some o ∧ H' b = none := fun b hb o e =>
          let z := I'.pin (b, o) (List.mem_append_right _ (List.mem_append_right _ (mem_pinsAt hb e)))
          ⟨z.1, z.2.1⟩
        have hl : (wipe σ (own.map (·.2))).length = σ8.length := by rw [← hw8, wipe_length]
        refine ⟨m', hm, i + 1, H', (I'.unpinned (pins := [])).weak hl (fun j v e => ?_), T.keep _ _ _ st7 fun b hb o e => (pin' b hb o e).1, fun b hb => ?_, w'⟩
        · rw [← hw8] at e
          exact (wipe_some e).1
        · obtain ⟨o, e, _⟩ := T.obj _ _ st7 b hb
          exact (pin' b hb o e).2
      cases b with
      | false =>
        simp only [Bool.false_eq_true, if_false] at q9 ⊢
        exact fin I9 q9
      | true =>
        simp only [if_true] at q9 ⊢
        refine thnF (pe _ s9 σ8 H9 _ I9 q9) fun z s10 ⟨yv, H10, I10, r10, acc, hD10, hz10, nx⟩ => ?_
        exact app_ok (X := X.blk s3 H3 scope ce fp) I10 hD10 hz10 r10 fun s11 I11 => fin I11 nx
  exact codeAny_compStart_list loop (T.self X.A 0 _ _ _ st4 loop)
theorem pe_lc {elt tg iter : Expr} {ifs : List Expr} {scope : Scope} {own : List (Str × Nat)} {pos : Pos} {wi : TI} {g : TG} {tt : TT} {te : TE} (hc : X.calm = true) (hN : X.N.Nodup) (hi : PI X tg iter wi) (ok : BlkOk X.N X.env.scope scope own)
    (hg : ∀ (s : Shared) (H : Hp) (C : Addr) (cl : List (Str × Addr)) (fp : List Addr), PG (X.blk s H scope (compEnvC scope cl C X.env) fp) tg g) (ht : ∀ (s : Shared) (H : Hp) (C : Addr) (cl : List (Str × Addr)) (fp : List Addr), PTs (X.blk s H scope (compEnvC scope cl C X.env) fp) ifs tt)
    (he : ∀ (s : Shared) (H : Hp) (C : Addr) (cl : List (Str × Addr)) (fp : List Addr), PE (X.blk s H scope (compEnvC scope cl C X.env) fp) elt te) (hs : ∀ x, foldedSetIterable iter X.env x = pure x := by intro _; rfl) :
    PE X (.ListComp elt [⟨tg, iter, ifs, 0⟩] scope pos) (tLc wi g tt te (own.map (·.2))) := by
  intro pins s σ H Q I h
  rw [eval_ListComp]
  refine lc_core hc hN I hi ok hg ht he hs h fun D C s' m H' I' q hn f => ⟨m, hn, fun h'' sb => ?_⟩
  obtain ⟨f0, f1, f2, f3, f4, f5⟩ := f
  exact ⟨.ref D, H', I'.turned (t' := s'.toks) (fun b o hb e => (sb.2 b hb).trans e) f0 f1 f3 f4 f5, rfl, q⟩
theorem ps_setLc {i : Nat} {y : Str} {py : Pos} {elt tg iter : Expr} {ifs : List Expr} {scope : Scope} {own : List (Str × Nat)} {pos spos : Pos} {wi : TI} {g : TG} {tt : TT} {te : TE} (hc : X.calm = true) (hN : X.N.Nodup) (hy : X.N[i]? = some y) (hyl : X.env.scope.names.lookup y = some .local)
    (hsw : swapsWith (.ListComp elt [⟨tg, iter, ifs, 0⟩] scope pos) (some (.Name y py)) spos.line X.env = pure true) (hi : PI X tg iter wi) (ok : BlkOk X.N X.env.scope scope own)
    (hg : ∀ (s : Shared) (H : Hp) (C : Addr) (cl : List (Str × Addr)) (fp : List Addr), PG (X.blk s H scope (compEnvC scope cl C X.env) fp) tg g) (ht : ∀ (s : Shared) (H : Hp) (C : Addr) (cl : List (Str × Addr)) (fp : List Addr), PTs (X.blk s H scope (compEnvC scope cl C X.env) fp) ifs tt)
    (he : ∀ (s : Shared) (H : Hp) (C : Addr) (cl : List (Str × Addr)) (fp : List Addr), PE (X.blk s H scope (compEnvC scope cl C X.env) fp) elt te) (hs : ∀ x, foldedSetIterable iter X.env x = pure x := by intro _; rfl) :
    PS X (.Assign [.Name y py] (.ListComp elt [⟨tg, iter, ifs, 0⟩] scope pos) spos) (tAsg (tLc wi g tt te (own.map (·.2))) (gName i)) := by
  intro pins s σ H D I h
  rw [exec_Assign_Name_used _ _ _ _ hsw]
  refine wpAny_bind (wpAny_standAt (wpAny_bind ?_))
  show wpAny _ X.A (do let _ ← comprehension (.ListComp elt [⟨tg, iter, ifs, 0⟩] scope pos) scope X.env (firstIterPos [⟨tg, iter, ifs, 0⟩] pos) (newList []) false (eval iter X.env) (some (assign (.Name y py) X.env))) _ _ s
  have h : tLc wi g tt te (own.map (·.2)) σ H (fun x H1 => gName i x σ H1 D.nx) := h
  refine wpAny_bind (thn (lc_core (Qf := fun _ s' => SP X pins D .next s') hc hN I hi ok hg ht he hs h fun L C s' m H' I' q hn f => ?_) fun _ s' hq => wpAny_pure (wpAny_pure hq))
  show wpAny _ _ (assign (.Name y py) X.env (.ref L)) _ _ _
  refine wpAny_assign_Name (store_ok2 (v := V.ref L) I' hN hy (.inl hyl) rfl (fun s2 I2 ⟨a, sb, ha⟩ => ?_) (.inr hyl))
  obtain ⟨f0, f1, f2, f3, f4, f5⟩ := f
  have haC : C ≠ a := by
    rcases ha with z | z
    · rw [z]; exact f1
    · exact fun e => f4 y a z e.symm
  refine ⟨m, hn.sameBut sb haC, fun h3 sb3 => ?_⟩
  exact ⟨_, H', I2.turned (t' := s2.toks) (fun b o hb e => (sb3.2 b hb).trans e) f0 f1 f3 f4 f5, q⟩
theorem sw_true {elt : Expr} {gs : List Comprehension} {scope : Scope} {pos py : Pos} {y : Str} {l : Nat} {env : Env} (hk : env.scope.kind = .function) (hy : env.scope.names.lookup y = some .local) (hl : (py.line == pos.line) = true)
    (ha : (scope.names.any fun (n, k) => n == y && (k == .local || k == .cell)) = false) : swapsWith (.ListComp elt gs scope pos) (some (.Name y py)) l env = pure true := by
  have ky : env.kindOf y = some .local := hy
  have hb : env.blockKind = .function := by unfold Env.blockKind; rw [hk]; rfl
  unfold swapsWith
  simp only [hb, ky, ha, Expr.pos, hl]
  rfl
end
theorem lc_range {lo : Int} {n : Nat} {g : TG} {tt : TT} {te : TE} {vs : List Nat} {σ : St} {H1 : Hp} {D : Addr} {Qd : Hp → Prop} (Pv : Nat → Hp → Prop) (h0 : Pv 0 (upd H1 D (.lst [])))
    (hs : ∀ i H, i < n → Pv i H → g (.int (lo + i)) (wipe σ vs) H fun σ2 H2 => wipe σ2 vs = wipe σ vs ∧ tt σ2 H2 fun b H3 =>
      if b = true then te σ2 H3 fun y H4 => ∃ acc, H4 D = some (.lst acc) ∧ acc.length < sizeLine ∧ Pv (i + 1) (upd H4 D (.lst (acc ++ [y]))) else Pv (i + 1) H3) (hd : ∀ H, Pv n H → Qd H) :
    ∃ W : Nat → Nat → Hp → Prop, (∃ m, W 0 m (upd H1 D (.lst []))) ∧ ∀ i m H, W i m H →
      ((Itr lo n).stop i H ∧ Qd H) ∨ ((Itr lo n).go i H ∧ ∃ Nx : Hp → Prop, (∀ H', Nx H' → ∃ m', m' < m ∧ W (i + 1) m' H') ∧ ∀ x H', (Itr lo n).yld i H x H' → g x (wipe σ vs) H' fun σ2 H2 => wipe σ2 vs = wipe σ vs ∧ tt σ2 H2 fun b H3 =>
        if b = true then te σ2 H3 fun y H4 => ∃ acc, H4 D = some (.lst acc) ∧ acc.length < sizeLine ∧ Nx (upd H4 D (.lst (acc ++ [y]))) else Nx H3) := by
  refine ⟨fun i m H => m = n - i ∧ i ≤ n ∧ Pv i H, ⟨n, by simp, Nat.zero_le _, h0⟩, ?_⟩
  rintro i m H ⟨rfl, hi, p⟩
  by_cases hlt : i < n
  · refine .inr ⟨hlt, Pv (i + 1), fun H' p' => ⟨n - (i + 1), by omega, rfl, hlt, p'⟩, fun x H' y => ?_⟩
    obtain ⟨e, y⟩ := y
    subst e y
    exact hs i _ hlt p
  · have e : i = n := by omega
    subst e
    exact .inl ⟨Nat.le_refl _, hd H p⟩
theorem lc_list {K : PySem.W.Frag} {a : Addr} {xs : List V} {g : TG} {tt : TT} {te : TE} {vs : List Nat} {σ : St} {H1 : Hp} {D : Addr} {Qd : Hp → Prop} (Pv : Nat → Hp → Prop) (h0 : Pv 0 (upd H1 D (.lst []))) (hl : ∀ i H, i ≤ xs.length → Pv i H → SqL K H a xs)
    (hs : ∀ i x H, xs[i]? = some x → Pv i H → g x (wipe σ vs) H fun σ2 H2 => wipe σ2 vs = wipe σ vs ∧ tt σ2 H2 fun b H3 =>
      if b = true then te σ2 H3 fun y H4 => ∃ acc, H4 D = some (.lst acc) ∧ acc.length < sizeLine ∧ Pv (i + 1) (upd H4 D (.lst (acc ++ [y]))) else Pv (i + 1) H3) (hd : ∀ H, Pv xs.length H → Qd H) :
    ∃ W : Nat → Nat → Hp → Prop, (∃ m, W 0 m (upd H1 D (.lst []))) ∧ ∀ i m H, W i m H →
      ((Itl K a).stop i H ∧ Qd H) ∨ ((Itl K a).go i H ∧ ∃ Nx : Hp → Prop, (∀ H', Nx H' → ∃ m', m' < m ∧ W (i + 1) m' H') ∧ ∀ x H', (Itl K a).yld i H x H' → g x (wipe σ vs) H' fun σ2 H2 => wipe σ2 vs = wipe σ vs ∧ tt σ2 H2 fun b H3 =>
        if b = true then te σ2 H3 fun y H4 => ∃ acc, H4 D = some (.lst acc) ∧ acc.length < sizeLine ∧ Nx (upd H4 D (.lst (acc ++ [y]))) else Nx H3) := by
  refine ⟨fun i m H => m = xs.length - i ∧ i ≤ xs.length ∧ Pv i H, ⟨xs.length, by simp, Nat.zero_le _, h0⟩, ?_⟩
  rintro i m H ⟨rfl, hi, p⟩
  have q := hl i H hi p
  by_cases hlt : i < xs.length
  · refine .inr ⟨⟨xs, xs[i], q, by simp [hlt]⟩, Pv (i + 1), fun H' p' => ⟨xs.length - (i + 1), by omega, rfl, hlt, p'⟩, fun x H' y => ?_⟩
    obtain ⟨e, y⟩ := y
    subst e
    exact hs i x _ (y xs q) p
  · have e : i = xs.length := by omega
    subst e
    exact .inl ⟨⟨xs, q, Nat.le_refl _⟩, hd H p⟩
def blkC (N : List Str) (sc scope : Scope) (own : List (Str × Nat)) : Bool :=
  (match scope.kind with | .function => true | _ => false) && (scope.names.all fun y => decide (scope.names.lookup y.1 = some y.2)) && (own.all fun p => decide (N[p.2]? = some p.1)) &&
    (scope.names.all fun y => match y.2 with
      | .free => (match sc.names.lookup y.1 with | some .cell => true | some .free => true | _ => false)
      | .local => decide (y.1 ∈ own.map (·.1)) || decide (y.1 ∉ N)
      | .cell => decide (y.1 ∈ own.map (·.1)) || decide (y.1 ∉ N)
      | _ => true)
theorem blkOk_by {N : List Str} {sc scope : Scope} {own : List (Str × Nat)} (h : blkC N sc scope own = true) : BlkOk N sc scope own := by
  unfold blkC at h
  simp only [Bool.and_eq_true, List.all_eq_true, decide_eq_true_eq] at h
  obtain ⟨⟨⟨h1, h2⟩, h3⟩, h4⟩ := h
  refine ⟨?_, h2, h3, fun y hy e => ?_, fun y hy e => ?_⟩
  · split at h1
    · assumption
    · cases h1
  · have q := h4 y hy
    simp only [e] at q
    split at q <;> first | exact .inl (by assumption) | exact .inr (by assumption) | cases q
  · have q := h4 y hy
    rcases e with e | e <;> (simp only [e, Bool.or_eq_true, decide_eq_true_eq] at q; exact q)
end L2
namespace L2
open PySem PySem.Spec PyProof.Rows
section
variable {prog : Program} {w : World} {A : Around} {R : Result → Shared → Prop} {s : Shared} {elt t0 i0 t1 i1 : Expr} {ifs0 ifs1 : List Expr} {scope : Scope} {pos : Pos} {it acc : Value} {env : Env}
end
section
variable {X : Cx}
end
end L2
namespace L2
open PySem PySem.Spec PyProof.Rows
section
variable {κ : Type} [DecidableEq κ]
end
section
variable {P : Program} {w : World} {H : Hp} {h : Heap} {a : Addr}
end
section
variable {X : Cx} {pins : List (Addr × Obj)} {σ : St} {H : Hp} {s : Shared} {a : Addr} {y v : V} {u r : Value} {o : Option V} {A : Around} {E : Value → Shared → Prop}
end
section
variable {X : Cx} {pins : List (Addr × Obj)} {σ : St} {H : Hp} {s : Shared} {a : Addr} {kvs : List (Key × V)} {k : Key} {u : Value} {A : Around} {E : Value → Shared → Prop}
end
section
variable {X : Cx} {o i e value : Expr} {pos pos' tpos : Pos} {td ty tv : TE}
end
section
variable {X : Cx} {pos : Pos}
end
section
variable {X : Cx} {pins : List (Addr × Obj)} {σ : St} {H : Hp} {s : Shared} {a : Addr} {y d : V} {u r : Value} {o : Option V} {A : Around} {E : Value → Shared → Prop}
end
section
variable {X : Cx} {o e f : Expr} {apos cpos : Pos} {td ty tx : TE}
end
section
variable {X : Cx} {pins : List (Addr × Obj)} {σ : St} {H : Hp} {s : Shared} {a : Addr} {kvs : List (Key × V)} {A : Around} {E : Value → Shared → Prop}
end
section
variable {X : Cx} {pins : List (Addr × Obj)} {σ : St} {H : Hp} {s : Shared} {a : Addr} {y : V} {u : Value} {A : Around} {E : Value → Shared → Prop}
end
end L2
namespace L2
open PySem PySem.Spec PyProof.Rows
section
variable {prog : Program} {w : World} {A : Around} {E : Value → Shared → Prop}
end
section
variable {X : Cx}
end
end L2
namespace L2
open PySem PySem.Spec PyProof.Rows
section
variable {X : Cx} {pins : List (Addr × Obj)} {σ : St} {H : Hp} {s : Shared} {h' : Heap}
end
section
variable {X : Cx}
theorem pi_one {tg : Expr} {pins : List (Addr × Obj)} {σ : St} {H : Hp} {s : Shared} {R : It → Hp → Prop} {J : It} {tn : Nat → Heap → Prop} {tk : Nat} (I : Inv X pins σ H s) (o : Obj)
    (T : Turn X.prog X.w X.K tg J [s.heap.objs.size] s.heap.objs.size tn) (st : tn 0 (s.heap.push o)) (q : R J H) : PIE X pins σ tg R (.ref s.heap.objs.size) { s with heap := s.heap.push o, toks := tk } := by
  refine ⟨s.heap.objs.size, [s.heap.objs.size], tn, J, H, rfl, I.kept fun b ob e => Heap.get?_push_of_some _ e, T, st, fun b hb => ?_, q⟩
  have e : b = s.heap.objs.size := by simpa using hb
  subst e
  exact I.fpOk (Nat.le_refl _) (I.hok.fresh (Nat.le_refl _))
end
section
variable {X : Cx} {tg : Expr}
end
section
variable {X : Cx} {tg : Expr}
end
def Its (x : Str) : It := ⟨fun i _ => i < x.cps.size, fun i H v H' => H' = H ∧ ∃ c, x.cps[i]? = some c ∧ v = .str ⟨#[c]⟩, fun i _ => x.cps.size ≤ i⟩
theorem turn_str {P : Program} {w : World} {K : PySem.W.Frag} {tg : Expr} (it : Addr) (x : Str) (t : Tok) (ty : String) (hty : ty = "str_ascii_iterator" ∨ ty = "str_iterator") :
    Turn P w K tg (Its x) [it] it (fun i h => h.IsStrIter it ty x t i) where
  mem := by simp
  obj := fun i h st b hb => by
    have e : b = it := by simpa using hb
    subst e
    obtain ⟨o, e, c, d⟩ := st
    exact ⟨o, e, fun v z => by rw [d] at z; cases z⟩
  keep := fun i h h' st k => let ⟨o, ho, r⟩ := st; ⟨o, k it (by simp) o ho, r⟩
  item := by
    intro X hP hw hK hc i pins s σ H E I hf st hg
    subst hP hw hK
    obtain ⟨f0, f1, f2, f3, f4, f5⟩ := hf it (by simp)
    have W : Walks X.prog X.w X.A it [it] [it] x.cps.size (SignAt x) (fun i h => h.IsStrIter it ty x t i) := by
      rcases hty with e | e
      · rw [e]; exact Walks.strAscii (I.ok.hd hc) it x t
      · rw [e]; exact Walks.strWide (I.ok.hd hc) it x t
    have hno : ["enumerate", "zip", "dict_itemiterator", "dict_reverseitemiterator", "odict_iterator", "itertools.zip_longest", "itertools.pairwise"].contains ty = false := by
      rcases hty with e | e
      · rw [e]; decide
      · rw [e]; decide
    refine W.item i s _ _ hg st fun v h' tk hv st' kk => ?_
    obtain ⟨c, u, hcx, rfl⟩ := hv
    have I1 : Inv X pins σ H { s with heap := h', toks := tk } := I.turned (fun b o hb e => kk b o (by simpa using hb) e) f0 f1 f3 f4 f5
    obtain ⟨oi, e, cc, dd⟩ := id st'
    exact ⟨_, rfl, go_of (s := { s with heap := h', toks := tk }) e cc dd hno ⟨.str ⟨#[c]⟩, H, I1, ⟨u, rfl⟩, ⟨rfl, c, hcx, rfl⟩, st', fun b hb => (hf b hb).1⟩⟩
  done := by
    intro X hP hw hK hc i pins s σ H E I hf st hg
    subst hP hw hK
    obtain ⟨f0, f1, f2, f3, f4, f5⟩ := hf it (by simp)
    have hx : x.cps[i]? = none := Array.getElem?_eq_none hg
    rcases hty with e | e
    · rw [e] at st
      exact wpAny_pyNext_ascii_end (I.ok.hd hc) st hx fun h' eb => ⟨rfl, I.turned (t' := s.toks) (fun b o hb e => eb b o hb e) f0 f1 f3 f4 f5⟩
    · rw [e] at st
      exact wpAny_pyNext_wide_end (I.ok.hd hc) st hx fun h' eb => ⟨rfl, I.turned (t' := s.toks) (fun b o hb e => eb b o hb e) f0 f1 f3 f4 f5⟩
  self := fun A i s Q E st h => by
    rcases hty with e | e
    · rw [e] at st; exact wpAny_pyIter_striter_ascii st h
    · rw [e] at st; exact wpAny_pyIter_striter_wide st h
def iStr (te : TE) : TI := fun σ H R => te σ H fun v H1 => ∃ x, v = .str x ∧ R (Its x) H1
theorem pi_str {X : Cx} {tg e : Expr} {te : TE} (he : PE X e te) : PI X tg e (iStr te) := by
  intro pins s σ H R I h
  refine thn (he pins s σ H _ I h) fun v s1 ⟨y, H1, I1, r1, x, ex, q⟩ => ?_
  subst ex
  obtain ⟨t, rfl⟩ := r1
  cases ha : x.cps.all (· < 128)
  · exact wpAny_pyIter_wide ha (pi_one (tk := s1.toks) I1 _ (turn_str _ x t "str_iterator" (.inr rfl)) ⟨_, Heap.get?_push_size _ rfl, rfl, rfl⟩ q)
  · exact wpAny_pyIter_ascii ha (pi_one (tk := s1.toks) I1 _ (turn_str _ x t "str_ascii_iterator" (.inl rfl)) ⟨_, Heap.get?_push_size _ rfl, rfl, rfl⟩ q)
section
variable {prog : Program} {w : World} {A : Around} {E : Value → Shared → Prop} {s : Shared}
end
section
variable {X : Cx} {pins : List (Addr × Obj)} {σ : St} {H : Hp} {s : Shared} {d : Addr} {o : Obj}
end
section
variable {P : Program} {w : World} {K : PySem.W.Frag} {tg : Expr} {d : Addr} {o : Obj} {es : Array DictEntry} {ep : Nat}
end
section
variable {X : Cx} {tg e : Expr} {td : TE} {apos cpos : Pos}
end
end L2
namespace L2
open PySem PySem.Spec PyProof.Rows
section
variable {X : Cx} {pins : List (Addr × Obj)} {σ : St} {H : Hp} {s : Shared} {Q : VK}
end
section
variable {X : Cx}
end
section
variable {X : Cx} {o e : Expr} {to te : TE}
end
end L2
namespace L2
open PySem PySem.Spec PyProof.Rows
section
variable {X : Cx}
end
end L2
namespace Att
open PySem PySem.W PySem.Calls PyProof.Rows
section
variable {prog : Program} {w : World} {A : Around} {E : Value → Shared → Prop} {s : Shared} {K : Frag}
end
end Att
namespace L2
open PySem PySem.Spec PyProof.Rows
abbrev KOf {K : PySem.W.Frag} {h : Heap} (_ : K.In h) : PySem.W.Frag := K
end L2
namespace L2
open PySem PySem.Spec PyProof.Rows
def inClass (s : Stmt) (j : Nat) : Stmt := match s with
  | .ClassDef _ _ _ body _ _ _ _ _ _ _ => body.getD j (.Pass ⟨0, 0, 0, 0⟩)
  | _ => .Pass ⟨0, 0, 0, 0⟩
def defArgs (s : Stmt) : Arguments := match s with
  | .FunctionDef _ a _ _ _ _ _ _ _ _ => a
  | _ => { posonlyargs := [], args := [], vararg := none, kwonlyargs := [], kw_defaults := [], kwarg := none, defaults := [] }
def defBody (s : Stmt) : List Stmt := match s with
  | .FunctionDef _ _ b _ _ _ _ _ _ _ => b
  | _ => []
def defScope (s : Stmt) : Scope := match s with
  | .FunctionDef _ _ _ _ _ _ sc _ _ _ => sc
  | _ => { kind := .function, names := [], isGenerator := false, isCoroutine := false }
abbrev CX0 : CXT := fun _ _ _ _ _ _ => False
abbrev E0 : XK := fun _ _ _ => False
theorem pass0 {X : Cx} : Passes CX0 X E0 := fun _ _ _ _ _ _ _ h => h.elim
structure Fun (K : PySem.W.Frag) (x qual : Str) (st : Stmt) (f : Addr) (fd : FuncData) : Prop where
  ex : ∃ (oc : Value) (od : Option Addr) (kV doc pm : Value) (an : Option Addr) (cdv ct : Value) (osl : Array (Option Value)),
    fd = PySem.W.fnOf x qual (defArgs st) (defBody st) (defScope st) .none kV doc pm an cdv ct ∧ K.lookup f = some ⟨oc, od, .func fd, osl⟩ ∧ PySem.W.codeIn K cdv qual = true
  kp : PySem.W.keepIn K (.ref f) = true
section
variable {P : Program} {w : World} {K : PySem.W.Frag} {mg : Str → Option Value} {base : Heap}
theorem Fun.ok {x qual : Str} {st : Stmt} {f : Addr} {fd : FuncData} {N ps : List Str} {k : Nat} {sp : Sp} (F : Fun K x qual st f fd) (S : FnScope N ps (defScope st)) (len : ∀ vs H Q E, sp vs H Q E → vs.length = ps.length)
    (hbody : ∀ (cdv : Value) (A : Around) (outer : List Env) (s : Shared) (H : Hp) (vs : List V) (Q : VK) (E : XK), Room k (A.deeper (envOfC qual (defScope st) s.heap.objs.size f cdv)) → sp vs H Q E →
      ∃ t, PSs (cxOf CX0 P w K mg base N qual (defScope st) f cdv A outer s H E).nox (defBody st) t ∧ t { nx := fun _ H' => Q .non H', rt := Q } (start N vs) H) : FnOk P w K mg base CX0 (k + 1) f fd ps sp := by
  obtain ⟨oc, od, kV, doc, pm, an, cdv, ct, osl, rfl, lk, hcd⟩ := F.ex
  refine fn_of lk hcd S len fun A outer s H vs Q E hr hsp => ?_
  obtain ⟨t, h, q⟩ := hbody cdv A outer s H vs Q E hr hsp
  exact ⟨t, h.nox, q⟩
theorem Fun.binds {x qual : Str} {st : Stmt} {f : Addr} {fd : FuncData} {ps : List Str} (F : Fun K x qual st f fd)
    (h : ∀ (kV doc pm : Value) (an : Option Addr) (cdv ct : Value) (us : List Value), us.length = ps.length → bindArgs (PySem.W.fnOf x qual (defArgs st) (defBody st) (defScope st) .none kV doc pm an cdv ct) ⟨us, []⟩ = pure (ps.zip us)) : Binds K fd ps [] := by
  obtain ⟨oc, od, kV, doc, pm, an, cdv, ct, osl, rfl, lk, hcd⟩ := F.ex
  exact .all (h kV doc pm an cdv ct)
theorem fun_mk {x qual : Str} {st : Stmt} {f : Addr} {oc : Value} {od an : Option Addr} {osl : Array (Option Value)} {kV doc pm cdv ct : Value} (l : K.lookup f = some ⟨oc, od, .func (PySem.W.fnOf x qual (defArgs st) (defBody st) (defScope st) .none kV doc pm an cdv ct), osl⟩)
    (c : PySem.W.codeIn K cdv qual = true) (k : PySem.W.keepIn K (.ref f) = true) : Fun K x qual st f (PySem.W.fnOf x qual (defArgs st) (defBody st) (defScope st) .none kV doc pm an cdv ct) := ⟨⟨oc, od, kV, doc, pm, an, cdv, ct, osl, rfl, l, c⟩, k⟩
end
section
variable {X : Cx}
theorem pv (i : Nat) {x : Str} {pos : Pos} (hN : X.N[i]? = some x := by rfl) (hv : Vis X.env.scope x := by first | exact Or.inl rfl | exact Or.inr (Or.inl rfl) | exact Or.inr (Or.inr rfl)) (hd : (x == ("__debug__" : Str)) = false := by decide)
    (hcd : (x == ("__classdict__" : Str)) = false := by decide) : PE X (.Name x pos) (tVar i) := pe_var hN hv hd hcd
end
theorem iteF {A B : Prop} (h : B) : if false = true then A else B := by
  rw [if_neg Bool.false_ne_true]
  exact h
theorem iteT {A B : Prop} (h : A) : if true = true then A else B := by
  rw [if_pos rfl]
  exact h
theorem ite2 {c A B : Prop} [Decidable c] (h1 : c → A) (h2 : ¬ c → B) : if c then A else B := by
  by_cases h : c
  · rw [if_pos h]
    exact h1 h
  · rw [if_neg h]
    exact h2 h
def Same (H H' : Hp) : Prop := ∀ b o, H b = some o → H' b = some o
theorem Same.refl (H : Hp) : Same H H := fun _ _ h => h
theorem Same.trans {H H1 H2 : Hp} (a : Same H H1) (b : Same H1 H2) : Same H H2 := fun c o h => b c o (a c o h)
theorem Same.free {H H' : Hp} (e : Same H H') {l : Addr} (h : H' l = Option.none) : H l = Option.none := by
  cases q : H l with
  | none => rfl
  | some o =>
    rw [e l o q] at h
    cases h
theorem Same.seq {K : PySem.W.Frag} {H H' : Hp} {a : Addr} {xs : List V} (e : Same H H') (h : SqL K H a xs) : SqL K H' a xs := by
  rcases h with (h | ⟨o, h⟩) | h
  · exact .inl (.inl (e _ _ h))
  · exact .inl (.inr ⟨o, e _ _ h⟩)
  · exact .inr h
section
variable {κ : Type} [DecidableEq κ]
end
theorem at_of {xs : List V} {z : Int} {j : Nat} {v : V} (e : z = (j : Int)) (h : xs[j]? = some v) : atI xs z = some v := by
  rw [e]
  exact atI_nat h
end L2
end
section
namespace L2
open PySem PySem.Spec PyProof.Rows
structure Left (fr : List Addr) (e : Addr) (oe : Obj) (hv fl : Value) (h h' : Heap) (T : Addr) : Prop where
  new : h.objs.size ≤ T
  exc : h'.get? e = some (oe.mapFields (·.setIfInBounds 1 (.ref T)))
  tb : ∃ oT ts, h'.get? T = some oT ∧ oT.data = .fields ts ∧ ts[3]? = some fl
  keep : ∀ b o, b ≠ e → hv ≠ .ref b → b ∉ fr → h.get? b = some o → h'.get? b = some o
  slot : ∀ b o, b ≠ e → hv ≠ .ref b → b ∈ fr → h.get? b = some o → ∃ sl, h'.get? b = some { o with slots := sl }
section
variable {M : Model} {A : Around} {E : Value → Shared → Prop} {s : Shared} {base : Heap} {env : Env} {outer : List Env} {L e : Addr} {oe : Obj} {vs : Array Value} {Q : Unit → Shared → Prop}
theorem tail_exact {head : Value} {hn : Bool} (hfr : A.frames = some (env :: outer)) (hl : s.heap.FunFrames base (env :: outer)) (hf : env.frame = some L)
    (he : s.heap.get? e = some oe) (hd : oe.data = .fields vs) (hsz : 1 < vs.size)
    (hq : ∀ h' T, Left (frs (env :: outer)) e oe .none (rawInt L) s.heap h' T → Q () { s with heap := h' }) :
    wpAny M A (do let a ← frameOf env; let pl ← entryPlaceOf L hn; let b ← EntryCells.newEntry head a .none (rawInt L) .none pl; setField (.ref e) 1 b) Q E s := by
  have nfe : e ∉ (env :: outer).filterMap (·.frame) := fun hm => by
    obtain ⟨_, o, ho, nf⟩ := hl.mem hm
    rw [he] at ho
    cases ho
    exact nf vs hd
  refine wpAny_bind (wpAny_frameOf_fun hfr hl hf fun h1 hs => wpAny_bind (wpAny_entryPlaceOf fun pl hpl => wpAny_bind ?_))
  unfold EntryCells.newEntry newFields
  refine wpAny_newObj_type ?_ (hpl.sizeOk5 _ _ _ _ _)
  generalize hcells : ([head, .ref L, .none, rawInt L, .none] ++ (if pl.isEmpty then List.replicate 6 Value.none else pl)).toArray = cells
  have h3 : cells[3]? = some (rawInt L) := by rw [← hcells]; simp
  have e1 : h1.get? e = some oe := (hs.2.1 e nfe).trans he
  have e2 := Heap.get?_push_of_some (h := h1) { cls := .type "traceback", dict := none, data := .fields cells } e1
  refine wpAny_setField e2 hd hsz ?_
  have sz : h1.objs.size = s.heap.objs.size := hs.1
  have nT : h1.objs.size ≠ e := Nat.ne_of_gt (Heap.lt_size e1)
  have d3 := Obj.data_mapFields hd (·.setIfInBounds 1 (Value.ref h1.objs.size))
  refine hq _ h1.objs.size ⟨Nat.le_of_eq sz.symm, Heap.get?_update_self _ e2 (Obj.isFreed_of_fields d3), ⟨_, cells, (Heap.get?_update_other _ _ (Ne.symm nT)).trans (Heap.get?_push_size h1 rfl), rfl, h3⟩, fun b o hb _ hfb q => ?_, fun b o hb _ hfb q => ?_⟩
  · exact (Heap.get?_update_other _ _ (Ne.symm hb)).trans (Heap.get?_push_of_some _ ((hs.2.1 b hfb).trans q))
  · obtain ⟨sl, q2⟩ := hs.2.2 b o q
    exact ⟨sl, (Heap.get?_update_other _ _ (Ne.symm hb)).trans (Heap.get?_push_of_some _ q2)⟩
def HeadOk (h : Heap) (e : Addr) (v : Value) : Prop := v = .none ∨ ∃ T oT ts, v = .ref T ∧ T ≠ e ∧ h.get? T = some oT ∧ oT.data = .fields ts ∧ ts[3]? = some .none
theorem note_exact {hv : Value} (hfr : A.frames = some (env :: outer)) (hl : s.heap.FunFrames base (env :: outer)) (hf : env.frame = some L)
    (he : s.heap.get? e = some oe) (hd : oe.data = .fields vs) (h1 : vs[1]? = some hv) (hh : HeadOk s.heap e hv)
    (hq : ∀ h' T, Left (frs (env :: outer)) e oe hv (rawInt L) s.heap h' T → Q () { s with heap := h' }) : wpAny M A (noteFrame (.ref e) env) Q E s := by
  have hsz : 1 < vs.size := (Array.getElem?_eq_some_iff.mp h1).1
  unfold noteFrame
  simp only [hf]
  refine wpAny_bind (wpAny_field he hd h1 ?_)
  rcases hh with rfl | ⟨T, oT, ts, rfl, nT, hT, dT, h3⟩
  · rw [if_neg (by decide)]
    exact tail_exact hfr hl hf he hd hsz hq
  · rw [if_pos (show (Value.ref T != Value.none) = true by simp)]
    refine wpAny_bind (wpAny_field hT dT h3 ?_)
    rw [if_neg (show ¬ ((Value.none == rawInt L) = true) by simp [rawInt])]
    refine wpAny_bind (wpAny_setField hT dT (Array.getElem?_eq_some_iff.mp h3).1 ?_)
    have oth : ∀ b, b ≠ T → (s.heap.update T (Obj.mapFields (·.setIfInBounds 3 Value.none))).get? b = s.heap.get? b := fun b hb => Heap.get?_update_other _ _ (Ne.symm hb)
    refine tail_exact hfr (hl.of_keeps fun b o q nf => ⟨o, (oth b fun z => ?_).trans q, rfl⟩) hf ((oth e (Ne.symm nT)).trans he) hd hsz fun h' T' z => hq h' T' ⟨?_, z.exc, z.tb, fun b o hb hb2 hfb q => ?_, fun b o hb hb2 hfb q => ?_⟩
    · rw [z, hT] at q
      cases q
      exact nf ts dT
    · have := z.new
      simpa [Heap.update] using this
    · exact z.keep b o hb (fun q => nomatch q) hfb ((oth b fun q => hb2 (by rw [q])).trans q)
    · exact z.slot b o hb (fun q => nomatch q) hfb ((oth b fun q => hb2 (by rw [q])).trans q)
theorem leave_two {hv : Value} {E2 : Value → Shared → Prop} (hfr : A.frames = some (env :: outer)) (hl : s.heap.FunFrames base (env :: outer)) (hf : env.frame = some L)
    (he : s.heap.get? e = some oe) (hd : oe.data = .fields vs) (h1 : vs[1]? = some hv) (hh : HeadOk s.heap e hv)
    (hq : ∀ h' T, Left (frs (env :: outer)) e oe hv .none s.heap h' T → Q () { s with heap := h' }) : wpAny M A (noteFrame (.ref e) env) (fun _ s2 => wpAny M A (setFlight (.ref e) none) Q E2 s2) E s := by
  have hsz : 1 < vs.size := (Array.getElem?_eq_some_iff.mp h1).1
  refine note_exact hfr hl hf he hd h1 hh fun h' T z => ?_
  obtain ⟨oT, ts, hT, dT, h3⟩ := z.tb
  have d2 := Obj.data_mapFields hd (·.setIfInBounds 1 (Value.ref T))
  have nT : T ≠ e := Nat.ne_of_gt (Nat.lt_of_lt_of_le (Heap.lt_size he) z.new)
  unfold setFlight
  refine wpAny_bind (wpAny_field z.exc d2 (x := .ref T) (by simp [hsz]) ?_)
  rw [if_pos (show (Value.ref T != Value.none) = true by simp)]
  refine wpAny_setField hT dT (Array.getElem?_eq_some_iff.mp h3).1 ?_
  have oth : ∀ b, b ≠ T → (h'.update T (Obj.mapFields (·.setIfInBounds 3 ((none : Option Addr).elim Value.none fun f => rawInt f)))).get? b = h'.get? b := fun b hb => Heap.get?_update_other _ _ (Ne.symm hb)
  have old : ∀ b o, s.heap.get? b = some o → b ≠ T := fun b o q => Nat.ne_of_lt (Nat.lt_of_lt_of_le (Heap.lt_size q) z.new)
  refine hq _ T ⟨z.new, (oth e (Ne.symm nT)).trans z.exc, ⟨_, _, Heap.get?_update_self _ hT (Obj.isFreed_of_fields (Obj.data_mapFields dT _)), Obj.data_mapFields dT _, ?_⟩, fun b o hb hb2 hfb q => (oth b (old b o q)).trans (z.keep b o hb hb2 hfb q), fun b o hb hb2 hfb q => ?_⟩
  · simp [(Array.getElem?_eq_some_iff.mp h3).1]
  · obtain ⟨sl, q2⟩ := z.slot b o hb hb2 hfb q
    exact ⟨sl, (oth b (old b o q)).trans q2⟩
theorem leave_exact {hv : Value} (hfr : A.frames = some (env :: outer)) (hl : s.heap.FunFrames base (env :: outer)) (hf : env.frame = some L)
    (he : s.heap.get? e = some oe) (hd : oe.data = .fields vs) (h1 : vs[1]? = some hv) (hh : HeadOk s.heap e hv)
    (hq : ∀ h' T, Left (frs (env :: outer)) e oe hv .none s.heap h' T → Q () { s with heap := h' }) : wpAny M A (leaving env (.ref e)) Q E s := by
  unfold leaving
  exact wpAny_bind (leave_two hfr hl hf he hd h1 hh hq)
end
end L2
end
section
namespace L2
open PySem PySem.Spec PyProof.Rows
structure Fly (h : Heap) (a : Addr) (cls : Value) (dx : Option Addr) (hv : Value) : Prop where
  exc : ∃ oe vs, h.get? a = some oe ∧ oe.cls = cls ∧ oe.dict = dx ∧ oe.data = .fields vs ∧ vs[1]? = some hv
  head : HeadOk h a hv
def CXR (P : Program) (w : World) : CXT := fun outer H s E e s' => ∃ a cls dx hv H', e = .ref a ∧ s'.os = s.os ∧ AllBare s'.gens ∧ Un (frs outer) [] H H' s.heap s'.heap ∧ HOk P w H' s'.heap ∧ Fly s'.heap a cls dx hv ∧
  s.heap.get? a = none ∧ H' a = none ∧ (∀ T, hv = .ref T → s.heap.get? T = none ∧ H' T = none) ∧ E cls dx H'
theorem map_dict (o : Obj) (f : Array Value → Array Value) : (o.mapFields f).dict = o.dict := by
  obtain ⟨c, d, dt, sl⟩ := o
  cases dt <;> rfl
def Throws (X : Cx) (E : XK) : Prop := ∀ (pins : List (Addr × Obj)) (σ : St) (H : Hp) (s : Shared) (a : Addr) (cls : Value) (dx : Option Addr) (hv : Value), Inv X pins σ H s → Fly s.heap a cls dx hv →
  X.s_0.heap.get? a = none → H a = none → (∀ T, hv = .ref T → X.s_0.heap.get? T = none ∧ H T = none) → (∀ p ∈ X.pn ++ pins, p.1 ≠ a ∧ hv ≠ .ref p.1) → E cls dx H → X.xe (.ref a) s
theorem Inv.old {X : Cx} {pins : List (Addr × Obj)} {σ : St} {H : Hp} {s : Shared} (I : Inv X pins σ H s) (hex : X.ex = []) {a : Addr} (h : s.heap.get? a = none) : X.s_0.heap.get? a = none := by
  cases q : X.s_0.heap.get? a with
  | none => rfl
  | some o =>
    obtain ⟨o', e⟩ := I.base.there a o q (by rw [hex]; simp)
    rw [h] at e
    cases e
theorem Throws.passes {X : Cx} {E : XK} (t : Throws X E) (hex : X.ex = []) : Passes (CXR X.prog X.w) X E := fun pins σ H s e s' I h => by
  obtain ⟨a, cls, dx, hv, H', rfl, os, bare, un, hok, fl, ha, hHa, hT, hE⟩ := h
  have I' : Inv X pins σ H' s' := I.call' (ch := []) os un hok bare fun b hb => absurd hb (by simp)
  refine t pins σ H' s' a cls dx hv I' fl (I.old hex ha) hHa (fun T e => ⟨I.old hex (hT T e).1, (hT T e).2⟩) (fun p hp => ?_) hE
  have z := (I.pin p hp).1
  exact ⟨fun e => (by rw [e, ha] at z; cases z), fun e => (by rw [(hT _ e).1] at z; cases z)⟩
theorem fly_leave {X : Cx} {pins : List (Addr × Obj)} {σ : St} {H : Hp} {s : Shared} {a : Addr} {cls hv : Value} {dx : Option Addr} {E : XK} {E' : Value → Shared → Prop} (I : Inv X pins σ H s) (hex : X.ex = []) (hst : X.stack = X.env :: X.outer) (hf : X.env.frame = some X.env.locals)
    (fl : Fly s.heap a cls dx hv) (ha : X.s_0.heap.get? a = none) (hHa : H a = none) (hT : ∀ T, hv = .ref T → X.s_0.heap.get? T = none ∧ H T = none) (hE : E cls dx H) :
    wpAny (model X.prog X.w) X.A (leaving X.env (.ref a)) (fun _ s'' => CXR X.prog X.w X.outer X.H_0 X.s_0 E (.ref a) s'') E' s := by
  obtain ⟨oe, vs, he, hc, hdx, hd, h1⟩ := fl.exc
  have hfr := I.ok.frames
  have hfs := I.stack
  have hfree := I.stkFree
  rw [hst] at hfr hfs hfree
  refine leave_exact hfr hfs hf he hd h1 fl.head fun h' T z => ?_
  have hsz : 1 < vs.size := (Array.getElem?_eq_some_iff.mp h1).1
  have nT : T ≠ a := Nat.ne_of_gt (Nat.lt_of_lt_of_le (Heap.lt_size he) z.new)
  have frc : frs (X.env :: X.outer) = X.env.locals :: X.fs := by unfold Cx.fs frs; rw [List.filterMap_cons, hf]
  have hb0 : Un X.fs [] X.H_0 H X.s_0.heap s.heap := by have q := I.base; rw [hex] at q; exact q
  have ne1 : ∀ b o, X.s_0.heap.get? b = some o → b ≠ a ∧ hv ≠ .ref b ∧ b ≠ X.env.locals := fun b o q => by
    refine ⟨fun e => (by rw [e, ha] at q; cases q), fun e => (by rw [(hT b e).1] at q; cases q), ?_⟩
    exact Nat.ne_of_lt (Nat.lt_of_lt_of_le (Heap.lt_size q) I.ok.above)
  obtain ⟨oT, ts, gT, dT, t3⟩ := z.tb
  refine ⟨a, cls, dx, .ref T, H, rfl, I.os, I.bare, ⟨fun b o q n hb _ => ?_, fun b o q n hb _ => ?_, fun b o q n _ => hb0.free b o q n (by simp), fun b o q _ => ?_, hb0.tups, hb0.frzs, hb0.tbls⟩, fun b o q => ?_, ⟨⟨_, _, z.exc, ?_, ?_, Obj.data_mapFields hd _, ?_⟩, .inr ⟨T, oT, ts, rfl, nT, gT, dT, t3⟩⟩, ha, hHa, fun T' e => ?_, hE⟩
  · obtain ⟨n1, n2, n3⟩ := ne1 b o q
    exact z.keep b o n1 n2 (by rw [frc]; simp [n3, hb]) (hb0.keep b o q n hb (by simp))
  · obtain ⟨n1, n2, n3⟩ := ne1 b o q
    obtain ⟨sl, q2⟩ := hb0.slot b o q n hb (by simp)
    obtain ⟨sl2, q3⟩ := z.slot b _ n1 n2 (by rw [frc]; simp [hb]) q2
    exact ⟨sl2, q3⟩
  · obtain ⟨n1, n2, n3⟩ := ne1 b o q
    obtain ⟨o', q2⟩ := hb0.there b o q (by simp)
    by_cases hm : b ∈ frs (X.env :: X.outer)
    · obtain ⟨sl, q3⟩ := z.slot b o' n1 n2 hm q2
      exact ⟨_, q3⟩
    · exact ⟨o', z.keep b o' n1 n2 hm q2⟩
  · refine (I.hok b o q).stay (fun c u hc' r => ?_) (fun _ q => q) fun _ _ q => q
    have hH : ∃ v, H c = some v := by
      rcases hc' with rfl | q'
      · exact ⟨o, q⟩
      · exact ⟨_, q'⟩
    obtain ⟨v, hv'⟩ := hH
    refine z.keep c u (fun e => ?_) (fun e => ?_) (fun e => ?_) r
    · rw [e, hHa] at hv'; cases hv'
    · rw [(hT c e).2] at hv'; cases hv'
    · rw [hfree c e] at hv'; cases hv'
  · rw [Obj.cls_mapFields]; exact hc
  · rw [map_dict]; exact hdx
  · simp [hsz]
  · cases e
    exact ⟨Heap.get?_none_of_le (Nat.le_trans I.sz z.new), I.hok.fresh z.new⟩
theorem throws_cx {P : Program} {w : World} {K : PySem.W.Frag} {mg : Str → Option Value} {base : Heap} {N : List Str} {qual : Str} {scope : Scope} {f : Addr} {cd : Value} {A : Around} {outer : List Env} {s : Shared} {H : Hp} {E : XK} :
    Throws (cxOf (CXR P w) P w K mg base N qual scope f cd A outer s H E) E := fun pins σ H1 s1 a cls dx hv I fl ha hHa hT _ hE =>
  fly_leave (X := cxOf (CXR P w) P w K mg base N qual scope f cd A outer s H E) I rfl rfl rfl fl ha hHa hT hE
theorem passX {P : Program} {w : World} {K : PySem.W.Frag} {mg : Str → Option Value} {base : Heap} {N : List Str} {qual : Str} {scope : Scope} {f : Addr} {cd : Value} {A : Around} {outer : List Env} {s : Shared} {H : Hp} {E : XK} :
    Passes (CXR P w) (cxOf (CXR P w) P w K mg base N qual scope f cd A outer s H E) E := throws_cx.passes rfl
section
variable {P : Program} {w : World} {K : PySem.W.Frag} {mg : Str → Option Value} {base : Heap}
theorem Fun.okX {x qual : Str} {st : Stmt} {f : Addr} {fd : FuncData} {N ps : List Str} {k : Nat} {sp : Sp} (F : Fun K x qual st f fd) (S : FnScope N ps (defScope st)) (len : ∀ vs H Q E, sp vs H Q E → vs.length = ps.length)
    (hbody : ∀ (cdv : Value) (A : Around) (outer : List Env) (s : Shared) (H : Hp) (vs : List V) (Q : VK) (E : XK), Room k (A.deeper (envOfC qual (defScope st) s.heap.objs.size f cdv)) → sp vs H Q E →
      ∃ t, PSs (cxOf (CXR P w) P w K mg base N qual (defScope st) f cdv A outer s H E) (defBody st) t ∧ t { nx := fun _ H' => Q .non H', rt := Q } (start N vs) H) : FnOk P w K mg base (CXR P w) (k + 1) f fd ps sp := by
  obtain ⟨oc, od, kV, doc, pm, an, cdv, ct, osl, rfl, lk, hcd⟩ := F.ex
  exact fn_of lk hcd S len fun A outer s H vs Q E hr hsp => hbody cdv A outer s H vs Q E hr hsp
end
def xobj (C t : Addr) (d : Option Addr) : Obj := { cls := .ref C, dict := d, data := .fields #[.ref t, .none, .none, .none, .bool false, .none] }
def XO (C a t : Addr) (d : Option Addr) : HO := .ext fun h => h.get? a = some (xobj C t d)
theorem XO.ok {P : Program} {w : World} {H : Hp} {h : Heap} {C a t : Addr} {d : Option Addr} (e : h.get? a = some (xobj C t d)) : ObjOk P w H h a (XO C a t d) := ⟨e, ⟨_, e⟩, fun _ _ p k => k _ p⟩
theorem XO.at_ {P : Program} {w : World} {H : Hp} {h : Heap} {C a t : Addr} {d : Option Addr} (x : ObjOk P w H h a (XO C a t d)) : h.get? a = some (xobj C t d) := x.1
theorem ObjOk.there {P : Program} {w : World} {H : Hp} {h : Heap} {a : Addr} {o : HO} (x : ObjOk P w H h a o) : ∃ ob, h.get? a = some ob := by
  cases o with
  | lst xs => obtain ⟨_, _, _, _, e⟩ := x; exact ⟨_, e⟩
  | tup xs => obtain ⟨_, _, _, ob, e, _⟩ := x; exact ⟨_, e⟩
  | dK kvs => obtain ⟨_, _, _, _, o, _, _, e, _⟩ := x; exact ⟨_, e⟩
  | dT kvs => obtain ⟨_, _, _, _, o, _, _, e, _⟩ := x; exact ⟨_, e⟩
  | set S n => obtain ⟨o, _, _, _, e, _⟩ := x; exact ⟨_, e⟩
  | ins C dx fs => obtain ⟨_, _, _, e, _⟩ := x; exact ⟨_, e⟩
  | own y => exact x
  | xd fs => obtain ⟨_, ⟨_, _, _, e, _⟩, _⟩ := x; exact ⟨_, e⟩
  | rng lo hi => obtain ⟨_, _, _, e⟩ := x; exact ⟨_, e⟩
  | frz ob u => obtain ⟨e, _⟩ := x; exact ⟨_, e⟩
  | tbl ps => exact ⟨_, (show h.get? a = some _ from x)⟩
  | met f y => exact ⟨_, (show h.get? a = some _ from x)⟩
  | ext φ => exact x.2.1
theorem HOk.none_of {P : Program} {w : World} {H : Hp} {h : Heap} {a : Addr} (x : HOk P w H h) (e : h.get? a = none) : H a = none := by
  cases q : H a with
  | none => rfl
  | some o =>
    obtain ⟨ob, z⟩ := (x a o q).there
    rw [e] at z
    cases z
theorem Inv.laidAt {X : Cx} {pins : List (Addr × Obj)} {σ : St} {H : Hp} {s : Shared} {h' : Heap} {a : Addr} {o : HO} {t' : Nat} (I : Inv X pins σ H s) (k : ∀ b u, s.heap.get? b = some u → h'.get? b = some u) (hn : s.heap.get? a = none) (new : ObjOk X.prog X.w (upd H a o) h' a o) :
    Inv X pins σ (upd H a o) { s with heap := h', toks := t' } := by
  have hH : H a = none := I.hok.none_of hn
  have ne : ∀ b u, s.heap.get? b = some u → b ≠ a := fun b u q e => by rw [e, hn] at q; cases q
  refine I.un ⟨fun b u q _ _ _ => k b u q, fun b u q _ _ _ => ⟨u.slots, k b u q⟩, fun b u q n _ => by rw [upd_ne (ne b u q)]; exact n, fun b u q _ => ⟨u, k b u q⟩, fun b xs q => by rw [upd_ne (ne_of_none q hH)]; exact q, fun b u xs q => by rw [upd_ne (ne_of_none q hH)]; exact q,
    fun b ps q => ⟨#[], by rw [upd_ne (ne_of_none q hH), q]; simp⟩⟩ fun b u e => ?_
  by_cases hb : b = a
  · subst hb; rw [upd_same] at e; cases e; exact new
  · rw [upd_ne hb] at e
    exact (I.hok b u e).stay (fun c v _ q => k c v q) (fun c q => by rw [upd_ne (ne_of_none q hH)]; exact q) fun c xs q => by rw [upd_ne (ne_of_none q hH)]; exact q
def untr (H : Hp) (a : Addr) : Hp := fun b => if b = a then none else H b
theorem untr_same {H : Hp} {a : Addr} : untr H a a = none := by unfold untr; rw [if_pos rfl]
theorem untr_ne {H : Hp} {a b : Addr} (h : b ≠ a) : untr H a b = H b := by unfold untr; rw [if_neg h]
theorem Inv.untrack {X : Cx} {pins : List (Addr × Obj)} {σ : St} {H : Hp} {s : Shared} {a : Addr} {φ : Heap → Prop} (I : Inv X pins σ H s) (h : H a = some (.ext φ)) (hex : X.ex = []) (ha : X.s_0.heap.get? a = none) : Inv X pins σ (untr H a) s := by
  have nn : ∀ b, H b = none → untr H a b = none := fun b q => by
    by_cases e : b = a
    · rw [e]; exact untr_same
    · rw [untr_ne e]; exact q
  have ns : ∀ b o, H b = some o → (∀ φ', o ≠ .ext φ') → untr H a b = some o := fun b o q ne => by
    rw [untr_ne fun e => by rw [e, h] at q; cases q; exact ne _ rfl]; exact q
  refine ⟨I.ok, I.os, I.bare, ⟨fun b o q n hb hx => I.base.keep b o q n hb hx, fun b o q n hb hx => I.base.slot b o q n hb hx, fun b o q n hx => nn b (I.base.free b o q n hx), I.base.there,
    fun b xs q => ns b _ (I.base.tups b xs q) (fun _ z => nomatch z), fun b o u q => ns b _ (I.base.frzs b o u q) (fun _ z => nomatch z), fun b ps q => ?_⟩, I.loc, I.cell, nn _ I.free, fun x c e => nn _ (I.freeC x c e), fun p hp => ?_, fun b o q => ?_, I.len⟩
  · obtain ⟨m, z⟩ := I.base.tbls b ps q
    exact ⟨m, ns b _ z (fun _ z => nomatch z)⟩
  · obtain ⟨e, n, r⟩ := I.pin p hp
    exact ⟨e, nn _ n, r⟩
  · have hb : b ≠ a := fun e => by rw [e, untr_same] at q; cases q
    rw [untr_ne hb] at q
    exact (I.hok b o q).stay (fun _ _ _ r => r) (fun c z => ns c _ z (fun _ z => nomatch z)) fun c xs z => ns c _ z (fun _ z => nomatch z)
end L2
end
section
namespace L2
open PySem PySem.Spec PyProof.Rows
abbrev excMro : List Value := [.type "Exception", .type "BaseException", .type "object"]
structure XCls (K : PySem.W.Frag) (C N f : Addr) : Prop where
  obj : ∃ (nm q : Str) (bs : List Value) (sn : List Str) (sub : List Value) (ab : Bool) (col : Option Bool) (dd : Option Addr) (k0 k1 k2 k3 k5 : Option Value),
    K.lookup C = some (excClassObj nm q C N bs excMro true sn sub ab col dd k0 k1 k2 k3 k5 "Exception.__new__")
  ns : ∃ (oc : Value) (od : Option Addr) (es : Array DictEntry) (n : Nat) (sl : Array (Option Value)), K.lookup N = some ⟨oc, od, .dict es n, sl⟩ ∧ (es.toList.all fun e => match e.key with | .str _ _ => true | _ => false) = true
  init : PySem.W.nsIn K N "__init__" = some (some (.ref f))
  sa : PySem.W.nsIn K N "__setattr__" = some none
  ga : PySem.W.nsIn K N "__getattribute__" = some none
  gh : PySem.W.nsIn K N "__getattr__" = some none
  fn : PySem.W.typeIn K (.ref f) = some (.type "function")
  fo : ∃ o, K.lookup f = some o ∧ o.cls = .type "function"
  kp : PySem.W.keepIn K (.ref C) = true
  fs : PySem.W.findIn K (.ref C) "__setattr__" = some (some (.builtin "object.__setattr__"))
structure XNo (K : PySem.W.Frag) (N : Addr) (f : Str) : Prop where
  own : PySem.W.nsIn K N f = some none
  up : typeLookup (.type "Exception") f = pure none
def nsM (K : PySem.W.Frag) (N : Addr) (y : Str) : Option Value := (PySem.W.nsIn K N y).join
theorem XCls.nsOf {K : PySem.W.Frag} {C N f : Addr} (x : XCls K C N f) {h : Heap} (X : K.In h) : h.Ns N (nsM K N) := by
  obtain ⟨oc, od, es, n, sl, lk, hk⟩ := x.ns
  refine ⟨_, es, n, X _ _ lk, rfl, fun e he => ?_, fun name => ?_⟩
  · have q := List.all_eq_true.mp hk e (by simpa using he)
    split at q
    · rename_i z; exact ⟨_, _, z⟩
    · cases q
  · have nr : es.toList.any (·.refKey) = false := by
      rw [List.any_eq_false]
      intro e he
      have q := List.all_eq_true.mp hk e he
      split at q
      · rename_i z; simp [DictEntry.refKey, z]
      · cases q
    unfold nsM PySem.W.nsIn nsFind findBy
    rw [lk, ← Array.find?_toList]
    dsimp only
    cases q : es.toList.find? fun e => e.key.isStr name with
    | none => simp [nr]
    | some e => simp
section
variable {prog : Program} {w : World} {A : Around} {E : Value → Shared → Prop} {h : Heap} {g : Array GenState} {d : Drawn} {t : Nat} {os : OsState}
variable {nm q : Str} {C N x : Addr} {bs : List Value} {sn : List Str} {sub : List Value} {ab : Bool} {col : Option Bool} {dd : Option Addr} {k0 k1 k2 k3 k5 : Option Value} {newId : String} {mN : Str → Option Value} {name : Str} {v : Value}
open Builtin Builtin.ObjectAttr
theorem exc_store {tk : Tok} {o : Obj} {Q : Fin → Shared → Prop} (hC : h.get? C = some (excClassObj nm q C N bs excMro true sn sub ab col dd k0 k1 k2 k3 k5 newId)) (hn : h.Ns N mN) (hna : mN name = none)
    (hB : typeLookup (.type "Exception") name = pure none) (hx : h.get? x = some o) (hc : o.cls = .ref C) (hnc : ∀ c, o.data ≠ .cls c) (hnf : o.isFreed = false) (hdn : o.dict = none)
    (hq : ∀ h' tk', h'.get? x = some { o with dict := some h.objs.size } → h'.Ns1 h.objs.size (fun y => if y = name then some v else none) → (∀ b ob, b ≠ x → h.get? b = some ob → h'.get? b = some ob) → Q (.done (.ret .none)) ⟨h', g, d, tk', os⟩) :
    wpAny (model prog w) A (Builtin.«object.__setattr__» ⟨[.ref x, .str name tk, v], []⟩) Q E ⟨h, g, d, t, os⟩ := by
  have SF := PySem.F.store_Exception
  have pass := SF.passes (.ref x)
  unfold Builtin.«object.__setattr__»
  repeat (first | rw [refuse_eq] | (rw [refuseLoop_ref, pass]) | (with_reducible refine wpAny_loadPart_at hx ?_; rw [hc]) | with_reducible refine wpAny_mroOf_exc hC ?_ | (with_reducible refine wpAny_typeLookup_exc hC hn SF.mro hB ?_; rw [hna]) | wp_step)
  rw [hdn, if_neg (by simp [typeHasDict])]
  split
  · rename_i z; cases z
  split
  · rename_i c z; exact absurd z (hnc c)
  have x1 : (h.push { cls := .type "dict", data := .dict #[] }).get? x = some o := Heap.get?_push_of_some _ hx
  have xs : x ≠ h.objs.size := Nat.ne_of_lt (Heap.lt_size hx)
  refine wpAny_bind (wpAny_alloc' (wpAny_bind (wpAny_update' x1 (wpAny_pure ?_))))
  generalize hg : ((h.push { cls := .type "dict", data := .dict #[] }).update x fun o => { cls := o.cls, dict := some h.objs.size, data := o.data, slots := o.slots }) = h1
  have gd : h1.get? h.objs.size = some { cls := .type "dict", data := .dict #[] } := by
    rw [← hg]
    exact (Heap.get?_update_ne _ _ _ _ xs.symm).trans (Heap.get?_push_at rfl rfl)
  have gx : h1.get? x = some { o with dict := some h.objs.size } := by
    rw [← hg]
    refine Heap.get?_update_self _ x1 ?_
    obtain ⟨oc, od, odt, osl⟩ := o
    cases odt <;> first | rfl | exact hnf
  have nd : h1.Ns h.objs.size (fun _ => none) := ⟨_, #[], _, gd, rfl, fun e he => absurd he (by simp), fun _ => rfl⟩
  show wpAny _ _ (storeInDict h.objs.size (.str name tk) name v) _ _ _
  unfold storeInDict newKeyGuard
  refine wpAny_bind (wpAny_pure (wpAny_bind (wpAny_nsSet1 (Heap.Ns1.of_empty nd) fun h' hn' hs => ?_)))
  obtain ⟨oD, esD, epD, hoD, hdD, hcD⟩ := hn'.count (Within.cons name v Within.nil)
  refine wpAny_bind (wpAny_lookBehind hoD (by rw [hdD]; exact pastItsLine_dict (Nat.le_trans hcD (by rw [List.length_cons, List.length_nil, sizeLine_eq]; omega))) ?_)
  wp_walk
  refine hq h' _ ((hs.2 x xs).trans gx) hn' fun b ob hb z => (hs.2 b (Nat.ne_of_lt (Heap.lt_size z))).trans ?_
  rw [← hg]
  exact (Heap.get?_update_ne _ _ _ _ hb).trans (Heap.get?_push_of_some _ z)
theorem exc_store_call {sa owner : String} (SF : StoreFacts "Exception" excMro sa owner) {tk : Tok} {o : Obj} {R : Result → Shared → Prop} (hC : h.get? C = some (excClassObj nm q C N bs excMro true sn sub ab col dd k0 k1 k2 k3 k5 newId)) (hn : h.Ns N mN) (hna : mN name = none)
    (hB : typeLookup (.type "Exception") name = pure none) (hx : h.get? x = some o) (hc : o.cls = .ref C) (hnc : ∀ c, o.data ≠ .cls c) (hnf : o.isFreed = false) (hdn : o.dict = none)
    (hq : ∀ h' tk', h'.get? x = some { o with dict := some h.objs.size } → h'.Ns1 h.objs.size (fun y => if y = name then some v else none) → (∀ b ob, b ≠ x → h.get? b = some ob → h'.get? b = some ob) → R (.ok (.ret .none)) ⟨h', g, d, tk', os⟩) :
    codeAny (model prog w) A (.call (.builtin sa) ⟨[.ref x, .str name tk, v], []⟩) R ⟨h, g, d, t, os⟩ := by
  exact codeAny_call_builtin SF.slot.plain SF.entry (wpAny_check_sa SF hC hx hc (exc_store hC hn hna hB hx hc hnc hnf hdn hq))
theorem raise_made {M : Model} {s : Shared} {env : Env} {y : Sem Value} {Q : Flow → Shared → Prop} (hh : A.handled = none)
    (hw : wpAny M A y (fun v s1 => ∃ e tt dx, v = .ref e ∧ s1.heap.get? C = some (excClassObj nm q C N bs excMro true sn sub ab col dd k0 k1 k2 k3 k5 newId) ∧ s1.heap.get? e = some (xobj C tt dx) ∧ E (.ref e) s1) E s) :
    wpAny M A (raiseStmt env (some y) none) Q E s := by
  have hcB : (Value.ref C :: excMro).contains (.type "BaseException") = true := by simp [excMro]
  unfold raiseStmt
  refine wpAny_bind (wpAny_mono hw (fun v s1 z => ?_) fun _ _ z => z)
  obtain ⟨e, tt, dx, rfl, hC, he, hE⟩ := z
  unfold xobj at he
  obtain ⟨hp, g, d, tk, os⟩ := s1
  repeat (first | with_reducible refine wpAny_loadPart_at he ?_ | with_reducible refine wpAny_loadPart_at hC ?_ | (with_reducible refine wpAny_isSubtype_exc hC ?_; rw [hcB]) | wp_step)
  exact wpAny_raiseNew_none hh hE
end
section
variable {X : Cx} {C N f : Addr} {pos pos' np cpos : Pos} {o value e : Expr} {ta tv te : TE} {at_ : Str}
def sXset (C : Addr) (ta tv : TE) (at_ : Str) : TS := fun D σ H => tv σ H fun y H1 => ta σ H1 fun x H2 => ∃ a t, x = .ref a ∧ H2 a = some (XO C a t none) ∧
  ∀ dx, H2 dx = none → dx ≠ a → D.nx σ (upd (upd H2 dx (.xd [(at_, y)])) a (XO C a t (some dx)))
theorem xset_ok {pins : List (Addr × Obj)} {σ : St} {H : Hp} {s : Shared} {a t : Addr} {y : V} {u : Value} {Q : Unit → Shared → Prop} (I : Inv X pins σ H s) (xc : XCls X.K C N f) (xn : XNo X.K N at_) (ha : H a = some (XO C a t none)) (ry : RelV y u)
    (hq : ∀ dx s', H dx = none → dx ≠ a → Inv X pins σ (upd (upd H dx (.xd [(at_, y)])) a (XO C a t (some dx))) s' → Q () s') : wpAny (model X.prog X.w) X.A (setAttr (.ref a) at_ u) Q X.xe s := by
  have ea := XO.at_ (I.hok a _ ha)
  obtain ⟨nm, q, bs, sn, sub, ab, col, dd, k0, k1, k2, k3, k5, hC⟩ := xc.obj
  have gC := I.kIn _ _ hC
  have gN := xc.nsOf I.kIn
  have J : PySem.W.InstAt s.heap a (xobj C t none) C none := ⟨ea, rfl, rfl, trivial⟩
  refine PySem.W.set_plain I.kIn J xc.fs ?_
  have hna : nsM X.K N at_ = none := by unfold nsM; rw [xn.own]; rfl
  obtain ⟨hh, g, d, tk, os⟩ := s
  refine exc_store_call PySem.F.store_Exception gC gN hna xn.up ea rfl (fun c z => nomatch z) rfl rfl fun h' tk' gx gd kp => ?_
  have fr : H hh.objs.size = none := I.hok.fresh (Nat.le_refl _)
  have ne : hh.objs.size ≠ a := Nat.ne_of_gt (Heap.lt_size ea)
  refine hq hh.objs.size _ fr ne ?_
  have nA : ∀ b o, H b = some o → (∀ φ, o ≠ .ext φ) → b ≠ a := fun b o z n e => by rw [e, ha] at z; cases z; exact n _ rfl
  have keep : ∀ b o, H b = some o → (∀ φ, o ≠ .ext φ) → upd (upd H hh.objs.size (.xd [(at_, y)])) a (XO C a t (some hh.objs.size)) b = some o := fun b o z n => by
    rw [upd_ne (nA b o z n), upd_ne (ne_of_none z fr)]; exact z
  refine I.un (h' := h') (t' := tk') ⟨fun b ob z n _ _ => kp b ob (fun e => ?_) z, fun b ob z n _ _ => ⟨ob.slots, kp b ob (fun e => ?_) z⟩, fun b ob z n _ => ?_, fun b ob z _ => ?_, fun b xs z => keep b _ z (fun _ z => nomatch z), fun b ob u z => keep b _ z (fun _ z => nomatch z),
    fun b ps z => ⟨#[], by rw [keep b _ z (fun _ z => nomatch z)]; simp⟩⟩ fun b ob z => ?_
  · rw [e, ha] at n; cases n
  · rw [e, ha] at n; cases n
  · rw [upd_ne (fun e => by rw [e, ha] at n; cases n), upd_ne (Nat.ne_of_lt (Heap.lt_size z))]; exact n
  · by_cases e : b = a
    · exact ⟨_, by rw [e]; exact gx⟩
    · exact ⟨ob, kp b ob e z⟩
  · by_cases e : b = a
    · subst e
      rw [upd_same] at z
      cases z
      exact XO.ok gx
    · rw [upd_ne e] at z
      by_cases e2 : b = hh.objs.size
      · subst e2
        rw [upd_same] at z
        cases z
        refine ⟨_, gd, fun fn => ?_⟩
        show RelO (List.lookup fn [(at_, y)]) (if fn = at_ then some u else none)
        by_cases e3 : fn = at_
        · have hb : (fn == at_) = true := beq_iff_eq.mpr e3
          simp only [List.lookup, hb, if_pos e3]
          exact ry
        · have hb : (fn == at_) = false := beq_eq_false_iff_ne.mpr e3
          simp only [List.lookup, hb, if_neg e3]
          trivial
      · rw [upd_ne e2] at z
        refine (I.hok b ob z).stay (fun c v hc r => kp c v (fun e3 => ?_) r) (fun c r => keep c _ r (fun _ z => nomatch z)) fun c xs r => keep c _ r (fun _ z => nomatch z)
        rcases hc with rfl | hc
        · exact e e3
        · rw [e3, ha] at hc; cases hc
theorem ps_xset (xc : XCls X.K C N f) (xn : XNo X.K N at_) (ha : PE X o ta) (hv : PE X value tv) (hs : swapsWith value (some (.Attribute o at_ pos')) pos.line X.env = pure false := by rfl) : PS X (.Assign [.Attribute o at_ pos'] value pos) (sXset C ta tv at_) := by
  intro pins s σ H D I h
  refine plainObj_wpAny_Assign_Attribute (thn (hv pins s σ H _ I h) fun u s1 ⟨y, H1, I1, ry, q⟩ => thn (ha pins s1 σ H1 _ I1 q) fun ov s2 ⟨x, H2, I2, rx, a, t, ex, ea, q2⟩ => ?_) hs
  subst ex
  obtain rfl : ov = Value.ref a := rx
  exact xset_ok I2 xc xn ea ry fun dx s3 h1 h2 I3 => ⟨σ, _, I3, q2 dx h1 h2⟩
def tRaise (C : Addr) (sp : Sp) (E : XK) (te : TE) : TS := fun _ σ H => te σ H fun v H1 => ∀ a t, H1 a = none → sp [.ref a, v] (upd H1 a (XO C a t none)) (fun r H2 => r = .non ∧ ∃ dx, H2 a = some (XO C a t (some dx)) ∧ E (.ref C) (some dx) (untr H2 a)) E0
theorem ps_raise {k : Nat} {fd : FuncData} {ps : List Str} {sp : Sp} {E : XK} {x : Str} (xc : XCls X.K C N f) (F : FnOk X.prog X.w X.K X.mg X.base CX0 k f fd ps sp) (hr : Room (k + 1) X.A) (hcalm : X.calm = true) (hex : X.ex = []) (hth : Throws X E) (hg : Gl X x) (hm : X.mg x = some (.ref C))
    (hb : Binds X.K fd ps []) (he : PE X e te) (hdb : (x == ("__debug__" : Str)) = false := by decide) (hst : starEach [e] X.env = (false, eval e X.env) :: starEach [] X.env := by rfl) :
    PS X (.Raise (some (.Call (.Name x np) [e] [] cpos)) none pos) (tRaise C sp E te) := by
  intro pins s σ H D I h
  obtain ⟨nm, q, bs, sn, sub, ab, col, dd, k0, k1, k2, k3, k5, hC⟩ := xc.obj
  have mk : wpAny (model X.prog X.w) X.A (eval (.Call (.Name x np) [e] [] cpos) X.env) (fun v s1 => ∃ e tt dx, v = .ref e ∧ s1.heap.get? C = some (excClassObj nm q C N bs excMro true sn sub ab col dd k0 k1 k2 k3 k5 "Exception.__new__") ∧ s1.heap.get? e = some (xobj C tt dx) ∧ X.xe (.ref e) s1) X.xe s := by
    refine wpAny_Call_Name_kw (ld_glob I hg hm ?_ hdb)
    have pa : PA X [e] (tCons te tNil) := pa_cons he pa_nil hst
    refine PySem.W.callWith_K (h₀ := X.base) I.ok.mod.kin xc.kp (thn (pa cpos pins s σ H (fun vs H1 => match vs with
      | [v] => ∀ a t, H1 a = none → sp [.ref a, v] (upd H1 a (XO C a t none)) (fun r H2 => r = .non ∧ ∃ dx, H2 a = some (XO C a t (some dx)) ∧ E (.ref C) (some dx) (untr H2 a)) E0
      | _ => False) I h) fun us s1 ⟨vs, H1, I1, r, q1⟩ => ⟨I1.kIn, ?_⟩) hst rfl
    match vs, r, q1 with
    | [v], .cons (b := u) r1 .nil, q1 =>
      have gC := I1.kIn _ _ hC
      have gN := xc.nsOf I1.kIn
      have hi : nsM X.K N "__init__" = some (.ref f) := by unfold nsM; rw [xc.init]; rfl
      obtain ⟨fo, lf, fc⟩ := xc.fo
      have hs0 : ∀ a, s1.heap.get? a = none → X.s_0.heap.get? a = none := fun a z => I1.old hex z
      obtain ⟨hh, g, d, tk, os⟩ := s1
      refine wpAny_call_exc_init (rest := [u]) PySem.F.excBase_Exception gC gN hi (I1.kIn _ _ lf) fc (fun h' a mx => ?_) (by show 1 ≤ sizeLine; decide)
      obtain ⟨tt, ha, ht, _⟩ := mx.there
      have I2 : Inv X pins σ (upd H1 a (XO C a tt none)) ⟨h', g, d, tk, os⟩ := I1.laidAt (t' := tk) mx.keeps mx.new (XO.ok ha)
      have hq := q1 a tt (I1.hok.none_of mx.new)
      have r2 : Vals [V.ref a, v] [Value.ref a, u] := .cons rfl (.cons r1 .nil)
      have hl : ([Value.ref a, u] ++ []).length = ps.length := by
        have z := F.len _ _ _ _ hq
        exact z
      refine wpAny_call (codeAny_mono (F.run _ X.stack _ _ ⟨[Value.ref a, u], []⟩ [Value.ref a, u] _ _ E0 (hr.make C [u] []) (I2.env0.make C [u] []) (hb _ [Value.ref a, u] I2.kIn hl) r2 hq) fun r s' hq' => ?_)
      cases r with
      | error e => exact False.elim hq'
      | ok fl =>
        cases fl with
        | ret w' =>
          obtain ⟨v', H', I3, rv, ev, dx, hx, hE⟩ := I2.after hq'
          subst ev
          have gx := XO.at_ (I3.hok a _ hx)
          have s0 := hs0 a mx.new
          refine ⟨rv, a, tt, some dx, rfl, I3.kIn _ _ hC, gx, ?_⟩
          refine hth pins σ (untr H' a) s' a (.ref C) (some dx) .none (I3.untrack hx hex s0) ⟨⟨_, _, gx, rfl, rfl, rfl, rfl⟩, .inl rfl⟩ s0 untr_same (fun T e => nomatch e) (fun p hp => ⟨fun e => (by have z := (I1.pin p hp).1; rw [e, mx.new] at z; cases z), fun e => nomatch e⟩) hE
        | next => exact False.elim hq'
        | brk => exact False.elim hq'
        | cont => exact False.elim hq'
  rw [arm_exec_Raise]
  exact wpAny_bind (wpAny_standAt (raise_made (I.ok.hd hcalm) (wpAny_bind (wpAny_mono mk (fun v s3 h3 => wpAny_bind (wpAny_standAt (wpAny_pure h3))) fun _ _ z => z))))
end
end L2
end
section
namespace L2
open PySem PySem.Spec PyProof.Rows
section
variable {prog : Program} {w : World} {A : Around} {E : Value → Shared → Prop} {h : Heap} {g : Array GenState} {d : Drawn} {t : Nat} {os : OsState}
variable {nm q : Str} {C N x dx : Addr} {bs : List Value} {sn : List Str} {sub : List Value} {ab : Bool} {col : Option Bool} {dd : Option Addr} {k0 k1 k2 k3 k5 : Option Value} {newId : String} {mN mA : Str → Option Value} {name : Str} {v : Value} {o : Obj}
open Builtin Builtin.ObjectAttr
theorem exc_load {tk : Tok} {Q : Fin → Shared → Prop} (hC : h.get? C = some (excClassObj nm q C N bs excMro true sn sub ab col dd k0 k1 k2 k3 k5 newId)) (hn : h.Ns N mN) (hna : mN name = none)
    (hB : typeLookup (.type "Exception") name = pure none) (hx : h.get? x = some o) (hc : o.cls = .ref C) (hnc : ∀ c, o.data ≠ .cls c) (hd : o.dict = some dx) (hm : h.Ns dx mA) (hv : mA name = some v) (hq : Q (.done (.ret v)) ⟨h, g, d, t, os⟩) :
    wpAny (model prog w) A (Builtin.«object.__getattribute__» ⟨[.ref x, .str name tk], []⟩) Q E ⟨h, g, d, t, os⟩ := by
  have FB := PySem.F.attrBase_Exception
  unfold Builtin.«object.__getattribute__»
  repeat (first | (with_reducible refine wpAny_loadPart_at hx ?_; rw [hc]) | (with_reducible refine wpAny_typeLookup_exc hC hn FB.mro hB ?_; rw [hna]) | wp_step)
  split
  · rename_i c z; exact absurd z (hnc c)
  unfold instanceDict
  repeat (first | (with_reducible refine wpAny_loadPart_at hx ?_; rw [hc]) | with_reducible refine wpAny_loadPart_at hC ?_ | wp_step)
  rw [hd]
  repeat (first | (with_reducible refine wpAny_nsGet hm ?_; rw [hv]) | wp_step)
  exact hq
theorem exc_load_call {tk : Tok} {R : Result → Shared → Prop} (hC : h.get? C = some (excClassObj nm q C N bs excMro true sn sub ab col dd k0 k1 k2 k3 k5 newId)) (hn : h.Ns N mN) (hna : mN name = none)
    (hB : typeLookup (.type "Exception") name = pure none) (hx : h.get? x = some o) (hc : o.cls = .ref C) (hnc : ∀ c, o.data ≠ .cls c) (hd : o.dict = some dx) (hm : h.Ns dx mA) (hv : mA name = some v) (hq : R (.ok (.ret v)) ⟨h, g, d, t, os⟩) :
    codeAny (model prog w) A (.call (.builtin "BaseException.__getattribute__") ⟨[.ref x, .str name tk], []⟩) R ⟨h, g, d, t, os⟩ :=
  codeAny_call_builtin PySem.F.attrBase_Exception.ga.plain F.entry_bexc_ga (wpAny_check_ga_own PySem.F.attrBase_Exception hC .base hx hc (exc_load hC hn hna hB hx hc hnc hd hm hv hq))
theorem exc_by {tk : Tok} {fill expr : Bool} {Q : Value → Shared → Prop} (hC : h.get? C = some (excClassObj nm q C N bs excMro true sn sub ab col dd k0 k1 k2 k3 k5 newId)) (hn : h.Ns N mN) (hna : mN name = none) (hng : mN "__getattribute__" = none) (hnh : mN "__getattr__" = none)
    (hB : typeLookup (.type "Exception") name = pure none) (hx : h.get? x = some o) (hc : o.cls = .ref C) (hnc : ∀ c, o.data ≠ .cls c) (hd : o.dict = some dx) (hm : h.Ns dx mA) (hv : mA name = some v) (hho : handedOut v = pure v) (hq : Q v ⟨h, g, d, t, os⟩) :
    wpAny (model prog w) A (getAttrBy (.ref x) (.str name tk) fill expr) Q E ⟨h, g, d, t, os⟩ := by
  have FB := PySem.F.attrBase_Exception
  have f3 := FB.ga.bind (.ref x)
  have hx0 : (expr && onTheHeap (Value.builtin "BaseException.__getattribute__")) = false := by cases expr <;> rfl
  have hx2 : (Value.builtin "BaseException.__getattribute__" == Value.builtin "object.__getattribute__") = false := by decide +kernel
  have hx1 : (onTheHeap (Value.ref C) && Value.builtin "BaseException.__getattribute__" == Value.builtin "object.__getattribute__") = false := by rw [hx2]; rfl
  repeat (any_goals (first | assumption | (with_reducible refine wpAny_loadPart_at hx ?_; rw [hc]) | (with_reducible refine wpAny_typeLookup_exc hC hn FB.mro FB.ga.lookup ?_; rw [hng]) | (with_reducible refine wpAny_typeLookup_exc hC hn FB.mro FB.noGetattr ?_; rw [hnh]) | wp_step))
  refine exc_load_call hC hn hna hB hx hc hnc hd hm hv ?_
  repeat (any_goals (first | assumption | wp_step))
theorem exc_attr {expr : Bool} {Q : Value → Shared → Prop} (hC : h.get? C = some (excClassObj nm q C N bs excMro true sn sub ab col dd k0 k1 k2 k3 k5 newId)) (hn : h.Ns N mN) (hna : mN name = none) (hng : mN "__getattribute__" = none) (hnh : mN "__getattr__" = none)
    (hB : typeLookup (.type "Exception") name = pure none) (hx : h.get? x = some o) (hc : o.cls = .ref C) (hnc : ∀ c, o.data ≠ .cls c) (hd : o.dict = some dx) (hm : h.Ns dx mA) (hv : mA name = some v) (hho : handedOut v = pure v) (hq : Q v ⟨h, g, d, t + 1, os⟩) :
    wpAny (model prog w) A (getAttr (.ref x) name expr) Q E ⟨h, g, d, t, os⟩ := by
  unfold getAttr
  exact wpAny_bind (wpAny_mkText (exc_by hC hn hna hng hnh hB hx hc hnc hd hm hv hho hq))
end
end L2
end
section
namespace L2
open PySem PySem.Spec PyProof.Rows
abbrev Cx.tr (X : Cx) (pn : List (Addr × Obj)) (xe : Value → Shared → Prop) : Cx := { X with pn := pn, xe := xe }
abbrev Cx.hdl (X : Cx) (pn : List (Addr × Obj)) (a : Addr) : Cx := { X with pn := pn, xe := fun _ _ => False, A := X.A.mark (some (.ref a)), calm := false }
theorem Cx.Ok.tr {X : Cx} (ok : X.Ok) (pn : List (Addr × Obj)) (xe : Value → Shared → Prop) : (X.tr pn xe).Ok :=
  ⟨ok.mod, ok.kind, ok.glob, ok.blt, ok.above, ok.inj, ok.has, ok.cab, ok.hd, ok.frames, ok.stk, ok.exf, ok.bs, ok.bsz, ok.noex, ok.exfs, ok.funs, ok.frf⟩
theorem Cx.Ok.untr {X : Cx} {pn : List (Addr × Obj)} {xe : Value → Shared → Prop} (ok : (X.tr pn xe).Ok) : X.Ok :=
  ⟨ok.mod, ok.kind, ok.glob, ok.blt, ok.above, ok.inj, ok.has, ok.cab, ok.hd, ok.frames, ok.stk, ok.exf, ok.bs, ok.bsz, ok.noex, ok.exfs, ok.funs, ok.frf⟩
theorem Cx.Ok.hdl {X : Cx} (ok : X.Ok) (pn : List (Addr × Obj)) (a : Addr) : (X.hdl pn a).Ok :=
  ⟨ok.mod, ok.kind, ok.glob, ok.blt, ok.above, ok.inj, ok.has, ok.cab, (fun z => nomatch z), ok.frames, ok.stk, ok.exf, ok.bs, ok.bsz, ok.noex, ok.exfs, ok.funs, ok.frf⟩
section
variable {X : Cx} {pins pn : List (Addr × Obj)} {σ : St} {H : Hp} {s : Shared} {xe : Value → Shared → Prop} {a : Addr}
theorem Inv.tr (I : Inv X pins σ H s) (xe : Value → Shared → Prop) : Inv (X.tr (X.pn ++ pins) xe) [] σ H s :=
  ⟨I.ok.tr _ _, I.os, I.bare, I.base, I.loc, I.cell, I.free, I.freeC, fun p hp => I.pin p (by simpa using hp), I.hok, I.len⟩
theorem Inv.ofTr {pins' : List (Addr × Obj)} (I : Inv (X.tr (X.pn ++ pins) xe) pins' σ H s) : Inv X pins σ H s :=
  ⟨I.ok.untr, I.os, I.bare, I.base, I.loc, I.cell, I.free, I.freeC, fun p hp => I.pin p (List.mem_append_left _ hp), I.hok, I.len⟩
theorem Inv.hdl (I : Inv X pins σ H s) (a : Addr) (pn : List (Addr × Obj)) (h : ∀ p ∈ pn, s.heap.get? p.1 = some p.2 ∧ H p.1 = none ∧ p.1 ≠ X.env.locals ∧ p.1 ∉ X.fs ∧ ∀ v, p.2.data ≠ .cell v) : Inv (X.hdl pn a) [] σ H s :=
  ⟨I.ok.hdl _ _, I.os, I.bare, I.base, I.loc, I.cell, I.free, I.freeC, fun p hp => h p (by simpa using hp), I.hok, I.len⟩
theorem Inv.ofHdl {pins' : List (Addr × Obj)} {pm : List (Addr × Obj)} (ok : X.Ok) (I : Inv (X.hdl (X.pn ++ pins ++ pm) a) pins' σ H s) : Inv X pins σ H s :=
  ⟨ok, I.os, I.bare, I.base, I.loc, I.cell, I.free, I.freeC, fun p hp => I.pin p (List.mem_append_left _ (List.mem_append_left _ hp)), I.hok, I.len⟩
theorem Inv.noted {h' : Heap} {T : Addr} {oe : Obj} {vs : Array Value} {hv fl : Value} (I : Inv X pins σ H s) (hex : X.ex = []) (hst : X.stack = X.env :: X.outer) (hf : X.env.frame = some X.env.locals) (z : Left (frs (X.env :: X.outer)) a oe hv fl s.heap h' T)
    (he : s.heap.get? a = some oe) (hd : oe.data = .fields vs) (hh : HeadOk s.heap a hv) (ha : X.s_0.heap.get? a = none) (hHa : H a = none) (hT : ∀ T, hv = .ref T → X.s_0.heap.get? T = none ∧ H T = none) (hp : ∀ p ∈ X.pn ++ pins, p.1 ≠ a ∧ hv ≠ .ref p.1) :
    Inv X pins σ H { s with heap := h' } := by
  have frc : frs (X.env :: X.outer) = X.env.locals :: X.fs := by unfold Cx.fs frs; rw [List.filterMap_cons, hf]
  have hfree := I.stkFree
  rw [hst] at hfree
  have hb0 : Un X.fs [] X.H_0 H X.s_0.heap s.heap := by have q := I.base; rw [hex] at q; exact q
  have nrec : ∀ b o, s.heap.get? b = some o → (∀ vs, o.data ≠ .fields vs) → b ≠ a ∧ hv ≠ .ref b := fun b o q nf => by
    refine ⟨fun e => (by rw [e, he] at q; cases q; exact nf vs hd), fun e => ?_⟩
    rcases hh with e2 | ⟨T0, oT, ts, e2, _, gT, dT, _⟩
    · rw [e2] at e; cases e
    · rw [e2] at e; cases e
      rw [gT] at q; cases q
      exact nf ts dT
  have any : ∀ b o, s.heap.get? b = some o → b ≠ a → hv ≠ .ref b → ∃ sl, h'.get? b = some { o with slots := sl } := fun b o q n1 n2 => by
    by_cases hm : b ∈ frs (X.env :: X.outer)
    · exact z.slot b o n1 n2 hm q
    · exact ⟨o.slots, z.keep b o n1 n2 hm q⟩
  have ne1 : ∀ b o, X.s_0.heap.get? b = some o → b ≠ a ∧ hv ≠ .ref b ∧ b ≠ X.env.locals := fun b o q => by
    refine ⟨fun e => (by rw [e, ha] at q; cases q), fun e => (by rw [(hT b e).1] at q; cases q), ?_⟩
    exact Nat.ne_of_lt (Nat.lt_of_lt_of_le (Heap.lt_size q) I.ok.above)
  have cellK : ∀ c v, s.heap.IsCell c v → h'.IsCell c v := fun c v ⟨o, q, dc⟩ => by
    obtain ⟨n1, n2⟩ := nrec c o q fun vs z => by rw [dc] at z; cases z
    obtain ⟨sl, q2⟩ := any c o q n1 n2
    exact ⟨_, q2, dc⟩
  refine ⟨I.ok, I.os, I.bare, ⟨fun b o q n hb _ => ?_, fun b o q n hb _ => ?_, fun b o q n _ => hb0.free b o q n (by simp), fun b o q _ => ?_, hb0.tups, hb0.frzs, hb0.tbls⟩, ?_, fun x c e => ?_, I.free, I.freeC, fun p q => ?_, fun b o q => ?_, I.len⟩
  · obtain ⟨n1, n2, n3⟩ := ne1 b o q
    exact z.keep b o n1 n2 (by rw [frc]; simp [n3, hb]) (hb0.keep b o q n hb (by simp))
  · obtain ⟨n1, n2, n3⟩ := ne1 b o q
    obtain ⟨sl, q2⟩ := hb0.slot b o q n hb (by simp)
    obtain ⟨sl2, q3⟩ := any b _ q2 n1 n2
    exact ⟨sl2, q3⟩
  · obtain ⟨n1, n2, n3⟩ := ne1 b o q
    obtain ⟨o', q2⟩ := hb0.there b o q (by simp)
    obtain ⟨sl, q3⟩ := any b o' q2 n1 n2
    exact ⟨_, q3⟩
  · obtain ⟨m, ⟨o, es, ep, q, dd, r⟩, hl⟩ := I.loc
    obtain ⟨n1, n2⟩ := nrec _ o q fun vs z => by rw [dd] at z; cases z
    obtain ⟨sl, q2⟩ := any _ o q n1 n2
    refine ⟨m, ⟨_, es, ep, q2, dd, r⟩, fun i x v e1 e2 e3 => ?_⟩
    obtain ⟨u, ru, l⟩ := hl i x v e1 e2 e3
    refine ⟨u, ru, ?_⟩
    rcases l with l | ⟨k, c, e, w⟩
    · exact .inl l
    · exact .inr ⟨k, c, e, cellK c _ w⟩
  · obtain ⟨v, w⟩ := I.cell x c e
    exact ⟨v, cellK c v w⟩
  · obtain ⟨e, n, ne, nf, dc⟩ := I.pin p q
    obtain ⟨n1, n2⟩ := hp p q
    exact ⟨z.keep p.1 p.2 n1 n2 (by rw [frc]; simp [ne, nf]) e, n, ne, nf, dc⟩
  · refine (I.hok b o q).stay (fun c u hc' r => ?_) (fun _ q => q) fun _ _ q => q
    have hH : ∃ v, H c = some v := by
      rcases hc' with rfl | q'
      · exact ⟨o, q⟩
      · exact ⟨_, q'⟩
    obtain ⟨v, hv'⟩ := hH
    refine z.keep c u (fun e => ?_) (fun e => ?_) (fun e => ?_) r
    · rw [e, hHa] at hv'; cases hv'
    · rw [(hT c e).2] at hv'; cases hv'
    · rw [hfree c e] at hv'; cases hv'
theorem Inv.forget {h' : Heap} {m' : Str → Option Value} {t' : Nat} (I : Inv X pins σ H s) (hn : h'.Ns X.env.locals m') (hs : Heap.SameBut X.env.locals s.heap h') : Inv X pins (List.replicate X.N.length none) H { s with heap := h', toks := t' } := by
  have hL : ∃ o, s.heap.get? X.env.locals = some o := by obtain ⟨m, ⟨o, _, _, q, _⟩, _⟩ := I.loc; exact ⟨o, q⟩
  have neL : ∀ b o, X.s_0.heap.get? b = some o → b ≠ X.env.locals := fun b o e => Nat.ne_of_lt (Nat.lt_of_lt_of_le (Heap.lt_size e) I.ok.above)
  refine ⟨I.ok, I.os, I.bare, ⟨fun b o e n hb hx => (hs.2 b (neL b o e)).trans (I.base.keep b o e n hb hx), fun b o e n hb hx => ?_, I.base.free, fun b o e hx => ?_, I.base.tups, I.base.frzs, I.base.tbls⟩, ⟨m', hn, fun i x v e1 e2 e3 => ?_⟩, fun y c e => ?_, I.free, I.freeC, fun p hp => ?_, fun b ob e => ?_, by simp⟩
  · obtain ⟨sl, e1⟩ := I.base.slot b o e n hb hx
    exact ⟨sl, (hs.2 b (neL b o e)).trans e1⟩
  · obtain ⟨o', e1⟩ := I.base.there b o e hx
    exact ⟨o', (hs.2 b (neL b o e)).trans e1⟩
  · rw [List.getElem?_replicate] at e2
    split at e2 <;> cases e2
  · obtain ⟨v, w⟩ := I.cell y c e
    exact ⟨v, w.sameBut hs (I.cne y c e)⟩
  · obtain ⟨e, n, ne, nf, d⟩ := I.pin p hp
    exact ⟨(hs.2 p.1 ne).trans e, n, ne, nf, d⟩
  · refine (I.hok b ob e).stay (fun c w' hc q => (hs.2 c ?_).trans q) (fun _ q => q) fun _ _ q => q
    rintro rfl
    rcases hc with hc | hc
    · rw [← hc, I.free] at e; cases e
    · rw [I.free] at hc; cases hc
end
def TryE (CF : Addr) (th : Addr → Addr → TS) (n : Nat) (D : Ends) (i : Nat) : XK := fun cls dx H' => cls = .ref CF ∧ ∃ d, dx = some d ∧ ∀ (σ' : St) (a : Addr), σ'.length = n → σ'[i]? = some (some (.ref a)) → th a d { nx := fun _ _ => False, rt := D.rt } σ' H'
def tTry (CF : Addr) (i : Nat) (tb : XK → TS) (th : Addr → Addr → TS) : TS := fun D σ H => tb (TryE CF th σ.length D i) D σ H
section
variable {X : Cx} {CF NF fF : Addr} {x n : Str} {np hpos pos : Pos} {body suite : List Stmt} {b0 : Stmt} {i : Nat} {tb : XK → TS}
theorem try_core {Et : XK} {tbE : TS} {pins : List (Addr × Obj)} {s : Shared} {σ : St} {H : Hp} {D : Ends} {nm : Option Str} (hcalm : X.calm = true) (hex : X.ex = []) (hst : X.stack = X.env :: X.outer) (hf : X.env.frame = some X.env.locals) (xc : XCls X.K CF NF fF) (hg : Gl X x) (hm : X.mg x = some (.ref CF))
    (hdb : (x == ("__debug__" : Str)) = false) (hb : ∀ (pn : List (Addr × Obj)) (xe : Value → Shared → Prop), Throws (X.tr pn xe) Et → PSs (X.tr pn xe) body tbE) (hcls : ∀ cls dx H', Et cls dx H' → cls = .ref CF ∧ ∃ d, dx = some d) (I : Inv X pins σ H s) (h : tbE D σ H)
    (hs : ∀ (a d : Addr) (oe : Obj) (vs : Array Value) (T : Addr) (H' : Hp) (σ' : St) (s' : Shared), Inv X pins σ' H' s' → s'.heap.get? a = some oe → oe.cls = .ref CF → oe.dict = some d → oe.data = .fields vs → vs[1]? = some (.ref T) → (∃ oT ts, s'.heap.get? T = some oT ∧ oT.data = .fields ts ∧ ts[3]? = some .none) → H' a = none → a ≠ X.env.locals → a ∉ X.fs →
      Et (.ref CF) (some d) H' → codeAny (model X.prog X.w) (X.A.mark (some (.ref a))) (.handlers (.ref a) [.ExceptHandler none nm (b0 :: suite) hpos] X.env) (fun r s2 => match r with
          | .ok f => (match nm with
            | none => SP X pins D f s2
            | some n => wpAny (model X.prog X.w) X.A (do bindName X.env n .none; unbindBehindTheSuite X.env n hpos) (fun _ s3 => SP X pins D f s3) X.xe s2)
          | .error y => cameBackBy (model X.prog X.w) X.A X.env X.xe y s2) s') :
    wpAny (model X.prog X.w) X.A (exec (.Try body [.ExceptHandler (some (.Name x np)) nm (b0 :: suite) hpos] [] [] pos) X.env) (SP X pins D) X.xe s := by
  obtain ⟨xe, hxe⟩ : ∃ xe : Value → Shared → Prop, xe = fun e s' => ∃ a cls dx hv H' σ', e = .ref a ∧ Inv X pins σ' H' s' ∧ Fly s'.heap a cls dx hv ∧ X.s_0.heap.get? a = none ∧ H' a = none ∧ (∀ T, hv = .ref T → X.s_0.heap.get? T = none ∧ H' T = none) ∧ (∀ p ∈ X.pn ++ pins, p.1 ≠ a ∧ hv ≠ .ref p.1) ∧ Et cls dx H' := ⟨_, rfl⟩
  have ht : Throws (X.tr (X.pn ++ pins) xe) Et := fun pins' σ' H' s' a cls dx hv I' fl ha hHa hT hp hE => by
    show xe (.ref a) s'
    rw [hxe]
    exact ⟨a, cls, dx, hv, H', σ', rfl, I'.ofTr, fl, ha, hHa, hT, fun p q => hp p (List.mem_append_left _ q), hE⟩
  refine wpAny_Try_except (wpAny_mono (hb _ xe ht [] s σ H D (I.tr xe) h) (fun f s1 q => ?_) fun e s1 q => ?_)
  · cases f with
    | next => obtain ⟨σ', H', I', q⟩ := q; exact wpAny_execs_nil ⟨σ', H', I'.ofTr, q⟩
    | brk => obtain ⟨σ', H', I', q⟩ := q; exact ⟨σ', H', I'.ofTr, q⟩
    | cont => obtain ⟨σ', H', I', q⟩ := q; exact ⟨σ', H', I'.ofTr, q⟩
    | ret u => obtain ⟨v, σ', H', I', r, q⟩ := q; exact ⟨v, σ', H', I'.ofTr, r, q⟩
  · have q : xe e s1 := q
    rw [hxe] at q
    obtain ⟨a, cls, dx, hv, H', σ', rfl, I', fl, ha, hHa, hT, hp, hE⟩ := q
    obtain ⟨rfl, d, rfl⟩ := hcls cls dx H' hE
    obtain ⟨oe, vs, he, hc, hdx, hd, h1⟩ := fl.exc
    have hfr := I'.ok.frames
    have hfs := I'.stack
    have hfree := I'.stkFree
    rw [hst] at hfr hfs
    refine leave_two hfr hfs hf he hd h1 fl.head fun h2 T z => ?_
    have I2 := I'.noted hex hst hf z he hd fl.head ha hHa hT hp
    have hsz : 1 < vs.size := (Array.getElem?_eq_some_iff.mp h1).1
    obtain ⟨nm', q', bs, sn, sub, ab, col, dd, k0, k1, k2, k3, k5, hC⟩ := xc.obj
    have gC := I2.kIn _ _ hC
    have nL : a ≠ X.env.locals := fun e => by
      obtain ⟨m, ⟨o, _, _, q, dq, _⟩, _⟩ := I'.loc
      rw [← e, he] at q; cases q
      rw [hd] at dq; cases dq
    have nF : a ∉ X.fs := fun e => by
      obtain ⟨_, o, q, nf⟩ := hfs.mem (List.mem_cons_of_mem _ e |> fun z => by rw [show (X.env :: X.outer).filterMap (·.frame) = X.env.locals :: X.fs from by rw [List.filterMap_cons, hf]; rfl]; exact z)
      rw [he] at q; cases q
      exact nf vs hd
    have tbT := z.tb
    refine wpAny_handleBy_cons (codeAny_handlers_test (ld_glob (X := X.hdl [] a) (I2.hdl a [] (fun p q => absurd q (by simp))) hg hm ?_ hdb)) (by intro q; cases q)
    obtain ⟨hh, g, dr, tk, os⟩ := s1
    refine wpAny_excMatches_sub_self gC z.exc (by rw [Obj.cls_mapFields]; exact hc) (by decide +kernel) ?_
    exact hs a d _ _ T H' σ' _ I2 z.exc (by rw [Obj.cls_mapFields]; exact hc) (by rw [map_dict]; exact hdx) (Obj.data_mapFields hd _) (by simp [hsz]) tbT hHa nL nF hE
theorem flight_same {M : Model} {A : Around} {E : Value → Shared → Prop} {s : Shared} {a T : Addr} {oe oT : Obj} {vs ts : Array Value} {Q : Unit → Shared → Prop} (he : s.heap.get? a = some oe) (hd : oe.data = .fields vs) (h1 : vs[1]? = some (.ref T)) (hT : s.heap.get? T = some oT) (dT : oT.data = .fields ts) (h3 : ts[3]? = some .none) (hq : Q () s) :
    wpAny M A (setFlight (.ref a) none) Q E s := by
  unfold setFlight
  refine wpAny_bind (wpAny_field he hd h1 ?_)
  rw [if_pos (show (Value.ref T != Value.none) = true by simp)]
  refine wpAny_setField hT dT (Array.getElem?_eq_some_iff.mp h3).1 ?_
  show Q () { s with heap := s.heap.update T (Obj.mapFields (·.setIfInBounds 3 Value.none)) }
  rw [Heap.update_setField_same s.heap T oT ts 3 .none hT dT h3]
  exact hq
theorem ps_try {th : Addr → Addr → TS} (hcalm : X.calm = true) (hex : X.ex = []) (hst : X.stack = X.env :: X.outer) (hf : X.env.frame = some X.env.locals) (xc : XCls X.K CF NF fF) (hg : Gl X x) (hm : X.mg x = some (.ref CF)) (hN : X.N.Nodup) (hi : X.N[i]? = some n) (hnl : X.env.scope.names.lookup n = some .local)
    (hb : ∀ (E : XK) (pn : List (Addr × Obj)) (xe : Value → Shared → Prop), Throws (X.tr pn xe) E → PSs (X.tr pn xe) body (tb E))
    (hh : ∀ (pn : List (Addr × Obj)) (a d : Addr) (oe : Obj), (a, oe) ∈ pn → oe.cls = .ref CF → oe.dict = some d → (∀ c, oe.data ≠ .cls c) → PSs (X.hdl pn a) (b0 :: suite) (th a d)) (hdb : (x == ("__debug__" : Str)) = false := by decide) :
    PS X (.Try body [.ExceptHandler (some (.Name x np)) (some n) (b0 :: suite) hpos] [] [] pos) (tTry CF i tb th) := by
  intro pins s σ H D I h
  refine try_core (Et := TryE CF th σ.length D i) hcalm hex hst hf xc hg hm hdb (hb _) (fun _ _ _ z => ⟨z.1, let ⟨d, e, _⟩ := z.2; ⟨d, e⟩⟩) I h ?_
  intro a d oe vs T H' σ' s' I' he hc hdx hd h1 ⟨oT, ts, gT, dT, t3⟩ hHa nL nF hE
  obtain ⟨_, d', e, hth⟩ := hE
  cases e
  have pinsOk : ∀ p ∈ X.pn ++ pins ++ [(a, oe)], s'.heap.get? p.1 = some p.2 ∧ H' p.1 = none ∧ p.1 ≠ X.env.locals ∧ p.1 ∉ X.fs ∧ ∀ v, p.2.data ≠ .cell v := fun p hp => by
    rcases List.mem_append.mp hp with hp | hp
    · exact I'.pin p hp
    · obtain rfl : p = (a, oe) := by simpa using hp
      exact ⟨he, hHa, nL, nF, fun v z => by rw [hd] at z; cases z⟩
  refine codeAny_handlers_suite_as (flight_same he hd h1 gT dT t3 ?_)
  refine store_ok (X := X.hdl (X.pn ++ pins ++ [(a, oe)]) a) (v := V.ref a) (I'.hdl a _ pinsOk) hN hi (.inl hnl) rfl (fun s2 I2 => ?_) (.inr hnl)
  have hl : i < σ'.length := by rw [I'.len]; exact (List.getElem?_eq_some_iff.mp hi).1
  have len : (σ'.set i (some (V.ref a))).length = σ.length := by rw [List.length_set, I'.len, I.len]
  refine wpAny_mono (hh _ a d oe (by simp) hc hdx (fun c z => by rw [hd] at z; cases z) [] s2 _ H' _ I2 (hth _ a len (List.getElem?_set_self hl))) (fun f s3 q => ?_) fun _ _ z => False.elim z
  cases f with
  | next => obtain ⟨_, _, _, z⟩ := q; exact False.elim z
  | brk => obtain ⟨_, _, _, z⟩ := q; exact False.elim z
  | cont => obtain ⟨_, _, _, z⟩ := q; exact False.elim z
  | ret u =>
    obtain ⟨v, σ3, H3, I3, r, q⟩ := q
    have I4 := Inv.ofHdl (X := X) (pins := pins) I'.ok I3
    obtain ⟨m, hn, _⟩ := I4.loc
    have hk : (X.env.scope.kind == .class || (X.env.scope.kind == .module && X.env.locals != X.env.globals)) = false := by rw [I.ok.kind]; rfl
    show wpAny (model X.prog X.w) X.A (do bindName X.env n .none; unbindBehindTheSuite X.env n hpos) (fun _ s3 => SP X pins D (.ret u) s3) X.xe s3
    exact wpAny_nameGoes hnl hn hk fun h' m' hn' sb => ⟨v, _, H3, I4.forget hn' sb, r, q⟩
def tXf (a d : Addr) (te : TE) (f : Str) : TE := fun σ H Q => te σ H fun y H1 => y = .ref a ∧ ∃ fs v, H1 d = some (.xd fs) ∧ fs.lookup f = some v ∧ Q v H1
theorem pe_xfld {a d : Addr} {oe : Obj} {e : Expr} {te : TE} {f : Str} (xc : XCls X.K CF NF fF) (xn : XNo X.K NF f) (hp : (a, oe) ∈ X.pn) (hc : oe.cls = .ref CF) (hdx : oe.dict = some d) (hnc : ∀ c, oe.data ≠ .cls c) (he : PE X e te)
    (hbs : attributeBase e f X.env (eval e X.env) = eval e X.env := by rfl) : PE X (.Attribute e f pos) (tXf a d te f) := by
  intro pins s σ H Q I h
  refine attr_of hbs (thn (he pins s σ H _ I h) fun u s1 ⟨y, H1, I1, ry, ey, fs, v, hd, hl, q⟩ => ?_)
  subst ey
  obtain rfl : u = Value.ref a := ry
  obtain ⟨mA, n1, rel⟩ := (show ObjOk X.prog X.w H1 s1.heap d (.xd fs) from I1.hok d _ hd)
  obtain ⟨u', hu, ru⟩ := RelO.some_of (v := v) (o := mA f) (by rw [← hl]; exact rel f)
  obtain ⟨nm', q', bs, sn, sub, ab, col, dd, k0, k1, k2, k3, k5, hC⟩ := xc.obj
  have gC := I1.kIn _ _ hC
  have gN := xc.nsOf I1.kIn
  have ea := (I1.pin (a, oe) (List.mem_append_left _ hp)).1
  have z1 : nsM X.K NF f = none := by unfold nsM; rw [xn.own]; rfl
  have z2 : nsM X.K NF "__getattribute__" = none := by unfold nsM; rw [xc.ga]; rfl
  have z3 : nsM X.K NF "__getattr__" = none := by unfold nsM; rw [xc.gh]; rfl
  obtain ⟨hh, g, dr, tk, os⟩ := s1
  exact exc_attr gC gN z1 z2 z3 xn.up ea hc hnc hdx n1.ns hu (PySem.W.handedOut_of (handed_of ru)) ⟨v, H1, I1.tok _, ru, q⟩
end
end L2
end
section
section
namespace L2
open PySem PySem.Spec PyProof.Rows
open PySem.W (WData Codec OpenSpec Well WellAll ReadsW ReadsAllW)
mutual
inductive Dw (K : PySem.W.Frag) (H : Hp) : V → WData → Prop
  | non : Dw K H .non .none
  | bl (b : Bool) : Dw K H (.bl b) (.bool b)
  | int (i : Int) : Dw K H (.int i) (.int i)
  | str (x : Str) : Dw K H (.str x) (.str x)
  | byt (b : Array UInt8) : Dw K H (.byt b) (.bytes b.toList)
  | lst {a : Addr} {xs : List V} {ds : List WData} : SqL K H a xs → DwAll K H xs ds → Dw K H (.ref a) (.list ds)
  | tup {a : Addr} {xs : List V} {ds : List WData} : SqT K H a xs → DwAll K H xs ds → Dw K H (.ref a) (.tuple ds)
inductive DwAll (K : PySem.W.Frag) (H : Hp) : List V → List WData → Prop
  | nil : DwAll K H [] []
  | cons {v : V} {vs : List V} {d : WData} {ds : List WData} : Dw K H v d → DwAll K H vs ds → DwAll K H (v :: vs) (d :: ds)
end
theorem dw_ints {K : PySem.W.Frag} {H : Hp} : ∀ ns : List Int, DwAll K H (ns.map V.int) (ns.map WData.int)
  | [] => .nil
  | n :: r => .cons (.int n) (dw_ints r)
theorem ints_dw {K : PySem.W.Frag} {H : Hp} : ∀ (ns : List Int) (xs : List V), DwAll K H xs (ns.map WData.int) → xs = ns.map V.int
  | [], xs, h => by
    cases h
    rfl
  | n :: r, xs, h => by
    cases h with
    | cons h1 h2 =>
      cases h1
      rw [ints_dw r _ h2] <;> rfl
section
variable {P : Program} {w : World} {K : PySem.W.Frag} {H : Hp} {h : Heap} {R : PySem.W.WRecords} {cl : Str → Option Addr}
theorem sqL_at {a : Addr} {xs : List V} (hok : HOk P w H h) (KX : K.In h) (q : SqL K H a xs) : ∃ (its : List Value) (o : Obj) (n : Nat), Vals xs its ∧ h.get? a = some o ∧ o.cls = .type "list" ∧ o.data = .seq its.toArray n := by
  rcases q with q | ⟨o, its, n, e, hc, _, hd, _, hv⟩
  · obtain ⟨_, its, n, hv, e⟩ := (show ObjOk P w H h a (.lst xs) from q.ok hok)
    exact ⟨its, _, n, hv, e, rfl, rfl⟩
  · exact ⟨its.toList, o, n, hv, KX _ _ e, hc, by simp [hd]⟩
theorem sqT_at {a : Addr} {xs : List V} (hok : HOk P w H h) (KX : K.In h) (q : SqT K H a xs) : ∃ (its : List Value) (o : Obj) (n : Nat), Vals xs its ∧ h.get? a = some o ∧ o.cls = .type "tuple" ∧ o.data = .seq its.toArray n := by
  rcases q with q | ⟨o, its, n, e, hc, hd, _, hv⟩
  · obtain ⟨_, its, hv, o, e, hc, n, hd⟩ := (show ObjOk P w H h a (.tup xs) from q.ok hok)
    exact ⟨its, o, n, hv, e, hc, hd⟩
  · exact ⟨its.toList, o, n, hv, KX _ _ e, hc, by simp [hd]⟩
mutual
theorem Dw.reads (hok : HOk P w H h) (KX : K.In h) : ∀ (d : WData) (v : V) (u : Value), Dw K H v d → RelV v u → ∃ as, ReadsW R cl h u d as
  | .none, _, _, x, r => by
    cases x
    cases r
    exact ⟨_, ReadsW.none⟩
  | .bool b, _, _, x, r => by
    cases x
    cases r
    exact ⟨_, ReadsW.bool b⟩
  | .int i, _, _, x, r => by
    cases x
    obtain ⟨t, rfl⟩ := r
    exact ⟨_, ReadsW.int i t⟩
  | .str s, _, _, x, r => by
    cases x
    obtain ⟨t, rfl⟩ := r
    exact ⟨_, ReadsW.str s t⟩
  | .bytes b, _, _, x, r => by
    cases x
    obtain ⟨t, rfl⟩ := r
    exact ⟨_, ReadsW.bytes _ t⟩
  | .list ds, _, _, x, r => by
    cases x with
    | lst hs ha =>
      cases r
      obtain ⟨its, o, n, rv, ho, hc, hd⟩ := sqL_at hok KX hs
      obtain ⟨as, hr⟩ := Dw.readsAll hok KX ds _ its ha rv
      exact ⟨_, ReadsW.list ho hc hd hr⟩
  | .tuple ds, _, _, x, r => by
    cases x with
    | tup hs ha =>
      cases r
      obtain ⟨its, o, n, rv, ho, hc, hd⟩ := sqT_at hok KX hs
      obtain ⟨as, hr⟩ := Dw.readsAll hok KX ds _ its ha rv
      exact ⟨_, ReadsW.tuple ho hc hd hr⟩
  | .float _, _, _, x, _ => by cases x
  | .dict _, _, _, x, _ => by cases x
  | .bytearray _, _, _, x, _ => by cases x
  | .set _, _, _, x, _ => by cases x
  | .frozenset _, _, _, x, _ => by cases x
  | .obj _ _, _, _, x, _ => by cases x
theorem Dw.readsAll (hok : HOk P w H h) (KX : K.In h) : ∀ (ds : List WData) (vs : List V) (us : List Value), DwAll K H vs ds → Vals vs us → ∃ as, ReadsAllW R cl h us ds as
  | [], _, _, x, r => by
    cases x
    cases r
    exact ⟨_, ReadsAllW.nil⟩
  | d :: ds, _, _, x, r => by
    cases x with
    | cons h1 h2 =>
      cases r with
      | cons r1 r2 =>
        obtain ⟨as, q1⟩ := Dw.reads hok KX d _ _ h1 r1
        obtain ⟨bs, q2⟩ := Dw.readsAll hok KX ds _ _ h2 r2
        exact ⟨_, ReadsAllW.cons q1 q2⟩
end
end
mutual
def plW : WData → Bool
  | .none => true
  | .bool _ => true
  | .int _ => true
  | .str _ => true
  | .bytes _ => true
  | .list xs => plWs xs
  | .tuple xs => plWs xs
  | _ => false
def plWs : List WData → Bool
  | [] => true
  | x :: r => plW x && plWs r
end
theorem plWs_map {α : Type} {f : α → WData} (h : ∀ a, plW (f a) = true) : ∀ l : List α, plWs (l.map f) = true
  | [] => rfl
  | x :: r => by
    show (plW (f x) && plWs (r.map f)) = true
    rw [h x, plWs_map h r] <;> rfl
theorem pl_enc : ∀ (c : Codec) (a : c.denote), plW (c.enc a) = true
  | .unit, _ => rfl
  | .bool, _ => rfl
  | .int _ _, _ => rfl
  | .nat _ _, _ => rfl
  | .u8, _ => rfl
  | .bytes _ _, _ => rfl
  | .text _ _ _ _, _ => rfl
  | .list _ _ c, a => plWs_map (fun x => pl_enc c x) a
  | .pair c d, a => by
    show (plW (c.enc a.1) && (plW (d.enc a.2) && true)) = true
    rw [pl_enc c a.1, pl_enc d a.2] <;> rfl
  | .triple c d e, a => by
    show (plW (c.enc a.1) && (plW (d.enc a.2.1) && (plW (e.enc a.2.2) && true))) = true
    rw [pl_enc c a.1, pl_enc d a.2.1, pl_enc e a.2.2] <;> rfl
  | .option c, none => rfl
  | .option c, some x => pl_enc c x
theorem pl_encAll : ∀ (cs : List Codec) (a : Codec.denoteAll cs), plWs (Codec.encAll cs a) = true
  | [], _ => rfl
  | c :: cs, a => by
    show (plW (c.enc a.1) && plWs (Codec.encAll cs a.2)) = true
    rw [pl_enc c a.1, pl_encAll cs a.2] <;> rfl
theorem weight_mem : ∀ {xs : List WData} {d : WData}, d ∈ xs → d.weight ≤ WData.weightAll xs
  | [], d, h => absurd h (by simp)
  | x :: r, d, h => by
    show d.weight ≤ x.weight + 1 + WData.weightAll r
    rcases List.mem_cons.mp h with e | m
    · rw [e]
      omega
    · have z := weight_mem m
      omega
def toV : Value → V
  | .none => .non
  | .bool b => .bl b
  | .int i _ => .int i
  | .str x _ => .str x
  | .bytes b _ => .byt b
  | .ref a => .ref a
  | _ => .non
def OkU (A : List Addr) : Value → Prop
  | .none => True
  | .bool _ => True
  | .int _ _ => True
  | .str _ _ => True
  | .bytes _ _ => True
  | .ref a => a ∈ A
  | _ => False
theorem OkU.mono {A B : List Addr} (h : ∀ a ∈ A, a ∈ B) : ∀ {u : Value}, OkU A u → OkU B u := fun {u} x => by
  cases u with
  | ref a => exact h a x
  | none => trivial
  | bool b => trivial
  | int i t => trivial
  | str s t => trivial
  | bytes b t => trivial
  | _ => exact False.elim x
theorem relV_toV {A : List Addr} {u : Value} (x : OkU A u) : RelV (toV u) u := by
  cases u with
  | ref a => rfl
  | none => rfl
  | bool b => rfl
  | int i t => exact ⟨t, rfl⟩
  | str s t => exact ⟨t, rfl⟩
  | bytes b t => exact ⟨t, rfl⟩
  | _ => exact False.elim x
theorem vals_toV {A : List Addr} : ∀ {vs : List Value}, (∀ u ∈ vs, OkU A u) → Vals (vs.map toV) vs
  | [], _ => .nil
  | u :: r, h => .cons (relV_toV (h u (List.mem_cons_self ..))) (vals_toV fun x hx => h x (List.mem_cons_of_mem _ hx))
def ArgOb (h : Heap) (A : List Addr) (a : Addr) : Prop := ∃ vs : List Value, vs.length ≤ sizeLine ∧ (∀ u ∈ vs, OkU A u) ∧
  (h.get? a = some { cls := .type "list", data := .seq vs.toArray } ∨ h.get? a = some { cls := .type "tuple", data := .seq vs.toArray })
theorem ArgOb.mono {h : Heap} {A B : List Addr} {a : Addr} (k : ∀ a ∈ A, a ∈ B) (x : ArgOb h A a) : ArgOb h B a := by
  obtain ⟨vs, h1, h2, h3⟩ := x
  exact ⟨vs, h1, fun u hu => (h2 u hu).mono k, h3⟩
theorem wellAll_len {P : Params} {h : Heap} : ∀ {vs : List Value} {ds : List WData}, WellAll P h vs ds → vs.length = ds.length
  | _, _, .nil => rfl
  | _, _, .cons _ b => by
    show _ + 1 = _ + 1
    rw [wellAll_len b]
theorem well_list {P : Params} {h : Heap} {v : Value} {ds : List WData} (x : Well P h v (.list ds)) : ∃ (a : Addr) (vs : List Value), v = .ref a ∧ h.get? a = some { cls := .type "list", data := .seq vs.toArray } ∧ WellAll P h vs ds := by
  cases x with
  | list ho hall => exact ⟨_, _, rfl, ho, hall⟩
theorem well_tuple {P : Params} {h : Heap} {v : Value} {ds : List WData} (x : Well P h v (.tuple ds)) : ∃ (a : Addr) (vs : List Value), v = .ref a ∧ h.get? a = some { cls := .type "tuple", data := .seq vs.toArray } ∧ WellAll P h vs ds := by
  cases x with
  | tuple ho hall => exact ⟨_, _, rfl, ho, hall⟩
theorem well_cons {P : Params} {h : Heap} {us : List Value} {d : WData} {ds : List WData} (x : WellAll P h us (d :: ds)) : ∃ (v : Value) (vs : List Value), us = v :: vs ∧ Well P h v d ∧ WellAll P h vs ds := by
  cases x with
  | cons a b => exact ⟨_, _, rfl, a, b⟩
theorem line_of {n : Nat} (h : n ≤ 1048576) : n ≤ sizeLine := Nat.le_trans h (by decide)
section
variable {P : Params} {h : Heap}
mutual
theorem area_one : ∀ (d : WData) (v : Value), Well P h v d → plW d = true → d.weight ≤ 1048576 → ∃ A : List Addr, OkU A v ∧ ∀ a ∈ A, ArgOb h A a
  | .none, _, x, _, _ => by
    cases x
    exact ⟨[], trivial, fun a m => absurd m (by simp)⟩
  | .bool b, _, x, _, _ => by
    cases x
    exact ⟨[], trivial, fun a m => absurd m (by simp)⟩
  | .int i, _, x, _, _ => by
    cases x
    exact ⟨[], trivial, fun a m => absurd m (by simp)⟩
  | .str s, _, x, _, _ => by
    cases x
    exact ⟨[], trivial, fun a m => absurd m (by simp)⟩
  | .bytes b, _, x, _, _ => by
    cases x
    exact ⟨[], trivial, fun a m => absurd m (by simp)⟩
  | .list ds, _, x, p, z => by
    obtain ⟨a, vs, rfl, ho, hall⟩ := well_list x
    have z2 : WData.weightAll ds ≤ 1048576 := z
    obtain ⟨A, h1, h2⟩ := area_all ds _ hall p fun d hd => Nat.le_trans (weight_mem hd) z2
    have k : ∀ b ∈ A, b ∈ a :: A := fun b hb => List.mem_cons_of_mem _ hb
    refine ⟨a :: A, List.mem_cons_self .., fun b hb => ?_⟩
    rcases List.mem_cons.mp hb with e | m
    · rw [e]
      exact ⟨vs, line_of (by rw [wellAll_len hall]; exact Nat.le_trans (PySem.W.length_le_weightAllW ds) z2), fun u hu => (h1 u hu).mono k, .inl ho⟩
    · exact (h2 b m).mono k
  | .tuple ds, _, x, p, z => by
    obtain ⟨a, vs, rfl, ho, hall⟩ := well_tuple x
    have z2 : WData.weightAll ds ≤ 1048576 := z
    obtain ⟨A, h1, h2⟩ := area_all ds _ hall p fun d hd => Nat.le_trans (weight_mem hd) z2
    have k : ∀ b ∈ A, b ∈ a :: A := fun b hb => List.mem_cons_of_mem _ hb
    refine ⟨a :: A, List.mem_cons_self .., fun b hb => ?_⟩
    rcases List.mem_cons.mp hb with e | m
    · rw [e]
      exact ⟨vs, line_of (by rw [wellAll_len hall]; exact Nat.le_trans (PySem.W.length_le_weightAllW ds) z2), fun u hu => (h1 u hu).mono k, .inr ho⟩
    · exact (h2 b m).mono k
  | .float _, _, _, p, _ => Bool.noConfusion (show false = true from p)
  | .dict _, _, _, p, _ => Bool.noConfusion (show false = true from p)
  | .bytearray _, _, _, p, _ => Bool.noConfusion (show false = true from p)
  | .set _, _, _, p, _ => Bool.noConfusion (show false = true from p)
  | .frozenset _, _, _, p, _ => Bool.noConfusion (show false = true from p)
  | .obj _ _, _, _, p, _ => Bool.noConfusion (show false = true from p)
theorem area_all : ∀ (ds : List WData) (vs : List Value), WellAll P h vs ds → plWs ds = true → (∀ d ∈ ds, d.weight ≤ 1048576) → ∃ A : List Addr, (∀ u ∈ vs, OkU A u) ∧ ∀ a ∈ A, ArgOb h A a
  | [], _, x, _, _ => by
    cases x
    exact ⟨[], fun u m => absurd m (by simp), fun a m => absurd m (by simp)⟩
  | d :: ds, _, x, p, z => by
    obtain ⟨v, vs, rfl, x1, x2⟩ := well_cons x
    have q : plW d = true ∧ plWs ds = true := Bool.and_eq_true_iff.mp p
    obtain ⟨A, a1, a2⟩ := area_one d v x1 q.1 (z d (List.mem_cons_self ..))
    obtain ⟨B, b1, b2⟩ := area_all ds vs x2 q.2 fun e he => z e (List.mem_cons_of_mem _ he)
    have kA : ∀ b ∈ A, b ∈ A ++ B := fun b hb => List.mem_append.mpr (.inl hb)
    have kB : ∀ b ∈ B, b ∈ A ++ B := fun b hb => List.mem_append.mpr (.inr hb)
    refine ⟨A ++ B, fun u hu => ?_, fun b hb => ?_⟩
    · rcases List.mem_cons.mp hu with e | m
      · rw [e]
        exact a1.mono kA
      · exact (b1 u m).mono kB
    · rcases List.mem_append.mp hb with m | m
      · exact (a2 b m).mono kA
      · exact (b2 b m).mono kB
end
end
def hoOf (o : Obj) : Option HO := match o.data with
  | .seq vs _ => if (o.cls == Value.type "list") = true then some (.frz o (.lst (vs.toList.map toV))) else some (.frz o (.tup (vs.toList.map toV)))
  | _ => none
def argH (K : PySem.W.Frag) (h : Heap) (A : List Addr) : Hp := fun b => if b ∈ A then (if (K.lookup b).isNone = true then (h.get? b).bind hoOf else none) else none
def OnlyF (H : Hp) : Prop := ∀ b, H b = none ∨ ∃ o u, H b = some (.frz o u)
theorem hoOf_lst (vs : List Value) : hoOf { cls := .type "list", data := .seq vs.toArray } = some (.frz { cls := .type "list", data := .seq vs.toArray } (.lst (vs.map toV))) := by
  show (if (Value.type "list" == Value.type "list") = true then some (HO.frz { cls := .type "list", data := .seq vs.toArray } (.lst (vs.toArray.toList.map toV))) else some (HO.frz { cls := .type "list", data := .seq vs.toArray } (.tup (vs.toArray.toList.map toV)))) = _
  rw [if_pos (beq_self_eq_true _)]
theorem hoOf_tup (vs : List Value) : hoOf { cls := .type "tuple", data := .seq vs.toArray } = some (.frz { cls := .type "tuple", data := .seq vs.toArray } (.tup (vs.map toV))) := by
  show (if (Value.type "tuple" == Value.type "list") = true then some (HO.frz { cls := .type "tuple", data := .seq vs.toArray } (.lst (vs.toArray.toList.map toV))) else some (HO.frz { cls := .type "tuple", data := .seq vs.toArray } (.tup (vs.toArray.toList.map toV)))) = _
  rw [if_neg (by decide)]
section
variable {P : Program} {w : World} {K : PySem.W.Frag} {h : Heap} {A : List Addr}
theorem argH_at {b : Addr} {o : Obj} (hb : b ∈ A) (hk : K.lookup b = none) (e : h.get? b = some o) : argH K h A b = hoOf o := by
  unfold argH
  rw [if_pos hb, hk, if_pos (show (none : Option Obj).isNone = true from rfl), e] <;> rfl
theorem of_argH {b : Addr} {u : HO} (q : argH K h A b = some u) : b ∈ A ∧ K.lookup b = none := by
  unfold argH at q
  by_cases hb : b ∈ A
  · rw [if_pos hb] at q
    cases hk : K.lookup b with
    | none => exact ⟨hb, rfl⟩
    | some o =>
      rw [hk, if_neg (by simp)] at q
      cases q
  · rw [if_neg hb] at q
    cases q
theorem argH_is (ar : ∀ a ∈ A, ArgOb h A a) {b : Addr} {u : HO} (q : argH K h A b = some u) : K.lookup b = none ∧ ∃ vs : List Value, vs.length ≤ sizeLine ∧ (∀ u ∈ vs, OkU A u) ∧
    ((h.get? b = some { cls := .type "list", data := .seq vs.toArray } ∧ u = .frz { cls := .type "list", data := .seq vs.toArray } (.lst (vs.map toV))) ∨
     (h.get? b = some { cls := .type "tuple", data := .seq vs.toArray } ∧ u = .frz { cls := .type "tuple", data := .seq vs.toArray } (.tup (vs.map toV)))) := by
  obtain ⟨hb, hk⟩ := of_argH q
  obtain ⟨vs, h1, h2, h3⟩ := ar b hb
  refine ⟨hk, vs, h1, h2, ?_⟩
  rcases h3 with e | e
  · rw [argH_at hb hk e, hoOf_lst] at q
    exact .inl ⟨e, (Option.some.inj q).symm⟩
  · rw [argH_at hb hk e, hoOf_tup] at q
    exact .inr ⟨e, (Option.some.inj q).symm⟩
theorem argH_only (ar : ∀ a ∈ A, ArgOb h A a) : OnlyF (argH K h A) := fun b => by
  cases q : argH K h A b with
  | none => exact .inl rfl
  | some u =>
    obtain ⟨_, vs, _, _, ⟨_, e⟩ | ⟨_, e⟩⟩ := argH_is ar q
    · exact .inr ⟨_, _, by rw [e]⟩
    · exact .inr ⟨_, _, by rw [e]⟩
theorem argH_ok (ar : ∀ a ∈ A, ArgOb h A a) : HOk P w (argH K h A) h := fun b u q => by
  obtain ⟨_, vs, h1, h2, ⟨e, rfl⟩ | ⟨e, rfl⟩⟩ := argH_is ar q
  · exact ⟨e, by rw [List.length_map]; exact h1, vs, _, vals_toV h2, e⟩
  · exact ⟨e, by rw [List.length_map]; exact h1, vs, vals_toV h2, _, e, rfl, _, rfl⟩
theorem seq_inj {c c' : Value} {vs us : List Value} (e : (some { cls := c, data := .seq vs.toArray } : Option Obj) = some { cls := c', data := .seq us.toArray }) : c = c' ∧ vs = us := by
  have e1 := Option.some.inj e
  have e2 : c = c' := congrArg Obj.cls e1
  have e3 : Data.seq vs.toArray = Data.seq us.toArray := congrArg Obj.data e1
  injection e3 with e4
  refine ⟨e2, ?_⟩
  have e5 := congrArg Array.toList e4
  simpa using e5
theorem argL (KX : K.In h) (ar : ∀ a ∈ A, ArgOb h A a) {a : Addr} {vs : List Value} (ha : a ∈ A) (e : h.get? a = some { cls := .type "list", data := .seq vs.toArray }) : (∀ u ∈ vs, OkU A u) ∧ SqL K (argH K h A) a (vs.map toV) := by
  obtain ⟨us, h1, h2, h3⟩ := ar a ha
  have hu : us = vs := by
    rcases h3 with q | q
    · rw [e] at q
      exact (seq_inj q).2.symm
    · rw [e] at q
      exact absurd (Value.type.inj (seq_inj q).1) (by decide)
  subst hu
  refine ⟨h2, ?_⟩
  cases hk : K.lookup a with
  | none => exact .inl (.inr ⟨_, by rw [argH_at ha hk e, hoOf_lst]⟩)
  | some o =>
    have e2 := KX a o hk
    rw [e] at e2
    obtain rfl := Option.some.inj e2
    exact .inr ⟨_, us.toArray, _, hk, rfl, rfl, rfl, by rw [List.size_toArray]; exact h1, by simpa using vals_toV h2⟩
theorem argT (KX : K.In h) (ar : ∀ a ∈ A, ArgOb h A a) {a : Addr} {vs : List Value} (ha : a ∈ A) (e : h.get? a = some { cls := .type "tuple", data := .seq vs.toArray }) : (∀ u ∈ vs, OkU A u) ∧ SqT K (argH K h A) a (vs.map toV) := by
  obtain ⟨us, h1, h2, h3⟩ := ar a ha
  have hu : us = vs := by
    rcases h3 with q | q
    · rw [e] at q
      exact absurd (Value.type.inj (seq_inj q).1) (by decide)
    · rw [e] at q
      exact (seq_inj q).2.symm
  subst hu
  refine ⟨h2, ?_⟩
  cases hk : K.lookup a with
  | none => exact .inl (.inr ⟨_, by rw [argH_at ha hk e, hoOf_tup]⟩)
  | some o =>
    have e2 := KX a o hk
    rw [e] at e2
    obtain rfl := Option.some.inj e2
    exact .inr ⟨_, us.toArray, _, hk, rfl, rfl, by rw [List.size_toArray]; exact h1, by simpa using vals_toV h2⟩
mutual
theorem dw_one {Pm : Params} (KX : K.In h) (ar : ∀ a ∈ A, ArgOb h A a) : ∀ (d : WData) (v : Value), Well Pm h v d → plW d = true → OkU A v → Dw K (argH K h A) (toV v) d
  | .none, _, x, _, _ => by
    cases x
    exact .non
  | .bool b, _, x, _, _ => by
    cases x
    exact .bl b
  | .int i, _, x, _, _ => by
    cases x
    exact .int i
  | .str s, _, x, _, _ => by
    cases x
    exact .str s
  | .bytes b, _, x, _, _ => by
    cases x
    have z := Dw.byt (K := K) (H := argH K h A) b.toArray
    exact z
  | .list ds, _, x, p, hu => by
    obtain ⟨a, vs, rfl, ho, hall⟩ := well_list x
    obtain ⟨h2, hs⟩ := argL KX ar hu ho
    exact .lst hs (dw_all KX ar ds _ hall p h2)
  | .tuple ds, _, x, p, hu => by
    obtain ⟨a, vs, rfl, ho, hall⟩ := well_tuple x
    obtain ⟨h2, hs⟩ := argT KX ar hu ho
    exact .tup hs (dw_all KX ar ds _ hall p h2)
  | .float _, _, _, p, _ => Bool.noConfusion (show false = true from p)
  | .dict _, _, _, p, _ => Bool.noConfusion (show false = true from p)
  | .bytearray _, _, _, p, _ => Bool.noConfusion (show false = true from p)
  | .set _, _, _, p, _ => Bool.noConfusion (show false = true from p)
  | .frozenset _, _, _, p, _ => Bool.noConfusion (show false = true from p)
  | .obj _ _, _, _, p, _ => Bool.noConfusion (show false = true from p)
theorem dw_all {Pm : Params} (KX : K.In h) (ar : ∀ a ∈ A, ArgOb h A a) : ∀ (ds : List WData) (vs : List Value), WellAll Pm h vs ds → plWs ds = true → (∀ u ∈ vs, OkU A u) → DwAll K (argH K h A) (vs.map toV) ds
  | [], _, x, _, _ => by
    cases x
    exact .nil
  | d :: ds, _, x, p, hu => by
    obtain ⟨v, vs, rfl, x1, x2⟩ := well_cons x
    have q : plW d = true ∧ plWs ds = true := Bool.and_eq_true_iff.mp p
    exact .cons (dw_one KX ar d v x1 q.1 (hu _ (List.mem_cons_self ..))) (dw_all KX ar ds vs x2 q.2 fun u m => hu u (List.mem_cons_of_mem _ m))
end
end
theorem spec_call {P : Program} {w : World} {K : PySem.W.Frag} {mg mb : Str → Option Value} {CX : CXT} {k : Nat} {fa : Addr} {fd : FuncData} {ps : List Str} {sp : Sp} {s₁ : Shared} {vals : List Value} {ds : List WData} {R : PySem.W.WRecords} {cl : Str → Option Addr} {d0 : WData}
    (KX : K.In s₁.heap) (hns : s₁.heap.Ns mainGlobals mg) (hb : s₁.heap.Ns builtinsNs mb) (hbb : ∀ x : Str, x ≠ "__name__" → mb x = bootBuiltins x) (hlim : s₁.heap.NoLimit) (hg : s₁.gens = #[])
    (hwl : WellAll w.params s₁.heap vals ds) (hpl : plWs ds = true) (hwt : ∀ d ∈ ds, d.weight ≤ 1048576) (hr : Room k callerA)
    (F : ∀ base : Heap, K.In base → base.Ns mainGlobals mg → FnOk P w K mg base CX k fa fd ps sp) (hbind : ∀ (s : Shared) (us : List Value), us.length = ps.length → BindsTo s fd ⟨us, []⟩ (ps.zip us)) (hlen : ds.length = ps.length)
    (hsp : ∀ (H : Hp) (xs : List V), OnlyF H → DwAll K H xs ds → sp xs H (fun v H' => Dw K H' v d0) fun _ _ _ => False)
    (hCX : ∀ H e s', CX [] H s₁ (fun _ _ _ => False) e s' → False) :
    codeAny (model P w) callerA (.call (.ref fa) ⟨vals, []⟩) (fun r s' => ∃ u as, r = .ok (.ret u) ∧ ReadsW R cl s'.heap u d0 as ∧ OldK s₁.heap s'.heap ∧ s'.os = s₁.os ∧ AllBare s'.gens) s₁ := by
  obtain ⟨A, ho, ar⟩ := area_all ds vals hwl hpl hwt
  have hO : OnlyF (argH K s₁.heap A) := argH_only ar
  have hok : HOk P w (argH K s₁.heap A) s₁.heap := argH_ok ar
  have hS := dw_all KX ar ds vals hwl hpl ho
  have hV := vals_toV ho
  have hK : ∀ b u, argH K s₁.heap A b = some u → K.lookup b = none := fun b u q => (argH_is ar q).1
  have noA : ∀ {b : Addr} {o : Obj} {es : Array DictEntry} {ep : Nat}, s₁.heap.get? b = some o → o.data = .dict es ep → argH K s₁.heap A b = none := fun {b o es ep} e d => by
    cases q : argH K s₁.heap A b with
    | none => rfl
    | some u =>
      obtain ⟨_, vs, _, _, ⟨e2, _⟩ | ⟨e2, _⟩⟩ := argH_is ar q
      · rw [e2] at e
        cases e
        have d' : Data.seq vs.toArray _ = Data.dict es ep := d
        cases d'
      · rw [e2] at e
        cases e
        have d' : Data.seq vs.toArray _ = Data.dict es ep := d
        cases d'
  generalize argH K s₁.heap A = H at hO hok hS hK noA
  have base_of : ∀ {b : Addr} {o : Obj}, s₁.heap.get? b = some o → H b = none → (hidT s₁.heap H).get? b = some o := fun e n => hidT_get e n
  have nsK : ∀ {b : Addr} {m : Str → Option Value}, s₁.heap.Ns b m → (hidT s₁.heap H).Ns b m := fun {b m} ⟨o, es, ep, e, d, r⟩ => ⟨o, es, ep, base_of e (noA e d), d, r⟩
  have nK : ∀ b o, K.lookup b = some o → H b = none := fun b o e => by
    cases q : H b with
    | none => rfl
    | some u =>
      rw [hK b u q] at e
      cases e
  have hKb : K.In (hidT s₁.heap H) := fun b o e => base_of (KX b o e) (nK b o e)
  have hM : Mod K mg (hidT s₁.heap H) := ⟨hKb, nsK hns, ⟨mb, nsK hb, hbb⟩, let ⟨mc, h1, h2⟩ := hlim; ⟨mc, nsK h1, h2⟩⟩
  have e0 : Env0 P w K mg (hidT s₁.heap H) callerA [] s₁ H := ⟨rfl, hM, fun b o e => of_hidT e, Nat.le_of_eq (hidT_size _ _), trivial, fun b hb => absurd (show b ∈ ([] : List Addr) from hb) (by simp), hok, .of_eq hg⟩
  have hl : vals.length = ps.length := by rw [wellAll_len hwl]; exact hlen
  refine codeAny_mono ((F _ hKb (nsK hns)).run callerA [] s₁ H ⟨vals, []⟩ vals (vals.map toV) _ _ hr e0 (hbind s₁ vals hl) hV (hsp H _ hO hS)) fun r s' x => ?_
  cases r with
  | error e => exact (hCX H e s' x).elim
  | ok fl =>
    cases fl with
    | next => exact False.elim x
    | brk => exact False.elim x
    | cont => exact False.elim x
    | ret u =>
      obtain ⟨v, H', os, bare, un, hok', r', q⟩ := x
      have kept : ∀ b o, s₁.heap.get? b = some o → s'.heap.get? b = some o := fun b o e => by
        cases q2 : H b with
        | none => exact un.keep b o e q2 (by intro z; exact absurd (show b ∈ ([] : List Addr) from z) (by simp)) (by simp)
        | some u2 =>
          rcases hO b with z | ⟨ob, u3, z⟩
          · rw [q2] at z
            cases z
          · have z2 := un.frzs b ob _ z
            obtain ⟨e1, _⟩ := hok b _ z
            obtain ⟨e2, _⟩ := hok' b _ z2
            rw [e] at e1
            cases e1
            exact e2
      have KX' : K.In s'.heap := fun b o e => kept b o (KX b o e)
      obtain ⟨as, hrd⟩ := Dw.reads (R := R) (cl := cl) hok' KX' d0 v u q r'
      exact ⟨u, as, rfl, hrd, OldK.of_keep kept, os, bare⟩
theorem layable_weight {ds : List WData} (h : WData.layableAll ds = true) : ∀ d ∈ ds, d.weight ≤ 1048576 := fun d hd =>
  (PySem.W.layableW_iff.mp (List.all_eq_true.mp h d hd)).2.2
theorem encAll_len : ∀ (cs : List Codec) (a : Codec.denoteAll cs), (Codec.encAll cs a).length = cs.length
  | [], _ => rfl
  | c :: cs, a => by
    show (Codec.encAll cs a.2).length + 1 = cs.length + 1
    rw [encAll_len cs a.2]
theorem walk_spec {r : OpenSpec} {k : Nat} {q : Program} {loose : List Str} {XP : (Str → Option Value) → Heap → Prop} {YP : World → Heap → Prop} {d : DefRec} {K : Params → PySem.W.Frag} {CX : World → CXT} {ps : List Str} {sp : World → Sp}
    (hwell : r.wellSaid = true) (hdf : d.params.defaults = []) (hlen : r.args.length = ps.length) (hr : Room k callerA)
    (hY : ∀ (w : World) (h : Heap), YP w h → (K w.params).In h)
    (F : ∀ (w : World) (mg : Str → Option Value) (fa : Addr) (h : Heap), YP w h → (K w.params).In h → h.Ns mainGlobals mg → mg d.name = some (.ref fa) →
      ∃ fd : FuncData, (∀ (s : Shared) (us : List Value), us.length = ps.length → BindsTo s fd ⟨us, []⟩ (ps.zip us)) ∧
        ∀ base : Heap, (K w.params).In base → base.Ns mainGlobals mg → FnOk r.prog w (K w.params) mg base (CX w) k fa fd ps (sp w))
    (hsp : ∀ (w : World) (H : Hp) (xs : List V) (a : Codec.denoteAll r.args), OnlyF H → Codec.withinAll r.args a = true → Codec.app r.args r.asked a = true → DwAll (K w.params) H xs (Codec.encAll r.args a) →
      sp w xs H (fun v H' => Dw (K w.params) H' v (r.ret.enc (Codec.app r.args r.f a))) fun _ _ _ => False)
    (hCX : ∀ (w : World) (H : Hp) (s : Shared) (e : Value) (s' : Shared), CX w [] H s (fun _ _ _ => False) e s' → False) :
    PySem.W.WalkOS q loose XP YP r d [] (fun f vs => PySem.call f vs) := by
  intro w s_0 s₁ mg mb G Y fa o pm cd doc dV kV ho hd hcd hD hmg hg args vals as hpre hlay hrd hwl hlo
  obtain ⟨a, e1, e2⟩ := PySem.W.os_pre_some hpre
  obtain ⟨e3, hwi⟩ := Codec.encAll_of_decAll r.args args a e1
  subst e3
  have KX := hY w _ Y
  obtain ⟨fd, hb, hF⟩ := F w mg fa _ Y KX G.T.g hmg
  refine PySem.W.enter_call (codeAny_mono (spec_call (R := []) (cl := classAt s_0.heap) (d0 := r.ret.enc (Codec.app r.args r.f a)) KX G.T.g G.T.b G.T.builtins G.T.nolimit hg hwl (pl_encAll _ _) (layable_weight hlay) hr hF hb (by rw [encAll_len]; exact hlen)
    (fun H xs hO hS => hsp w H xs a hO hwi e2 hS) fun H e s' => hCX w H s₁ e s') fun r' s' hq => ?_)
  obtain ⟨u, as', rfl, h1, h2, h3, h4⟩ := hq
  exact ⟨.inl ⟨u, _, as', rfl, fun _ => rfl, h1, (OpenSpec.post_iff hwell hwi _ _).mpr rfl, fun z => Bool.noConfusion (show false = true from z)⟩, h2, h3, h4⟩
theorem walk_specK {r : OpenSpec} {k : Nat} {q : Program} {loose : List Str} {XP : (Str → Option Value) → Heap → Prop} {YP : World → Heap → Prop} {d : DefRec} {K : Params → PySem.W.Frag} {CX : CXT} {ps : List Str} {sp : PySem.W.Frag → Sp}
    (hwell : r.wellSaid = true) (hdf : d.params.defaults = []) (hlen : r.args.length = ps.length) (hr : Room k callerA)
    (hY : ∀ (w : World) (h : Heap), YP w h → (K w.params).In h)
    (F : ∀ (w : World) (mg : Str → Option Value) (fa : Addr) (h : Heap), YP w h → (K w.params).In h → h.Ns mainGlobals mg → mg d.name = some (.ref fa) →
      ∃ fd : FuncData, (∀ (s : Shared) (us : List Value), us.length = ps.length → BindsTo s fd ⟨us, []⟩ (ps.zip us)) ∧
        ∀ base : Heap, (K w.params).In base → base.Ns mainGlobals mg → FnOk r.prog w (K w.params) mg base CX k fa fd ps (sp (K w.params)))
    (hsp : ∀ (K : PySem.W.Frag) (H : Hp) (xs : List V) (a : Codec.denoteAll r.args), OnlyF H → Codec.withinAll r.args a = true → Codec.app r.args r.asked a = true → DwAll K H xs (Codec.encAll r.args a) →
      sp K xs H (fun v H' => Dw K H' v (r.ret.enc (Codec.app r.args r.f a))) fun _ _ _ => False)
    (hCX : ∀ (H : Hp) (s : Shared) (e : Value) (s' : Shared), CX [] H s (fun _ _ _ => False) e s' → False) :
    PySem.W.WalkOS q loose XP YP r d [] (fun f vs => PySem.call f vs) :=
  walk_spec (K := K) (CX := fun _ => CX) (sp := fun w => sp (K w.params)) hwell hdf hlen hr hY F (fun w H xs a h1 h2 h3 h4 => hsp (K w.params) H xs a h1 h2 h3 h4) fun _ H s e s' => hCX H s e s'
end L2
end
end
section
namespace L2
open PySem PySem.Spec PyProof.Rows
structure Ok (P : Program) (w : World) (K : PySem.W.Frag) (mg : Str → Option Value) (base : Heap) (CX : CXT) (k : Nat) (x : Str) (ps : List Str) (sp : Sp) : Prop where
  ex : ∃ f fd, FnOk P w K mg base CX k f fd ps sp ∧ Binds K fd ps [] ∧ mg x = some (.ref f) ∧ PySem.W.keepIn K (.ref f) = true
structure MOk (P : Program) (w : World) (K : PySem.W.Frag) (mg : Str → Option Value) (base : Heap) (CX : CXT) (k : Nat) (C : Addr) (m : Str) (ps : List Str) (sp : Sp) : Prop where
  ex : ∃ f fd, FnOk P w K mg base CX k f fd ps sp ∧ Binds K fd ps [] ∧ Meth K C m f ∧ Cls K C
structure IOk (P : Program) (w : World) (K : PySem.W.Frag) (mg : Str → Option Value) (base : Heap) (CX : CXT) (k : Nat) (C : Addr) (x : Str) (ps : List Str) (sp : Sp) : Prop where
  ex : ∃ f fd, FnOk P w K mg base CX k f fd ps sp ∧ Binds K fd ps [] ∧ Mk K C f ∧ mg x = some (.ref C)
section
variable {X : Cx} {CX : CXT} {k n : Nat} {C : Addr} {ps : List Str} {sp : Sp} {E : XK} {x m : Str} {p pos apos : Pos} {e o : Expr} {es : List Expr} {ta : TE} {t : TA}
theorem pe_f (O : Ok X.prog X.w X.K X.mg X.base CX k x ps sp) (hr : Room n X.A) (hx : Passes CX X E) (ha : PA X (e :: es) t) (hg : Gl X x := by rfl) (hk : k ≤ n := by decide) (hdb : (x == ("__debug__" : Str)) = false := by decide)
    (he : starEach (e :: es) X.env = (false, eval e X.env) :: starEach es X.env := by rfl) (hpl : (backTo pos (starEach es X.env)).any (·.1) = false := by rfl) :
    PE X (.Call (.Name x p) (e :: es) [] pos) (tCall sp [] E t) := by
  obtain ⟨f, fd, F, b, m, kp⟩ := O.ex
  exact pe_call F (hr.mono hk) hg m kp b .nil hx ha hdb he hpl
theorem pe_m {pl : Sem Bool} (O : MOk X.prog X.w X.K X.mg X.base CX k C m ps sp) (hr : Room n X.A) (hx : Passes CX X E) (ho : PE X o ta) (ha : PA X (e :: es) t) (hk : k ≤ n := by decide)
    (hst : starEach (e :: es) X.env = (false, eval e X.env) :: starEach es X.env := by rfl) (hpl : (backTo pos (starEach es X.env)).any (·.1) = false := by rfl)
    (ht : eval (.Call (.Attribute o m apos) (e :: es) [] pos) X.env = (do
      let ov ← eval o X.env
      standAt apos.atName
      let (f, first) ← holding [ov] (getMethod ov m pl)
      callWith pos f first (backTo pos (starEach (e :: es) X.env)) (backToKw pos (keywordEach [] X.env))) := by rfl) :
    PE X (.Call (.Attribute o m apos) (e :: es) [] pos) (tMeth C m sp [] E ta t) := by
  obtain ⟨f, fd, F, b, mm, cl⟩ := O.ex
  exact pe_meth ho cl mm F (hr.mono hk) b .nil hx ha hst hpl ht
theorem pe_mz {pl : Sem Bool} (O : MOk X.prog X.w X.K X.mg X.base CX k C m ps sp) (hr : Room n X.A) (hx : Passes CX X E) (ho : PE X o ta) (hk : k ≤ n := by decide)
    (ht : eval (.Call (.Attribute o m apos) [] [] pos) X.env = (do
      let ov ← eval o X.env
      standAt apos.atName
      let (f, first) ← holding [ov] (getMethod ov m pl)
      callWith pos f first (backTo pos (starEach [] X.env)) (backToKw pos (keywordEach [] X.env))) := by rfl) :
    PE X (.Call (.Attribute o m apos) [] [] pos) (tMeth C m sp [] E ta tNil) := by
  obtain ⟨f, fd, F, b, mm, cl⟩ := O.ex
  exact pe_meth0 ho cl mm F (hr.mono hk) b .nil hx ht
theorem pe_mk (O : IOk X.prog X.w X.K X.mg X.base CX k C x ps sp) (hr : Room n X.A) (hx : Passes CX X E) (ha : PA X (e :: es) t) (hg : Gl X x := by rfl) (hk : k + 1 ≤ n := by decide) (hdb : (x == ("__debug__" : Str)) = false := by decide)
    (he : starEach (e :: es) X.env = (false, eval e X.env) :: starEach es X.env := by rfl) (hpl : (backTo pos (starEach es X.env)).any (·.1) = false := by rfl) :
    PE X (.Call (.Name x p) (e :: es) [] pos) (tMake C sp [] E t) := by
  obtain ⟨f, fd, F, b, mm, m⟩ := O.ex
  exact pe_make mm F (hr.mono hk) hg m b .nil hx ha hdb he hpl
theorem pe_gi {i : Int} (h : ∃ t, X.mg x = some (.int i t)) (hg : Gl X x := by rfl) (hd : (x == ("__debug__" : Str)) = false := by decide) : PE X (.Name x pos) (tC (.int i)) := by
  obtain ⟨t, e⟩ := h
  exact pe_glob hg e ⟨t, rfl⟩ hd
theorem pe_gs {i : Str} (h : ∃ t, X.mg x = some (.str i t)) (hg : Gl X x := by rfl) (hd : (x == ("__debug__" : Str)) = false := by decide) : PE X (.Name x pos) (tC (.str i)) := by
  obtain ⟨t, e⟩ := h
  exact pe_glob hg e ⟨t, rfl⟩ hd
theorem pe_gr {a : Addr} (h : X.mg x = some (.ref a)) (hg : Gl X x := by rfl) (hd : (x == ("__debug__" : Str)) = false := by decide) : PE X (.Name x pos) (tC (.ref a)) :=
  pe_glob hg h rfl hd
end
theorem ownX {P : Program} {w : World} {K : PySem.W.Frag} {mg : Str → Option Value} {base : Heap} {N : List Str} {qual : Str} {scope : Scope} {f : Addr} {cd : Value} {A : Around} {outer : List Env} {s : Shared} {H : Hp} {E : XK} :
    PassesOwn (model P w) (A.deeper (envOfC qual scope s.heap.objs.size f cd)) (envOfC qual scope s.heap.objs.size f cd) (cxOf (CXR P w) P w K mg base N qual scope f cd A outer s H E).xe := by
  show PassesOwn _ _ _ (fun e s' => wpAny (model P w) (A.deeper (envOfC qual scope s.heap.objs.size f cd)) (leaving (envOfC qual scope s.heap.objs.size f cd) e) (fun _ s'' => CXR P w outer H s E e s'') (fun e' s'' => CXR P w outer H s E e' s'') s')
  first | passes_own | with_unfolding_all passes_own
def Kb (S : List Addr) (H H' : Hp) : Prop := ∀ b o, H b = some o → b ∉ S → H' b = some o
theorem Kb.refl {S : List Addr} {H : Hp} : Kb S H H := fun _ _ h _ => h
theorem Kb.trans {S : List Addr} {H H1 H2 : Hp} (a : Kb S H H1) (b : Kb S H1 H2) : Kb S H H2 := fun c o h n => b c o (a c o h n) n
theorem Kb.mono {S T : List Addr} {H H1 : Hp} (a : Kb S H H1) (h : ∀ b, b ∈ S → b ∈ T) : Kb T H H1 := fun c o e n => a c o e fun z => n (h c z)
theorem Same.kb {S : List Addr} {H H1 : Hp} (a : Same H H1) : Kb S H H1 := fun c o e _ => a c o e
theorem Kb.same {H H1 : Hp} (a : Kb [] H H1) : Same H H1 := fun c o e => a c o e (by simp)
theorem Kb.put {S : List Addr} {H : Hp} {a : Addr} {o : HO} (h : a ∈ S) : Kb S H (upd H a o) := fun c u e n => by
  rw [upd_ne (fun z : c = a => n (by rw [z]; exact h))]; exact e
theorem Kb.new {S : List Addr} {H : Hp} {a : Addr} {o : HO} (h : H a = none) : Kb S H (upd H a o) := fun c u e n => by
  rw [upd_ne (ne_of_none e h)]; exact e
theorem Same.new {H : Hp} {a : Addr} {o : HO} (h : H a = none) : Same H (upd H a o) := fun c u e => by
  rw [upd_ne (ne_of_none e h)]; exact e
theorem Kb.un {S : List Addr} {H H' : Hp} {a : Addr} (k : Kb S H H') (h : H a = none) : Kb S H (untr H' a) := fun c u e n => by
  rw [untr_ne (ne_of_none e h)]; exact k c u e n
theorem Kb.drop {S T : List Addr} {H H1 : Hp} (a : Kb S H H1) (h : ∀ b, b ∈ S → b ∈ T ∨ H b = none) : Kb T H H1 := fun c o e n => a c o e fun z => by
  rcases h c z with q | q
  · exact n q
  · rw [q] at e; cases e
section
variable {X : Cx}
def rNotInD (K : PySem.W.Frag) : R2 := fun x y H Q => ∃ d p vs ds, y = .ref p ∧ Dp K H x d ∧ SqL K H p vs ∧ DpAll K H vs ds ∧ d.canLay0 = true ∧ PyData.canLayAll0 ds = true ∧ d.depth ≤ 64 ∧ Q (.bl (!ds.any fun y => PyData.eqv y d)) H
theorem op_notInD (hu : X.A.units + 66 < cLine) : OpR X (compareOp .NotIn) (rNotInD X.K) := by
  intro pins s σ H x y v u Q I rx ry h
  obtain ⟨d, p, vs, ds, rfl, hd, hs, ha, c1, c2, dd, q⟩ := h
  obtain ⟨as, r1⟩ := Dp.reads I d x v hd rx
  obtain ⟨bs, r2⟩ := Dp.reads I (.list ds) (.ref p) u (.lst hs ha) ry
  refine SeqAt.notIn_list_reads r2 r1 c2 c1 ?_ ⟨.bl _, H, I, rfl, q⟩
  have : min (PyData.depthAll ds) d.depth ≤ 64 := Nat.le_trans (Nat.min_le_right _ _) dd
  omega
def rEqL0 (K : PySem.W.Frag) : R2 := fun x y H Q => ∃ a b xs, x = .ref a ∧ y = .ref b ∧ SqL K H a xs ∧ SqL K H b [] ∧ Q (.bl (decide (xs = []))) H
theorem op_eqL0 (hu : X.A.units + 64 < cLine) : OpR X (compareOp .Eq) (rEqL0 X.K) := by
  intro pins s σ H x y v u Q I rx ry h
  obtain ⟨a, b, xs, rfl, rfl, ha, hb, q⟩ := h
  cases rx
  cases ry
  by_cases hx : xs = []
  · subst hx
    have z := op_eqD (X := X) hu pins s σ H (.ref a) (.ref b) (.ref a) (.ref b) Q I rfl rfl ⟨.list [], .list [], .lst ha .nil, .lst hb .nil, by decide, by decide, ?_⟩
    · exact z
    · have e : PyData.eqv (.list []) (.list []) = true := by decide
      rw [e]
      simpa using q
  · obtain ⟨its, r, pl, hz⟩ := I.list ha
    obtain ⟨its2, r2, pl2, hz2⟩ := I.list hb
    have e2 : its2 = [] := by cases r2; rfl
    subst e2
    have hl : its.length ≠ 0 := by
      rw [← r.length]
      intro z
      exact hx (List.length_eq_zero_iff.mp z)
    refine SeqAt.eq_list_lengthsAt pl.isList pl2.isList (by simp [hl]) (by omega) ⟨.bl false, H, I, rfl, ?_⟩
    simpa [hx] using q
end
end L2
end
section
namespace Pg
open PySem L2
def top (i : Nat) : Stmt := PySem.Challenge.pw_makeups_s06_cut.main.body.getD i (.Pass ⟨0, 0, 0, 0⟩)
abbrev s_may_be_partners : Stmt := top 8
abbrev s_is_gathering : Stmt := top 9
abbrev s_is_leaf : Stmt := top 10
abbrev s_count_leaves : Stmt := top 11
abbrev s_leaf_place : Stmt := top 12
abbrev s_partners_of : Stmt := top 13
abbrev s_leaves_alone : Stmt := top 14
abbrev s_is_counted : Stmt := top 15
abbrev s_lose_from : Stmt := top 16
abbrev s_cut_from : Stmt := top 17
abbrev s_Gathering_init : Stmt := inClass (top 27) 0
abbrev s_signature_behind : Stmt := top 28
abbrev s_is_size : Stmt := top 29
abbrev s_has_notes : Stmt := top 30
abbrev s_are_one_item : Stmt := top 31
abbrev s_partner_of : Stmt := top 32
abbrev s_partner_state : Stmt := top 33
abbrev s_may_be_cut : Stmt := top 34
abbrev s_leaf_row : Stmt := top 35
abbrev s_word_of : Stmt := top 36
abbrev s_position : Stmt := top 53
abbrev s_signature_sign : Stmt := top 54
abbrev s_signature_character : Stmt := top 55
abbrev s_row_sign : Stmt := top 56
abbrev s_row_character : Stmt := top 57
abbrev s_Fault_init : Stmt := inClass (top 61) 0
abbrev s_check : Stmt := top 62
abbrev s_Reader_init : Stmt := inClass (top 63) 0
abbrev s_Reader_peek : Stmt := inClass (top 63) 1
abbrev s_Reader_advance : Stmt := inClass (top 63) 2
abbrev s_Reader_expect : Stmt := inClass (top 63) 3
abbrev s_Reader_read_number : Stmt := inClass (top 63) 4
abbrev s_read_notes : Stmt := top 65
abbrev s_read_note : Stmt := top 66
abbrev s_read_leaf_note : Stmt := top 67
abbrev s_may_become : Stmt := top 68
abbrev s_read_gap_note : Stmt := top 69
abbrev s_read_counted_row : Stmt := top 70
abbrev s_read_told_row : Stmt := top 71
abbrev s_read_formula : Stmt := top 74
abbrev s_read_item : Stmt := top 75
abbrev s_read_signatures : Stmt := top 76
abbrev s_signatures_from : Stmt := top 77
abbrev s_is_free : Stmt := top 78
abbrev s_read_signature : Stmt := top 79
abbrev s_read_size : Stmt := top 80
abbrev s_Book_init : Stmt := inClass (top 86) 0
abbrev s_read_book : Stmt := top 87
abbrev s_first_leaf : Stmt := top 88
abbrev s_gathering_of_leaf : Stmt := top 89
abbrev s_change_leaf : Stmt := top 92
abbrev s_origins_of : Stmt := top 93
abbrev s_change_own_leaf : Stmt := top 94
abbrev s_lose_own_leaf : Stmt := top 95
abbrev s_write_formula : Stmt := top 97
abbrev s_join_texts : Stmt := top 98
abbrev s_item_end : Stmt := top 99
abbrev s_write_item : Stmt := top 100
abbrev s_write_signature : Stmt := top 101
abbrev s_write_number : Stmt := top 102
abbrev s_write_notes : Stmt := top 103
abbrev s_write_row : Stmt := top 104
abbrev s_cut : Stmt := top 108
abbrev s_answer_change : Stmt := top 109
abbrev s_tell_formula : Stmt := top 110
end Pg
end
section
namespace Pg
open PySem PySem.Spec PyProof.Rows L2
def cV (n : Nat) : V := .int (n : Int)
def digitsL : List Nat := [48, 49, 50, 51, 52, 53, 54, 55, 56, 57]
def raisedL : List Nat := [8304, 185, 178, 179, 8308, 8309, 8310, 8311, 8312, 8313]
def rowL : List Nat := [124, 40, 41, 91, 93]
def otherL : List Nat := [960, 967, 42, 8224]
def lettersS : Str := "ABCDEFGHIKLMNOPQRSTVXYZabcdefghiklmnopqrstvxyz"
structure Adr where
  CR : Addr
  CG : Addr
  CB : Addr
  CF : Addr
  NF : Addr
  fF : Addr
  dg : Addr
  rd : Addr
  rs : Addr
  os : Addr
structure Txt (K : PySem.W.Frag) (mg : Str → Option Value) (a : Adr) : Prop where
  clR : Cls K a.CR
  nRt : NoAttr K a.CR "text"
  nRp : NoAttr K a.CR "place"
  clG : Cls K a.CG
  nGs : NoAttr K a.CG "signature"
  nGz : NoAttr K a.CG "size"
  nGt : NoAttr K a.CG "states"
  nGg : NoAttr K a.CG "gaps"
  clB : Cls K a.CB
  nBg : NoAttr K a.CB "gatherings"
  nBr : NoAttr K a.CB "refusal"
  nBp : NoAttr K a.CB "place"
  xF : XCls K a.CF a.NF a.fF
  xFp : XNo K a.NF "place"
  mF : mg "Fault" = some (.ref a.CF)
  len : mg "len" = none
  range : mg "range" = none
  any : mg "any" = none
  ord : mg "ord" = none
  list : mg "list" = none
  dg : mg "DIGITS" = some (.ref a.dg)
  dgS : ∀ H, SqT K H a.dg (digitsL.map cV)
  rd : mg "RAISED_DIGITS" = some (.ref a.rd)
  rdS : ∀ H, SqT K H a.rd (raisedL.map cV)
  rs : mg "ROW_SIGNS" = some (.ref a.rs)
  rsS : ∀ H, SqT K H a.rs (rowL.map cV)
  os : mg "OTHER_SIGNATURE_SIGNS" = some (.ref a.os)
  osS : ∀ H, SqT K H a.os (otherL.map cV)
  le : ∃ t, mg "LETTERS" = some (.str lettersS t)
  ALONE : ∃ t, mg "ALONE" = some (.int 1 t)
  LEAF_BEFORE : ∃ t, mg "LEAF_BEFORE" = some (.int 2 t)
  LEAF_BEHIND : ∃ t, mg "LEAF_BEHIND" = some (.int 3 t)
  STUB_BEFORE : ∃ t, mg "STUB_BEFORE" = some (.int 4 t)
  STUB_BEHIND : ∃ t, mg "STUB_BEHIND" = some (.int 5 t)
  MOST_PLACES : ∃ t, mg "MOST_PLACES" = some (.int 21 t)
  MOST_COUNTED : ∃ t, mg "MOST_COUNTED" = some (.int 9 t)
  WHOLE : ∃ t, mg "WHOLE" = some (.int 0 t)
  LOST : ∃ t, mg "LOST" = some (.int 1 t)
  CUT : ∃ t, mg "CUT" = some (.int 2 t)
  FIRST_SMALL_SIGN : ∃ t, mg "FIRST_SMALL_SIGN" = some (.int 23 t)
  FIRST_OTHER_SIGN : ∃ t, mg "FIRST_OTHER_SIGN" = some (.int 46 t)
  LETTERS_OF_A_KIND : ∃ t, mg "LETTERS_OF_A_KIND" = some (.int 23 t)
  MOST_TIMES : ∃ t, mg "MOST_TIMES" = some (.int 99 t)
  MOST_SIZE : ∃ t, mg "MOST_SIZE" = some (.int 20 t)
  BLANK : ∃ t, mg "BLANK" = some (.int 32 t)
  OPEN : ∃ t, mg "OPEN" = some (.int 40 t)
  CLOSE : ∃ t, mg "CLOSE" = some (.int 41 t)
  PLUS : ∃ t, mg "PLUS" = some (.int 43 t)
  COMMA : ∃ t, mg "COMMA" = some (.int 44 t)
  DIVIDED : ∃ t, mg "DIVIDED" = some (.int 247 t)
  DASH : ∃ t, mg "DASH" = some (.int 8211 t)
  MINUS : ∃ t, mg "MINUS" = some (.int 8722 t)
  ANGLE_OPEN : ∃ t, mg "ANGLE_OPEN" = some (.int 10216 t)
  ANGLE_CLOSE : ∃ t, mg "ANGLE_CLOSE" = some (.int 10217 t)
  END : ∃ t, mg "END" = some (.int (-1) t)
  MOST_DIGITS : ∃ t, mg "MOST_DIGITS" = some (.int 7 t)
  MOST_GATHERINGS : ∃ t, mg "MOST_GATHERINGS" = some (.int 48 t)
  MOST_CHARACTERS : ∃ t, mg "MOST_CHARACTERS" = some (.int 16384 t)
  ACCEPTED : ∃ t, mg "ACCEPTED" = some (.int 0 t)
  TOO_LONG : ∃ t, mg "TOO_LONG" = some (.int (-2) t)
  NO_FORMULA : ∃ t, mg "NO_FORMULA" = some (.int (-6) t)
structure Df (K : PySem.W.Frag) (mg : Str → Option Value) (x : Str) (st : Stmt) (ps : List Str) : Prop where
  ex : ∃ f fd, Fun K x x st f fd ∧ Binds K fd ps [] ∧ mg x = some (.ref f)
structure Dm (K : PySem.W.Frag) (C : Addr) (x q : Str) (st : Stmt) (ps : List Str) : Prop where
  ex : ∃ f fd, Fun K x q st f fd ∧ Binds K fd ps [] ∧ Meth K C x f
structure Di (K : PySem.W.Frag) (mg : Str → Option Value) (C : Addr) (x q : Str) (st : Stmt) (ps : List Str) : Prop where
  ex : ∃ f fd, Fun K "__init__" q st f fd ∧ Binds K fd ps [] ∧ Mk K C f ∧ mg x = some (.ref C)
section
variable {P : Program} {w : World} {K : PySem.W.Frag} {mg : Str → Option Value} {base : Heap} {CX : CXT}
theorem Df.ok {x : Str} {st : Stmt} {ps : List Str} {k : Nat} {sp : Sp} (d : Df K mg x st ps) (h : ∀ f fd, Fun K x x st f fd → FnOk P w K mg base CX k f fd ps sp) : Ok P w K mg base CX k x ps sp := by
  obtain ⟨f, fd, F, b, m⟩ := d.ex
  exact ⟨f, fd, h f fd F, b, m, F.kp⟩
theorem Dm.ok {C : Addr} {x q : Str} {st : Stmt} {ps : List Str} {k : Nat} {sp : Sp} (d : Dm K C x q st ps) (c : Cls K C) (h : ∀ f fd, Fun K x q st f fd → FnOk P w K mg base CX k f fd ps sp) : MOk P w K mg base CX k C x ps sp := by
  obtain ⟨f, fd, F, b, m⟩ := d.ex
  exact ⟨f, fd, h f fd F, b, m, c⟩
theorem Di.ok {C : Addr} {x q : Str} {st : Stmt} {ps : List Str} {k : Nat} {sp : Sp} (d : Di K mg C x q st ps) (h : ∀ f fd, Fun K "__init__" q st f fd → FnOk P w K mg base CX k f fd ps sp) : IOk P w K mg base CX k C x ps sp := by
  obtain ⟨f, fd, F, b, m, e⟩ := d.ex
  exact ⟨f, fd, h f fd F, b, m, e⟩
def posI (xs : List Nat) (c : Int) : Int := match xs.findIdx? (fun x : Nat => decide ((x : Int) = c)) with
  | some k => (k : Int)
  | none => -1
theorem posI_at {xs : List Nat} {c : Int} {k : Nat} (h : ∃ x, xs[k]? = some x ∧ (x : Int) = c) (h2 : ∀ j, j < k → ∀ y, xs[j]? = some y → (y : Int) ≠ c) : posI xs c = k := by
  unfold posI
  obtain ⟨x, hx, hc⟩ := h
  have e : xs.findIdx? (fun x : Nat => decide ((x : Int) = c)) = some k := by
    rw [List.findIdx?_eq_some_iff_getElem]
    obtain ⟨hlt, hg⟩ := List.getElem?_eq_some_iff.mp hx
    refine ⟨hlt, by simp [hg, hc], fun j hj => ?_⟩
    have := h2 j hj _ (List.getElem?_eq_getElem (Nat.lt_trans hj hlt))
    simp [this]
  rw [e]
theorem posI_no {xs : List Nat} {c : Int} (h2 : ∀ j, j < xs.length → ∀ y, xs[j]? = some y → (y : Int) ≠ c) : posI xs c = -1 := by
  unfold posI
  have e : xs.findIdx? (fun x : Nat => decide ((x : Int) = c)) = none := by
    rw [List.findIdx?_eq_none_iff]
    intro x hx
    obtain ⟨j, hj, e⟩ := List.getElem_of_mem hx
    have := h2 j hj x (by rw [List.getElem?_eq_getElem hj, e])
    simp [this]
  rw [e]
def spPosition (K : PySem.W.Frag) : Sp := fun vs H Q _ => ∃ (p : Addr) (xs : List Nat) (c : Int), vs = [.ref p, .int c] ∧ (SqL K H p (xs.map cV) ∨ SqT K H p (xs.map cV)) ∧ xs.length ≤ 1000 ∧ Q (.int (posI xs c)) H
theorem sc_position : FnScope ["characters", "character", "k"] ["characters", "character"] (defScope s_position) := ⟨rfl, rfl, rfl, by decide +kernel, rfl, by decide +kernel, by decide +kernel⟩
theorem ok_position {a : Adr} (T : Txt K mg a) (d : Df K mg "position" s_position ["characters", "character"]) : Ok P w K mg base CX0 1 "position" ["characters", "character"] (spPosition K) := by
  refine d.ok fun f fd F => ?_
  refine F.ok sc_position (fun vs H Q E h => ?_) (fun cdv A outer s H vs Q E hr h => ?_)
  · obtain ⟨p, xs, c, rfl, _⟩ := h
    rfl
  · obtain ⟨p, xs, c, rfl, hS, hl, q⟩ := h
    refine ⟨_, pss_cons (ps_for PassesOwn.never rfl (pi_range1 rfl T.range (pa_cons (pe_callB call_len_seq (by rfl) T.len PySem.boot_len (pa_cons (pv 0) pa_nil)) pa_nil)) (pg_name (i := 2) sc_position.nd rfl (Or.inl rfl))
        (pss_one (ps_if (pt_cmpR op_eq (pe_ix ix_seq (pv 0) (pv 2) (fun _ _ => rfl)) (pv 1) (nomark _)) (pss_one (ps_ret (pv 2))) pss_nil)))
      (pss_one (ps_ret (pe_un un_neg pe_int))), ?_⟩
    refine ⟨_, rfl, p, _, rfl, hS, _, rfl, by rw [List.length_map]; omega, by rw [List.length_map]; omega, ?_⟩
    rw [List.length_map]
    refine for_range (n := xs.length) (fun i σ H' => ∃ v, σ = [some (.ref p), some (.int c), v] ∧ H' = H ∧ ∀ j, j < i → ∀ y, xs[j]? = some y → (y : Int) ≠ c) ⟨none, rfl, rfl, fun j hj => absurd hj (by omega)⟩ ?_ ?_
    · rintro i σ H' hi ⟨v, rfl, rfl, hno⟩
      obtain ⟨x, hx⟩ : ∃ x, xs[i]? = some x := ⟨_, List.getElem?_eq_getElem hi⟩
      have hx' : (xs.map cV)[i]? = some (cV x) := by rw [List.getElem?_map, hx]; rfl
      have ei : (0 : Int) + (i : Nat) = ((i : Nat) : Int) := by omega
      refine ⟨_, rfl, _, rfl, ?_⟩
      have key : ∀ Q' : VK, Q' (cV x) H' → rIx K (V.ref p) (V.int (0 + (i : Nat))) H' Q' := fun Q' q' => by
        rcases hS with hS | hS
        · exact .inl ⟨p, _, _, _, rfl, rfl, hS, at_of ei hx', q'⟩
        · exact .inr (.inl ⟨p, _, _, _, rfl, rfl, hS, at_of ei hx', q'⟩)
      refine key _ ⟨_, rfl, rfl, _, rfl, ?_⟩
      refine ite2 (fun e => ?_) fun e => ?_
      · have e' : (x : Int) = c := by simpa [cV] using e
        refine ⟨_, rfl, ?_⟩
        rw [posI_at ⟨x, hx, e'⟩ hno, ← ei] at q
        exact q
      · have e' : ¬ (x : Int) = c := by simpa [cV] using e
        refine ⟨_, rfl, rfl, fun j hj y hy => ?_⟩
        by_cases hji : j = i
        · subst hji
          rw [hx] at hy
          cases hy
          exact e'
        · exact hno j (by omega) y hy
    · rintro σ H' ⟨v, rfl, rfl, hno⟩
      rw [posI_no hno] at q
      exact ⟨_, rfl, q⟩
end
theorem in2 {n a b : Int} : inV (.int n) [.int a, .int b] = decide (n = a ∨ n = b) := by
  rw [Bool.eq_iff_iff]; simp [inV, eqV]; omega
theorem in3 {n a b c : Int} : inV (.int n) [.int a, .int b, .int c] = decide (n = a ∨ n = b ∨ n = c) := by
  rw [Bool.eq_iff_iff]; simp [inV, eqV]; omega
section
variable {P : Program} {w : World} {K : PySem.W.Frag} {mg : Str → Option Value} {base : Heap} {a : Adr}
def spPartners : Sp := fun vs H Q _ => ∃ x y : Int, vs = [.int x, .int y] ∧ Q (.bl (decide (x ≠ 4) || decide (y ≠ 5))) H
theorem sc_partners : FnScope ["before", "behind"] ["before", "behind"] (defScope s_may_be_partners) := ⟨rfl, rfl, rfl, by decide +kernel, rfl, by decide +kernel, by decide +kernel⟩
theorem ok_partners (T : Txt K mg a) (d : Df K mg "may_be_partners" s_may_be_partners ["before", "behind"]) : Ok P w K mg base CX0 1 "may_be_partners" ["before", "behind"] spPartners := by
  refine d.ok fun f fd F => ?_
  refine F.ok sc_partners (fun vs H Q E h => ?_) (fun cdv A outer s H vs Q E hr h => ?_)
  · obtain ⟨x, y, rfl, _⟩ := h
    rfl
  · obtain ⟨x, y, rfl, q⟩ := h
    refine ⟨_, pss_one (ps_ret (pe_or (pe_cmpR op_ne (pv 0) (pe_gi T.STUB_BEFORE) (nomark _)) (pe_one (pe_cmpR op_ne (pv 1) (pe_gi T.STUB_BEHIND) (nomark _))))), ?_⟩
    refine ⟨_, rfl, rfl, _, rfl, ?_⟩
    by_cases hx : x = 4
    · subst hx
      refine (if_neg (by simp)).mpr ?_
      refine ⟨_, rfl, rfl, ?_⟩
      have e : (decide ((4 : Int) ≠ 4) || decide (y ≠ 5)) = !decide (V.int y = V.int 5) := by simp
      rw [← e]; exact q
    · refine (if_pos (by simpa using hx)).mpr ?_
      have e : (decide (x ≠ 4) || decide (y ≠ 5)) = true := by simp [hx]
      rw [e] at q; exact q
def leafN (n : Nat) : Bool := decide (n = 1 ∨ n = 2 ∨ n = 3)
def spLeaf : Sp := fun vs H Q _ => ∃ n : Nat, vs = [cV n] ∧ ∀ H', Same H H' → Q (.bl (leafN n)) H'
theorem sc_leaf : FnScope ["sign"] ["sign"] (defScope s_is_leaf) := ⟨rfl, rfl, rfl, by decide +kernel, rfl, by decide +kernel, by decide +kernel⟩
theorem ok_leaf (T : Txt K mg a) (d : Df K mg "is_leaf" s_is_leaf ["sign"]) : Ok P w K mg base CX0 1 "is_leaf" ["sign"] spLeaf := by
  refine d.ok fun f fd F => ?_
  refine F.ok sc_leaf (fun vs H Q E h => ?_) (fun cdv A outer s H vs Q E hr h => ?_)
  · obtain ⟨x, rfl, _⟩ := h
    rfl
  · obtain ⟨x, rfl, q⟩ := h
    refine ⟨_, pss_one (ps_ret (pe_cmpR op_in_seq (pv 0) (pe_tup (pa_cons (pe_gi T.ALONE) (pa_cons (pe_gi T.LEAF_BEFORE) (pa_cons (pe_gi T.LEAF_BEHIND) pa_nil)))) (by with_unfolding_all rfl))), ?_⟩
    refine ⟨_, rfl, by show 3 ≤ sizeLine; decide, fun t ht => ⟨t, _, rfl, .inr (SqT.of upd_same), rfl, rfl, ?_⟩⟩
    have z := q _ (Same.new (o := .tup [.int 1, .int 2, .int 3]) ht)
    have e : leafN x = inV (cV x) [.int 1, .int 2, .int 3] := by
      show _ = inV (.int x) _
      rw [in3]; unfold leafN
      congr 1
      simp only [eq_iff_iff]; omega
    rw [e] at z
    exact z
def spCount (K : PySem.W.Frag) : Sp := fun vs H Q _ => ∃ (p : Addr) (xs : List Nat), vs = [.ref p] ∧ SqL K H p (xs.map cV) ∧ xs.length ≤ 1000000 ∧ ∀ H', Same H H' → Q (.int ((xs.filter leafN).length : Nat)) H'
theorem sc_count : FnScope ["row", "sign"] ["row"] (defScope s_count_leaves) := ⟨rfl, rfl, rfl, by decide +kernel, rfl, by decide +kernel, by decide +kernel⟩
theorem ok_count (T : Txt K mg a) (OL : Ok P w K mg base CX0 1 "is_leaf" ["sign"] spLeaf) (d : Df K mg "count_leaves" s_count_leaves ["row"]) : Ok P w K mg base CX0 2 "count_leaves" ["row"] (spCount K) := by
  refine d.ok fun f fd F => ?_
  refine F.ok sc_count (fun vs H Q E h => ?_) (fun cdv A outer s H vs Q E hr h => ?_)
  · obtain ⟨x, _, rfl, _⟩ := h
    rfl
  · obtain ⟨p, xs, rfl, hS, hl, q⟩ := h
    refine ⟨_, pss_one (ps_ret (pe_callB call_len_seq (by rfl) T.len PySem.boot_len (pa_cons (pe_lc (own := [("sign", 1)]) rfl sc_count.nd (pi_list (pv 0)) (blkOk_by (by rfl))
      (fun _ _ _ _ _ => pg_name (i := 1) sc_count.nd rfl (Or.inl rfl)) (fun _ _ _ _ _ => pts_one (pt_val (pe_f OL hr pass0 (pa_cons (pv 1) pa_nil)))) (fun _ _ _ _ _ => pv 1)) pa_nil))), ?_⟩
    refine ⟨_, rfl, p, rfl, ⟨_, hS⟩, fun D hD => ?_⟩
    refine lc_list (K := K) (a := p) (xs := xs.map cV) (fun i H' => Same H H' ∧ H' D = some (.lst (((xs.take i).filter leafN).map cV))) ⟨Same.new hD, upd_same⟩ (fun i H' _ ⟨s1, _⟩ => s1.seq hS) ?_ ?_
    · rintro i y H' hi ⟨s1, h1⟩
      obtain ⟨x, hx, rfl⟩ : ∃ x, xs[i]? = some x ∧ y = cV x := by
        rw [List.getElem?_map] at hi
        cases e : xs[i]? with
        | none => rw [e] at hi; cases hi
        | some z => rw [e] at hi; exact ⟨z, rfl, (Option.some.inj hi).symm⟩
      have tk : (xs.take (i + 1)).filter leafN = (xs.take i).filter leafN ++ (if leafN x = true then [x] else []) := by
        rw [List.take_succ, hx]
        simp [List.filter_append, List.filter_cons]
      refine ⟨rfl, _, rfl, x, rfl, fun H2 s2 => ⟨_, rfl, ?_⟩⟩
      refine ite2 (fun e => ?_) fun e => ?_
      · refine ⟨_, rfl, _, s2 _ _ h1, ?_, fun b o hb => ?_, ?_⟩
        · rw [List.length_map]
          refine Nat.lt_of_le_of_lt (Nat.le_trans (List.length_filter_le _ _) (Nat.le_trans (List.length_take_le _ _) ?_)) (show 1000000 < sizeLine by decide)
          exact Nat.le_trans (Nat.le_of_lt (by have := (List.getElem?_eq_some_iff.mp hx).1; exact this)) hl
        · rw [upd_ne (ne_of_none hb hD)]; exact s2 _ _ (s1 _ _ hb)
        · rw [upd_same, tk, if_pos e, List.map_append]; rfl
      · refine ⟨s1.trans s2, ?_⟩
        rw [s2 _ _ h1, tk, if_neg e, List.append_nil]
    · rintro H' ⟨s1, h1⟩
      rw [List.length_map, List.take_length] at h1
      refine ⟨D, _, rfl, .inl (SqL.of h1), ?_⟩
      have z := q H' s1
      rw [List.length_map]
      exact z
def spAlone : Sp := fun vs H Q _ => ∃ n : Nat, vs = [.int n] ∧ n ≤ 1000000 ∧ ∀ H' l, Same H H' → H l = none → H' l = some (.lst ((List.replicate n 1).map cV)) → Q (.ref l) H'
theorem sc_alone : FnScope ["count", "k"] ["count"] (defScope s_leaves_alone) := ⟨rfl, rfl, rfl, by decide +kernel, rfl, by decide +kernel, by decide +kernel⟩
theorem ok_alone (T : Txt K mg a) (d : Df K mg "leaves_alone" s_leaves_alone ["count"]) : Ok P w K mg base CX0 1 "leaves_alone" ["count"] spAlone := by
  refine d.ok fun f fd F => ?_
  refine F.ok sc_alone (fun vs H Q E h => ?_) (fun cdv A outer s H vs Q E hr h => ?_)
  · obtain ⟨x, rfl, _⟩ := h
    rfl
  · obtain ⟨n, rfl, hn, q⟩ := h
    refine ⟨_, pss_one (ps_ret (pe_lc (own := [("k", 1)]) rfl sc_alone.nd (pi_range1 rfl T.range (pa_cons (pv 0) pa_nil)) (blkOk_by (by rfl))
      (fun _ _ _ _ _ => pg_name (i := 1) sc_alone.nd rfl (Or.inl rfl)) (fun _ _ _ _ _ => pts_nil) (fun _ _ _ _ _ => pe_gi T.ALONE))), ?_⟩
    refine ⟨_, rfl, _, rfl, by omega, by omega, fun D hD => ?_⟩
    refine lc_range (n := n) (fun i H' => Same H H' ∧ H' D = some (.lst ((List.replicate i 1).map cV))) ⟨Same.new hD, upd_same⟩ ?_ ?_
    · rintro i H' hi ⟨s1, h1⟩
      refine ⟨rfl, ?_⟩
      unfold tYes
      refine iteT ?_
      refine ⟨_, h1, ?_, fun b o hb => ?_, ?_⟩
      · rw [List.length_map, List.length_replicate]; exact Nat.lt_trans hi (Nat.lt_of_le_of_lt hn (show 1000000 < sizeLine by decide))
      · rw [upd_ne (ne_of_none hb hD)]; exact s1 _ _ hb
      · rw [upd_same, List.replicate_succ', List.map_append]; rfl
    · rintro H' ⟨s1, h1⟩
      exact q H' D s1 hD h1
end
abbrev dN (n : Nat) : PyData := .int (n : Int)
theorem dp_nats {K : PySem.W.Frag} {H : Hp} : ∀ xs : List Nat, DpAll K H (xs.map cV) (xs.map dN)
  | [] => .nil
  | n :: r => .cons (.int _) (dp_nats r)
theorem eqv_nats : ∀ ns ms : List Nat, PyData.eqvAll (ns.map dN) (ms.map dN) = decide (ns = ms)
  | [], [] => by simp [PyData.eqvAll]
  | [], _ :: _ => by simp [PyData.eqvAll]
  | _ :: _, [] => by simp [PyData.eqvAll]
  | a :: r, b :: t => by
    simp only [List.map_cons, PyData.eqvAll, PyData.eqv, eqv_nats r t]
    by_cases h : a = b <;> by_cases h' : r = t <;> simp [h, h'] <;> omega
theorem lay_nats : ∀ xs : List Nat, PyData.canLayAll0 (xs.map dN) = true
  | [] => rfl
  | n :: r => by simp [PyData.canLayAll0, PyData.canLay0, lay_nats r]
theorem depth_nats : ∀ xs : List Nat, PyData.depthAll (xs.map dN) ≤ 1
  | [] => by simp [PyData.depthAll]
  | n :: r => by simp [PyData.depthAll, PyData.depth, depth_nats r]
theorem shaped_list (xs : List Nat) : SeqAt.shaped (.list (xs.map dN)) = true := by
  have := depth_nats xs
  simp [SeqAt.shaped, PyData.canLay0, lay_nats, PyData.depth]
  omega
section
variable {P : Program} {w : World} {K : PySem.W.Frag} {mg : Str → Option Value} {base : Heap} {a : Adr}
def cntN (xs : List Nat) : Bool := decide (1 ≤ xs.length) && (decide (xs.length ≤ 9) && decide (xs = List.replicate xs.length 1))
def spCounted (K : PySem.W.Frag) : Sp := fun vs H Q _ => ∃ (p : Addr) (xs : List Nat), vs = [.ref p] ∧ SqL K H p (xs.map cV) ∧ xs.length ≤ 1000000 ∧ ∀ H', Same H H' → Q (.bl (cntN xs)) H'
theorem sc_counted : FnScope ["row"] ["row"] (defScope s_is_counted) := ⟨rfl, rfl, rfl, by decide +kernel, rfl, by decide +kernel, by decide +kernel⟩
theorem ok_counted (T : Txt K mg a) (OA : Ok P w K mg base CX0 1 "leaves_alone" ["count"] spAlone) (d : Df K mg "is_counted" s_is_counted ["row"]) : Ok P w K mg base CX0 2 "is_counted" ["row"] (spCounted K) := by
  refine d.ok fun f fd F => ?_
  refine F.ok sc_counted (fun vs H Q E h => ?_) (fun cdv A outer s H vs Q E hr h => ?_)
  · obtain ⟨x, _, rfl, _⟩ := h
    rfl
  · obtain ⟨p, xs, rfl, hS, hl, q⟩ := h
    refine ⟨_, pss_one (ps_ret (pe_and (pe_chain op_le op_le pe_int (pe_callB call_len_seq (by rfl) T.len PySem.boot_len (pa_cons (pv 0) pa_nil)) (pe_gi T.MOST_COUNTED))
      (pe_one (pe_cmpR (op_eqD hr.units) (pv 0) (pe_f OA hr pass0 (pa_cons (pe_callB call_len_seq (by rfl) T.len PySem.boot_len (pa_cons (pv 0) pa_nil)) pa_nil)) (nomark _))))), ?_⟩
    have hlen : (xs.map cV).length = xs.length := List.length_map ..
    refine ⟨_, rfl, p, _, rfl, .inl hS, _, _, rfl, rfl, _, rfl, ?_⟩
    rw [hlen]
    have fin : ∀ b, cntN xs = b → Q (.bl b) H := fun b e => by
      rw [← e]; exact q H (Same.refl H)
    refine ite2 (fun e1 => ?_) fun e1 => ?_
    · have h1 : 1 ≤ xs.length := by have := of_decide_eq_true e1; omega
      refine ⟨_, _, rfl, rfl, _, rfl, ?_⟩
      refine ite2 (fun e2 => ?_) fun e2 => ?_
      · have h2 : xs.length ≤ 9 := by have := of_decide_eq_true e2; omega
        refine ⟨_, rfl, _, rfl, p, _, rfl, .inl hS, ?_⟩
        rw [hlen]
        refine ⟨xs.length, rfl, hl, fun H' l s1 n1 e3 => ?_⟩
        refine ⟨_, _, .lst (s1.seq hS) (dp_nats xs), .lst (SqL.of e3) (dp_nats _), shaped_list _, shaped_list _, ?_⟩
        have e : cntN xs = PyData.eqv (.list (xs.map dN)) (.list ((List.replicate xs.length 1).map dN)) := by
          rw [PyData.eqv, eqv_nats]
          simp [cntN, h1, h2]
        rw [← e]
        exact q H' s1
      · refine fin _ ?_
        have h2 : ¬ xs.length ≤ 9 := fun z => e2 (decide_eq_true (by omega))
        simp [cntN, h2]
    · refine ⟨_, rfl, iteF (fin _ ?_)⟩
      have h1 : ¬ 1 ≤ xs.length := fun z => e1 (decide_eq_true (by omega))
      simp [cntN, h1]
def gScan : List Nat → List Nat → Bool
  | st, [] => st.isEmpty
  | st, x :: r => if x = 2 ∨ x = 4 then gScan (x :: st) r else if x = 3 ∨ x = 5 then (match st with
      | [] => false
      | o :: t => (decide (o ≠ 4) || decide (x ≠ 5)) && gScan t r)
    else if x = 1 then gScan st r else false
theorem gScan_cons {st : List Nat} {x : Nat} {r : List Nat} : gScan st (x :: r) = if x = 2 ∨ x = 4 then gScan (x :: st) r else if x = 3 ∨ x = 5 then (match st with
      | [] => false
      | o :: t => (decide (o ≠ 4) || decide (x ≠ 5)) && gScan t r)
    else if x = 1 then gScan st r else false := by rw [gScan.eq_def]
def gOk (xs : List Nat) : Bool := decide (xs.length ≤ 21) && gScan [] xs
def spIsG (K : PySem.W.Frag) : Sp := fun vs H Q _ => ∃ (p : Addr) (xs : List Nat), vs = [.ref p] ∧ SqL K H p (xs.map cV) ∧ ∀ H', Same H H' → Q (.bl (gOk xs)) H'
theorem sc_isG : FnScope ["row", "waiting", "sign"] ["row"] (defScope s_is_gathering) := ⟨rfl, rfl, rfl, by decide +kernel, rfl, by decide +kernel, by decide +kernel⟩
theorem ok_isG (T : Txt K mg a) (OP : Ok P w K mg base CX0 1 "may_be_partners" ["before", "behind"] spPartners) (d : Df K mg "is_gathering" s_is_gathering ["row"]) : Ok P w K mg base CX0 2 "is_gathering" ["row"] (spIsG K) := by
  refine d.ok fun f fd F => ?_
  refine F.ok sc_isG (fun vs H Q E h => ?_) (fun cdv A outer s H vs Q E hr h => ?_)
  · obtain ⟨x, _, rfl, _⟩ := h
    rfl
  · obtain ⟨p, xs, rfl, hS, q⟩ := h
    refine ⟨_, pss_cons (ps_if (pt_cmpR op_gt (pe_callB call_len_seq (by rfl) T.len PySem.boot_len (pa_cons (pv 0) pa_nil)) (pe_gi T.MOST_PLACES) (nomark _)) (pss_one (ps_ret pe_bl)) pss_nil)
      (pss_cons (ps_set (i := 1) sc_isG.nd rfl (Or.inl rfl) (pe_lst pa_nil))
      (pss_cons (ps_for PassesOwn.never rfl (pi_list (pv 0)) (pg_name (i := 2) sc_isG.nd rfl (Or.inl rfl))
        (pss_one (ps_if (pt_cmpR op_in_seq (pv 2) (pe_tup (pa_cons (pe_gi T.LEAF_BEFORE) (pa_cons (pe_gi T.STUB_BEFORE) pa_nil))) (by with_unfolding_all rfl))
          (pss_one (ps_expr (pe_bm PySem.F.plainAttrs_list PySem.F.slot_list_append PySem.F.type_list_append mt_append (pv 1) (pa_cons (pv 2) pa_nil))))
          (pss_one (ps_if (pt_cmpR op_in_seq (pv 2) (pe_tup (pa_cons (pe_gi T.LEAF_BEHIND) (pa_cons (pe_gi T.STUB_BEHIND) pa_nil))) (by with_unfolding_all rfl))
            (pss_cons (ps_if (pt_cmpR (op_eqL0 hr.units) (pv 1) (pe_lst pa_nil) (nomark _)) (pss_one (ps_ret pe_bl)) pss_nil)
              (pss_one (ps_if (pt_not (pt_val (pe_f OP hr pass0 (pa_cons (pe_bm0 PySem.F.plainAttrs_list PySem.F.slot_list_pop PySem.F.type_list_pop mt_pop (pv 1)) (pa_cons (pv 2) pa_nil))))) (pss_one (ps_ret pe_bl)) pss_nil)))
            (pss_one (ps_if (pt_cmpR op_ne (pv 2) (pe_gi T.ALONE) (nomark _)) (pss_one (ps_ret pe_bl)) pss_nil)))))))
      (pss_one (ps_ret (pe_cmpR (op_eqL0 hr.units) (pv 1) (pe_lst pa_nil) (nomark _)))))), ?_⟩
    refine ⟨_, rfl, p, _, rfl, .inl hS, _, _, rfl, rfl, _, rfl, ?_⟩
    rw [show (xs.map cV).length = xs.length from List.length_map ..]
    refine ite2 (fun e1 => ?_) fun e1 => ?_
    · have h1 : ¬ xs.length ≤ 21 := by have := of_decide_eq_true e1; omega
      have z := q H (Same.refl H)
      rw [show gOk xs = false by simp [gOk, h1]] at z
      exact z
    · have h1 : xs.length ≤ 21 := by
        have := of_decide_eq_false (Bool.eq_false_iff.mpr e1); omega
      refine ⟨Nat.zero_le _, fun l hl => ?_⟩
      refine ⟨_, rfl, p, rfl, ⟨_, (Same.new hl).seq hS⟩, for_list (K := K) (a := p) (xs := xs.map cV) (fun i σ H' => ∃ v, ∃ st : List Nat, σ = [some (.ref p), some (.ref l), v] ∧ Same H H' ∧ H' l = some (.lst (st.reverse.map cV)) ∧ st.length ≤ i ∧ gScan [] xs = gScan st (xs.drop i))
        ⟨none, [], rfl, Same.new hl, upd_same, by simp, rfl⟩ (fun i σ H' _ ⟨_, _, _, s1, _⟩ => s1.seq hS) ?_ ?_⟩
      · rintro i y σ H' hi ⟨v, st, rfl, s1, h2, hst, hg⟩
        obtain ⟨x, hx, rfl⟩ : ∃ x, xs[i]? = some x ∧ y = cV x := by
          rw [List.getElem?_map] at hi
          cases e : xs[i]? with
          | none => rw [e] at hi; cases hi
          | some z => rw [e] at hi; exact ⟨z, rfl, (Option.some.inj hi).symm⟩
        have hil : i < xs.length := (List.getElem?_eq_some_iff.mp hx).1
        have hdr : xs.drop i = x :: xs.drop (i + 1) := by
          rw [List.drop_eq_getElem_cons hil, (List.getElem?_eq_some_iff.mp hx).2]
        have no : ∀ H2, Same H H2 → gScan [] xs = false → Q (.bl false) H2 := fun H2 s2 e => by
          have z := q H2 s2
          rw [show gOk xs = false by simp [gOk, e]] at z
          exact z
        rw [hdr] at hg
        refine ⟨_, rfl, by show 2 ≤ sizeLine; decide, fun t ht => ⟨t, _, rfl, .inr (SqT.of upd_same), rfl, rfl, _, rfl, ?_⟩⟩
        have s2 : Same H' (upd H' t (.tup [.int 2, .int 4])) := Same.new ht
        rw [show inV (cV x) [.int 2, .int 4] = decide ((x : Int) = 2 ∨ (x : Int) = 4) from in2]
        refine ite2 (fun e2 => ?_) fun e2 => ?_
        · have hx2 : x = 2 ∨ x = 4 := by have := of_decide_eq_true e2; omega
          rw [gScan_cons, if_pos hx2] at hg
          refine ⟨_, rfl, .inl ⟨rfl, _, SqL.of (s2 _ _ h2)⟩, _, rfl, l, _, _, rfl, rfl, s2 _ _ h2, ?_, ?_⟩
          · rw [List.length_map, List.length_reverse]
            exact Nat.lt_of_le_of_lt hst (Nat.lt_of_lt_of_le hil (Nat.le_trans h1 (by decide)))
          · refine ⟨_, x :: st, rfl, fun b o hb => ?_, ?_, by simp; omega, hg⟩
            · rw [upd_ne (ne_of_none hb hl)]; exact s2 _ _ (s1 _ _ hb)
            · rw [upd_same, List.reverse_cons, List.map_append]; rfl
        · have hx2 : ¬ (x = 2 ∨ x = 4) := fun z => e2 (decide_eq_true (by omega))
          rw [gScan_cons, if_neg hx2] at hg
          refine ⟨_, rfl, by show 2 ≤ sizeLine; decide, fun t2 ht2 => ⟨t2, _, rfl, .inr (SqT.of upd_same), rfl, rfl, _, rfl, ?_⟩⟩
          have s3 := s2.trans (Same.new (o := .tup [.int 3, .int 5]) ht2)
          generalize upd (upd H' t (.tup [.int 2, .int 4])) t2 (.tup [.int 3, .int 5]) = H3 at s3
          rw [show inV (cV x) [.int 3, .int 5] = decide ((x : Int) = 3 ∨ (x : Int) = 5) from in2]
          refine ite2 (fun e3 => ?_) fun e3 => ?_
          · have hx3 : x = 3 ∨ x = 5 := by have := of_decide_eq_true e3; omega
            rw [if_pos hx3] at hg
            refine ⟨_, rfl, Nat.zero_le _, fun t3 ht3 => ⟨l, t3, _, rfl, rfl, (Same.new ht3).seq (SqL.of (s3 _ _ h2)), SqL.of upd_same, _, rfl, ?_⟩⟩
            have s4 := s3.trans (Same.new (o := .lst []) ht3)
            generalize upd H3 t3 (.lst []) = H4 at s4
            cases st with
            | nil =>
              refine iteT ?_
              exact no _ (s1.trans s4) hg
            | cons o t' =>
              refine (if_neg (by simp)).mpr ?_
              have h4 := s4 _ _ h2
              refine ⟨_, rfl, .inl ⟨rfl, _, SqL.of h4⟩, l, _, cV o, rfl, rfl, h4, by simp, _, rfl, (o : Int), (x : Int), rfl, _, rfl, ?_⟩
              have e5 : (decide ((o : Int) ≠ 4) || decide ((x : Int) ≠ 5)) = (decide (o ≠ 4) || decide (x ≠ 5)) := by
                rw [Bool.eq_iff_iff]; simp; omega
              rw [e5]
              have s5 : Same H (upd H4 l (.lst ((List.map cV (o :: t').reverse).dropLast))) := fun b ob hb => by
                rw [upd_ne (ne_of_none hb hl)]; exact s4 _ _ (s1 _ _ hb)
              dsimp only at hg
              cases e6 : (decide (o ≠ 4) || decide (x ≠ 5)) with
              | false =>
                rw [e6] at hg
                refine iteT ?_
                exact no _ s5 hg
              | true =>
                rw [e6] at hg
                refine iteF ?_
                refine ⟨_, t', rfl, s5, ?_, by simp at hst; omega, by simpa using hg⟩
                rw [upd_same, List.reverse_cons, List.map_append]
                simp
          · have hx3 : ¬ (x = 3 ∨ x = 5) := fun z => e3 (decide_eq_true (by omega))
            rw [if_neg hx3] at hg
            refine ⟨_, rfl, rfl, _, rfl, ?_⟩
            refine ite2 (fun e4 => ?_) fun e4 => ?_
            · have hx1 : ¬ x = 1 := by
                intro z; subst z; simp [cV] at e4
              rw [if_neg hx1] at hg
              exact no _ (s1.trans s3) hg
            · have hx1 : x = 1 := by
                have : cV x = V.int 1 := by simpa using e4
                unfold cV at this; have := V.int.inj this; omega
              rw [if_pos hx1] at hg
              exact ⟨_, st, rfl, s1.trans s3, s3 _ _ h2, by omega, hg⟩
      · rintro σ H' ⟨v, st, rfl, s1, h2, hst, hg⟩
        rw [List.length_map, List.drop_length, gScan] at hg
        refine ⟨_, rfl, Nat.zero_le _, fun t3 ht3 => ⟨l, t3, _, rfl, rfl, (Same.new ht3).seq (SqL.of h2), SqL.of upd_same, ?_⟩⟩
        have z := q _ (s1.trans (Same.new (o := .lst []) ht3))
        have e : gOk xs = decide (st.reverse.map cV = []) := by
          rw [gOk, hg]; cases st <;> simp [h1]
        rw [← e]
        exact z
end
def Flt (a : Adr) (E : XK) (S : List Addr) (H : Hp) (e : Int) : Prop := ∀ H' d, Kb S H H' → H' d = some (.xd [("place", .int e)]) → E (.ref a.CF) (some d) H'
theorem Flt.of {a : Adr} {E : XK} {S T : List Addr} {H H1 : Hp} {e : Int} (h : Flt a E S H e) (k : Kb S H H1) (m : ∀ b, b ∈ T → b ∈ S) : Flt a E T H1 e := fun H' d k1 hd => h H' d (k.trans (k1.mono m)) hd
theorem Flt.ofS {a : Adr} {E : XK} {S : List Addr} {H H1 : Hp} {e : Int} (h : Flt a E S H e) (k : Same H H1) : Flt a E S H1 e := h.of k.kb fun _ z => z
def rf (tl : Addr) (p : Nat) : List (Str × V) := [("text", .ref tl), ("place", .int p)]
theorem rf_text {tl : Addr} {p : Nat} : (rf tl p).lookup ("text" : Str) = some (.ref tl) := rfl
theorem rf_place {tl : Addr} {p : Nat} : (rf tl p).lookup ("place" : Str) = some (.int p) := rfl
def RdAt (a : Adr) (H : Hp) (r tl : Addr) (p : Nat) : Prop := ∃ dx, H r = some (.ins a.CR dx (rf tl p))
def Fz (K : PySem.W.Frag) (H : Hp) (b : Addr) (xs : List V) : Prop := (∃ o, H b = some (.frz o (.lst xs))) ∨ SqL K (fun _ => none) b xs
theorem Fz.sq {K : PySem.W.Frag} {H : Hp} {b : Addr} {xs : List V} (h : Fz K H b xs) : SqL K H b xs := by
  rcases h with ⟨o, h⟩ | (h | ⟨o, h⟩) | h
  · exact .inl (.inr ⟨o, h⟩)
  · cases h
  · cases h
  · exact .inr h
theorem Fz.kb {K : PySem.W.Frag} {S : List Addr} {H H' : Hp} {b : Addr} {xs : List V} (h : Fz K H b xs) (k : Kb S H H') (n : ∀ c ∈ S, ∀ o u, H c ≠ some (.frz o u)) : Fz K H' b xs := by
  rcases h with ⟨o, h⟩ | h
  · exact .inl ⟨o, k _ _ h fun z => n b z _ _ h⟩
  · exact .inr h
theorem Fz.same {K : PySem.W.Frag} {H H' : Hp} {b : Addr} {xs : List V} (h : Fz K H b xs) (k : Same H H') : Fz K H' b xs := h.kb (S := []) k.kb (by simp)
structure RT (K : PySem.W.Frag) (a : Adr) (H : Hp) (r tl : Addr) (t : List Nat) (p : Nat) : Prop where
  at_ : RdAt a H r tl p
  txt : Fz K H tl (t.map cV)
  len : t.length ≤ 32768
theorem RT.go {K : PySem.W.Frag} {a : Adr} {H H' : Hp} {r tl : Addr} {t : List Nat} {p q : Nat} (x : RT K a H r tl t p) (k : Kb [r] H H') (h : RdAt a H' r tl q) : RT K a H' r tl t q := by
  obtain ⟨dx, e⟩ := x.at_
  exact ⟨h, x.txt.kb k (by intro c hc o u z; have hc : c = r := (by simpa using hc); subst hc; rw [e] at z; cases z), x.len⟩
theorem RT.same {K : PySem.W.Frag} {a : Adr} {H H' : Hp} {r tl : Addr} {t : List Nat} {p : Nat} (x : RT K a H r tl t p) (k : Same H H') : RT K a H' r tl t p := by
  obtain ⟨dx, e⟩ := x.at_
  exact ⟨⟨dx, k _ _ e⟩, x.txt.same k, x.len⟩
def pk (t : List Nat) (p : Nat) : Int := match t[p]? with
  | some c => (c : Int)
  | none => -1
theorem pk_some {t : List Nat} {p c : Nat} (h : t[p]? = some c) : pk t p = c := by unfold pk; rw [h]
theorem pk_none {t : List Nat} {p : Nat} (h : t[p]? = none) : pk t p = -1 := by unfold pk; rw [h]
theorem drop_some {t : List Nat} {p c : Nat} (h : t[p]? = some c) : t.drop p = c :: t.drop (p + 1) := by
  obtain ⟨hlt, e⟩ := List.getElem?_eq_some_iff.mp h
  rw [List.drop_eq_getElem_cons hlt, e]
theorem drop_none {t : List Nat} {p : Nat} (h : t[p]? = none) : t.drop p = [] := List.drop_eq_nil_of_le (List.getElem?_eq_none_iff.mp h)
def Rds {α : Type} (a : Adr) (E : XK) (S : List Addr) (H : Hp) (r tl : Addr) (res : Quire.Rd α) (k : α → Nat → Hp → Prop) : Prop := match res with
  | .error e => Flt a E S H e
  | .ok (x, q, _) => ∀ H', Kb S H H' → RdAt a H' r tl q → k x q H'
structure XOk (P : Program) (w : World) (K : PySem.W.Frag) (mg : Str → Option Value) (base : Heap) (k : Nat) (f : Addr) (ps : List Str) (sp : Sp) : Prop where
  ex : ∃ fd, FnOk P w K mg base CX0 k f fd ps sp ∧ Binds K fd ps []
structure Dx (K : PySem.W.Frag) (f : Addr) (q : Str) (st : Stmt) (ps : List Str) : Prop where
  ex : ∃ fd, Fun K "__init__" q st f fd ∧ Binds K fd ps []
section
variable {P : Program} {w : World} {K : PySem.W.Frag} {mg : Str → Option Value} {base : Heap} {a : Adr}
def spFault (CF : Addr) : Sp := fun vs H Q _ => ∃ (x t : Addr) (v : V), vs = [.ref x, v] ∧ H x = some (XO CF x t none) ∧ ∀ dx, H dx = none → dx ≠ x → Q .non (upd (upd H dx (.xd [("place", v)])) x (XO CF x t (some dx)))
theorem sc_fault : FnScope ["self", "place"] ["self", "place"] (defScope s_Fault_init) := ⟨rfl, rfl, rfl, by decide +kernel, rfl, by decide +kernel, by decide +kernel⟩
theorem ok_fault (T : Txt K mg a) (d : Dx K a.fF "Fault.__init__" s_Fault_init ["self", "place"]) : XOk P w K mg base 1 a.fF ["self", "place"] (spFault a.CF) := by
  obtain ⟨fd, F, b⟩ := d.ex
  refine ⟨fd, ?_, b⟩
  refine F.ok sc_fault (fun vs H Q E h => ?_) (fun cdv A outer s H vs Q E hr h => ?_)
  · obtain ⟨x, _, _, rfl, _⟩ := h
    rfl
  · obtain ⟨x, t, v, rfl, hx, q⟩ := h
    refine ⟨_, pss_one (ps_xset T.xF T.xFp (pv 0) (pv 1)), ?_⟩
    exact ⟨_, rfl, _, rfl, x, t, rfl, hx, fun dx h1 h2 => q dx h1 h2⟩
def spCheck (a : Adr) : Sp := fun vs H Q E => ∃ (b : Bool) (p : Int), vs = [.bl b, .int p] ∧ (b = true → Q .non H) ∧ (b = false → Flt a E [] H p)
theorem sc_check : FnScope ["right", "place"] ["right", "place"] (defScope s_check) := ⟨rfl, rfl, rfl, by decide +kernel, rfl, by decide +kernel, by decide +kernel⟩
theorem ok_check (T : Txt K mg a) (OF : XOk P w K mg base 1 a.fF ["self", "place"] (spFault a.CF)) (d : Df K mg "check" s_check ["right", "place"]) : Ok P w K mg base (CXR P w) 3 "check" ["right", "place"] (spCheck a) := by
  obtain ⟨fdF, FF, bF⟩ := OF.ex
  refine d.ok fun f fd F => ?_
  refine F.okX sc_check (fun vs H Q E h => ?_) (fun cdv A outer s H vs Q E hr h => ?_)
  · obtain ⟨x, _, rfl, _⟩ := h
    rfl
  · obtain ⟨b, p, rfl, h1, h2⟩ := h
    refine ⟨_, pss_one (ps_if (pt_not (pt_val (pv 0))) (pss_one (ps_raise T.xF FF hr rfl rfl throws_cx rfl T.mF bF (pv 1))) pss_nil), ?_⟩
    refine ⟨_, rfl, _, rfl, ?_⟩
    cases b with
    | true => exact iteF (h1 rfl)
    | false =>
      refine iteT ?_
      refine ⟨_, rfl, fun x t hx => ?_⟩
      refine ⟨x, t, _, rfl, upd_same, fun dx n1 n2 => ⟨rfl, dx, upd_same, ?_⟩⟩
      refine h2 rfl _ dx (Kb.un (fun b o hb _ => ?_) hx) ?_
      · have nb : b ≠ x := ne_of_none hb hx
        have hdx : upd H x (XO a.CF x t none) dx = none := n1
        have nd : b ≠ dx := fun e => by
          subst e
          rw [upd_ne nb] at n1
          rw [n1] at hb; cases hb
        rw [upd_ne nb, upd_ne nd, upd_ne nb]; exact hb
      · rw [untr_ne n2, upd_ne n2, upd_same]
def spRInit (a : Adr) : Sp := fun vs H Q _ => ∃ (x dx tl : Addr), vs = [.ref x, .ref tl] ∧ H x = some (.ins a.CR dx []) ∧ Q .non (upd H x (.ins a.CR dx (rf tl 0)))
theorem sc_rinit : FnScope ["self", "text"] ["self", "text"] (defScope s_Reader_init) := ⟨rfl, rfl, rfl, by decide +kernel, rfl, by decide +kernel, by decide +kernel⟩
theorem ok_rinit (T : Txt K mg a) (d : Di K mg a.CR "Reader" "Reader.__init__" s_Reader_init ["self", "text"]) : IOk P w K mg base CX0 1 a.CR "Reader" ["self", "text"] (spRInit a) := by
  refine d.ok fun f fd F => ?_
  refine F.ok sc_rinit (fun vs H Q E h => ?_) (fun cdv A outer s H vs Q E hr h => ?_)
  · obtain ⟨x, _, _, rfl, _⟩ := h
    rfl
  · obtain ⟨x, dx, tl, rfl, hx, q⟩ := h
    refine ⟨_, pss_cons (ps_fld (pv 0) (pv 1) rfl) (pss_one (ps_fld (pv 0) pe_int rfl)), ?_⟩
    refine ⟨_, rfl, _, rfl, x, a.CR, dx, _, rfl, hx, T.clR, T.nRt, (by show 0 < 1000; decide), ?_⟩
    refine ⟨_, rfl, x, a.CR, dx, _, rfl, upd_same, T.clR, T.nRp, (by show 1 < 1000; decide), ?_⟩
    rw [upd_upd]
    exact q
def spPeek (K : PySem.W.Frag) (a : Adr) : Sp := fun vs H Q _ => ∃ (r tl : Addr) (t : List Nat) (p : Nat), vs = [.ref r] ∧ RT K a H r tl t p ∧ Q (.int (pk t p)) H
theorem sc_peek : FnScope ["self"] ["self"] (defScope s_Reader_peek) := ⟨rfl, rfl, rfl, by decide +kernel, rfl, by decide +kernel, by decide +kernel⟩
theorem ok_peek (T : Txt K mg a) (d : Dm K a.CR "peek" "Reader.peek" s_Reader_peek ["self"]) : MOk P w K mg base CX0 1 a.CR "peek" ["self"] (spPeek K a) := by
  refine d.ok T.clR fun f fd F => ?_
  refine F.ok sc_peek (fun vs H Q E h => ?_) (fun cdv A outer s H vs Q E hr h => ?_)
  · obtain ⟨x, _, _, _, rfl, _⟩ := h
    rfl
  · obtain ⟨r, tl, t, p, rfl, ⟨⟨dx, hx⟩, hF, hlen⟩, q⟩ := h
    have hS := hF.sq
    refine ⟨_, pss_cons (ps_if (pt_cmpR op_lt (pe_fld (pv 0) rfl) (pe_callB call_len_seq (by rfl) T.len PySem.boot_len (pa_cons (pe_fld (pv 0) rfl) pa_nil)) (nomark _))
      (pss_one (ps_ret (pe_ix ix_list (pe_fld (pv 0) rfl) (pe_fld (pv 0) rfl) (fun _ _ => rfl)))) pss_nil) (pss_one (ps_ret (pe_gi T.END))), ?_⟩
    refine ⟨_, rfl, r, a.CR, dx, _, _, rfl, hx, T.clR, T.nRp, rf_place, _, rfl, r, a.CR, dx, _, _, rfl, hx, T.clR, T.nRt, rf_text, tl, _, rfl, .inl hS, _, _, rfl, rfl, _, rfl, ?_⟩
    rw [show (t.map cV).length = t.length from List.length_map ..]
    refine ite2 (fun e => ?_) fun e => ?_
    · have hp : p < t.length := by have := of_decide_eq_true e; omega
      have hc : t[p]? = some t[p] := List.getElem?_eq_getElem hp
      refine ⟨_, rfl, r, a.CR, dx, _, _, rfl, hx, T.clR, T.nRt, rf_text, _, rfl, r, a.CR, dx, _, _, rfl, hx, T.clR, T.nRp, rf_place, tl, _, _, _, rfl, rfl, hS, atI_nat (j := p) (v := cV t[p]) (by rw [List.getElem?_map, hc]; rfl), ?_⟩
      rw [pk_some hc] at q
      exact q
    · have hp : ¬ p < t.length := fun z => e (decide_eq_true (by omega))
      rw [pk_none (List.getElem?_eq_none_iff.mpr (by omega))] at q
      exact q
def spAdvance (a : Adr) : Sp := fun vs H Q _ => ∃ (r tl dx : Addr) (p : Nat), vs = [.ref r] ∧ H r = some (.ins a.CR dx (rf tl p)) ∧ Q .non (upd H r (.ins a.CR dx (rf tl (p + 1))))
theorem sc_advance : FnScope ["self"] ["self"] (defScope s_Reader_advance) := ⟨rfl, rfl, rfl, by decide +kernel, rfl, by decide +kernel, by decide +kernel⟩
theorem ok_advance (T : Txt K mg a) (d : Dm K a.CR "advance" "Reader.advance" s_Reader_advance ["self"]) : MOk P w K mg base CX0 1 a.CR "advance" ["self"] (spAdvance a) := by
  refine d.ok T.clR fun f fd F => ?_
  refine F.ok sc_advance (fun vs H Q E h => ?_) (fun cdv A outer s H vs Q E hr h => ?_)
  · obtain ⟨x, _, _, _, rfl, _⟩ := h
    rfl
  · obtain ⟨r, tl, dx, p, rfl, hx, q⟩ := h
    refine ⟨_, pss_one (ps_fld (pv 0) (pe_op op_add (pe_fld (pv 0) rfl) pe_int) rfl), ?_⟩
    refine ⟨_, rfl, r, a.CR, dx, _, _, rfl, hx, T.clR, T.nRp, rf_place, _, _, rfl, rfl, _, rfl, r, a.CR, dx, _, rfl, hx, T.clR, T.nRp, (by show 2 < 1000; decide), ?_⟩
    exact q
theorem adv {a : Adr} {H : Hp} {r tl dx : Addr} {p : Nat} (Q : Hp → Prop) (h : ∀ H', Kb [r] H H' → RdAt a H' r tl (p + 1) → Q H') : Q (upd H r (.ins a.CR dx (rf tl (p + 1)))) :=
  h _ (Kb.put (by simp)) ⟨dx, upd_same⟩
def spExpect (K : PySem.W.Frag) (a : Adr) : Sp := fun vs H Q E => ∃ (r tl : Addr) (t : List Nat) (p c : Nat), vs = [.ref r, .int c] ∧ RT K a H r tl t p ∧ Rds a E [r] H r tl (Quire.charAt c p (t.drop p)) fun _ _ H' => Q .non H'
theorem sc_expect : FnScope ["self", "character"] ["self", "character"] (defScope s_Reader_expect) := ⟨rfl, rfl, rfl, by decide +kernel, rfl, by decide +kernel, by decide +kernel⟩
theorem ok_expect (T : Txt K mg a) (OC : Ok P w K mg base (CXR P w) 3 "check" ["right", "place"] (spCheck a)) (OP : MOk P w K mg base CX0 1 a.CR "peek" ["self"] (spPeek K a)) (OA : MOk P w K mg base CX0 1 a.CR "advance" ["self"] (spAdvance a))
    (d : Dm K a.CR "expect" "Reader.expect" s_Reader_expect ["self", "character"]) : MOk P w K mg base (CXR P w) 4 a.CR "expect" ["self", "character"] (spExpect K a) := by
  refine d.ok T.clR fun f fd F => ?_
  refine F.okX sc_expect (fun vs H Q E h => ?_) (fun cdv A outer s H vs Q E hr h => ?_)
  · obtain ⟨x, _, _, _, _, rfl, _⟩ := h
    rfl
  · obtain ⟨r, tl, t, p, c, rfl, R, q⟩ := h
    obtain ⟨dx, hx⟩ := R.at_
    refine ⟨_, pss_cons (ps_expr (pe_f OC hr passX (pa_cons (pe_cmpR op_eq (pe_mz OP hr pass0 (pv 0)) (pv 1) (nomark _)) (pa_cons (pe_fld (pv 0) rfl) pa_nil)))) (pss_one (ps_expr (pe_mz OA hr pass0 (pv 0)))), ?_⟩
    refine ⟨_, rfl, r, dx, _, rfl, hx, rfl, r, tl, t, p, rfl, R, _, rfl, rfl, _, rfl, r, a.CR, dx, _, _, rfl, hx, T.clR, T.nRp, rf_place, _, _, rfl, fun e => ?_, fun e => ?_⟩
    · have e' : pk t p = (c : Int) := by simpa using e
      have hc : t[p]? = some c := by
        unfold pk at e'
        cases z : t[p]? with
        | none => rw [z] at e'; dsimp only at e'; omega
        | some y => rw [z] at e'; dsimp only at e'; congr 1; omega
      rw [drop_some hc, Quire.charAt, if_pos rfl] at q
      refine ⟨_, rfl, r, dx, _, rfl, hx, rfl, r, tl, dx, p, rfl, hx, ?_⟩
      exact adv (fun H' => Q .non H') q
    · have e' : pk t p ≠ (c : Int) := by simpa using e
      have hq : Quire.charAt c p (t.drop p) = .error p := by
        cases z : t[p]? with
        | none => rw [drop_none z]; rfl
        | some y =>
          rw [drop_some z, Quire.charAt, if_neg]
          intro e2; subst e2
          exact e' (pk_some z)
      rw [hq] at q
      exact q.of Kb.refl (by simp)
end
theorem more_drop {d : Nat → Option Nat} {t : List Nat} : ∀ (f n p : Nat) {m q : Nat} {r : List Nat}, Quire.moreDigits d f n p (t.drop p) = .ok (m, q, r) → r = t.drop q
  | f, n, p, m, q, r, h => by
    cases z : t[p]? with
    | none =>
      rw [drop_none z] at h
      have : r = [] ∧ q = p := by
        unfold Quire.moreDigits at h
        split at h <;> (injection h with h; injection h with _ h; injection h with h1 h2; exact ⟨h2.symm, h1.symm⟩)
      rw [this.1, this.2, drop_none z]
    | some c =>
      rw [drop_some z, Quire.moreDigits] at h
      cases e : d c with
      | none =>
        rw [e] at h
        injection h with h; injection h with _ h; injection h with h1 h2
        rw [← h2, ← h1, drop_some z]
      | some x =>
        rw [e] at h
        cases f with
        | zero => cases h
        | succ f => exact more_drop f _ _ h
def DigOk (ds : List Nat) (d : Nat → Option Nat) : Prop := ∀ c : Nat, posI ds c = (match d c with | some k => (k : Int) | none => -1)
theorem posI_end (ds : List Nat) : posI ds (-1) = -1 := posI_no fun j _ y _ => by omega
theorem dig_dec : DigOk digitsL Quire.digit := fun c => by
  unfold Quire.digit
  by_cases h : 0x30 ≤ c ∧ c ≤ 0x39
  · rw [if_pos h]
    obtain ⟨j, hj, rfl⟩ : ∃ j, j < 10 ∧ c = 48 + j := ⟨c - 48, by omega, by omega⟩
    match j, hj with
    | 0, _ => rfl
    | 1, _ => rfl
    | 2, _ => rfl
    | 3, _ => rfl
    | 4, _ => rfl
    | 5, _ => rfl
    | 6, _ => rfl
    | 7, _ => rfl
    | 8, _ => rfl
    | 9, _ => rfl
  · rw [if_neg h]
    refine posI_no fun j _ y hy => ?_
    have := List.mem_of_getElem? hy
    simp [digitsL] at this
    omega
theorem dig_raised : DigOk raisedL Quire.raisedDigit := fun c => by
  by_cases h : c ∈ raisedL
  · simp only [raisedL, List.mem_cons, List.not_mem_nil, or_false] at h
    rcases h with rfl | rfl | rfl | rfl | rfl | rfl | rfl | rfl | rfl | rfl <;> rfl
  · have e : Quire.raisedDigit c = none := by
      unfold Quire.raisedDigit
      rw [List.find?_eq_none]
      intro x hx
      have hx : x < 10 := by simpa using hx
      intro z
      apply h
      rw [← eq_of_beq z]
      match x, hx with
      | 0, _ => decide
      | 1, _ => decide
      | 2, _ => decide
      | 3, _ => decide
      | 4, _ => decide
      | 5, _ => decide
      | 6, _ => decide
      | 7, _ => decide
      | 8, _ => decide
      | 9, _ => decide
    rw [e]
    refine posI_no fun j _ y hy e2 => h ?_
    have : y = c := by omega
    rw [← this]; exact List.mem_of_getElem? hy
theorem posI_pk {ds : List Nat} {d : Nat → Option Nat} (h : DigOk ds d) (t : List Nat) (p : Nat) : posI ds (pk t p) = (match t[p]? with | some c => (match d c with | some k => (k : Int) | none => -1) | none => -1) := by
  cases z : t[p]? with
  | none => rw [pk_none z]; exact posI_end ds
  | some c => rw [pk_some z]; exact h c
def numRest (d : Nat → Option Nat) (v cnt p : Nat) (l : List Nat) : Quire.Rd Nat := if v = 0 then (match l with
    | x :: _ => if (d x).isSome = true then .error p else .ok (0, p, l)
    | [] => .ok (0, p, l)) else Quire.moreDigits d (7 - cnt) v p l
theorem more_nil {d : Nat → Option Nat} {f n p : Nat} : Quire.moreDigits d f n p [] = .ok (n, p, []) := by
  simp [Quire.moreDigits]
theorem number_first {d : Nat → Option Nat} {t : List Nat} {p c x : Nat} (h : t[p]? = some c) (e : d c = some x) : Quire.number d p (t.drop p) = numRest d x 1 (p + 1) (t.drop (p + 1)) := by
  rw [drop_some h, Quire.number.eq_def]
  dsimp only
  rw [e]
  unfold numRest
  cases x with
  | zero =>
    rw [if_pos rfl]
    show ((match t.drop (p + 1) with
      | x :: _ => if (d x).isSome = true then .error (p + 1) else .ok (0, p + 1, t.drop (p + 1))
      | [] => .ok (0, p + 1, t.drop (p + 1))) : Quire.Rd Nat) = _
    cases t.drop (p + 1) <;> rfl
  | succ x =>
    rw [if_neg (by omega)]
    show Quire.moreDigits d 6 (x + 1) (p + 1) (t.drop (p + 1)) = _
    rfl
theorem number_none {d : Nat → Option Nat} {t : List Nat} {p : Nat} (h : ∀ c, t[p]? = some c → d c = none) : Quire.number d p (t.drop p) = .error p := by
  cases z : t[p]? with
  | none => rw [drop_none z]; rfl
  | some c =>
    rw [drop_some z, Quire.number.eq_def]
    dsimp only
    rw [h c z]
theorem numRest_end {d : Nat → Option Nat} {t : List Nat} {v cnt p : Nat} (h : ∀ c, t[p]? = some c → d c = none) : numRest d v cnt p (t.drop p) = .ok (v, p, t.drop p) := by
  unfold numRest
  cases z : t[p]? with
  | none =>
    rw [drop_none z]
    by_cases hv : v = 0
    · rw [if_pos hv, hv]
    · rw [if_neg hv, more_nil]
  | some c =>
    rw [drop_some z]
    have e := h c z
    by_cases hv : v = 0
    · rw [if_pos hv, hv]; dsimp only; rw [e]; rfl
    · rw [if_neg hv, Quire.moreDigits.eq_def]; dsimp only; rw [e]
theorem num_drop {d : Nat → Option Nat} {t : List Nat} {p m q : Nat} {r : List Nat} (h : Quire.number d p (t.drop p) = .ok (m, q, r)) : r = t.drop q := by
  cases z : t[p]? with
  | none => rw [drop_none z] at h; cases h
  | some c =>
    cases e : d c with
    | none => rw [number_none (fun c' h' => by rw [z] at h'; cases h'; exact e)] at h; cases h
    | some x =>
      rw [number_first z e] at h
      by_cases hn : ∀ c, t[p + 1]? = some c → d c = none
      · rw [numRest_end hn] at h
        injection h with h; injection h with _ h; injection h with h1 h2
        rw [← h2, ← h1]
      · unfold numRest at h
        by_cases hx : x = 0
        · rw [if_pos hx] at h
          cases z2 : t[p + 1]? with
          | none => exact absurd (fun c' h' => by rw [z2] at h'; cases h') hn
          | some c2 =>
            rw [drop_some z2] at h
            dsimp only at h
            split at h
            · cases h
            · injection h with h; injection h with _ h; injection h with h1 h2
              rw [← h2, ← h1, drop_some z2]
        · rw [if_neg hx] at h
          exact more_drop _ _ _ h
theorem numRest_more {d : Nat → Option Nat} {t : List Nat} {v cnt p c x : Nat} (h : t[p]? = some c) (e : d c = some x) (hv : 0 < v) (hc : cnt < 7) : numRest d v cnt p (t.drop p) = numRest d (10 * v + x) (cnt + 1) (p + 1) (t.drop (p + 1)) := by
  unfold numRest
  rw [if_neg (by omega), if_neg (by omega), drop_some h, show 7 - cnt = (7 - (cnt + 1)) + 1 by omega, Quire.moreDigits.eq_def]
  dsimp only
  rw [e]
theorem numRest_bad {d : Nat → Option Nat} {t : List Nat} {v cnt p c x : Nat} (h : t[p]? = some c) (e : d c = some x) (hb : ¬ (0 < v ∧ cnt < 7)) : numRest d v cnt p (t.drop p) = .error p := by
  unfold numRest
  rw [drop_some h]
  by_cases hv : v = 0
  · rw [if_pos hv]; dsimp only; rw [e]; rfl
  · rw [if_neg hv, show 7 - cnt = 0 by omega, Quire.moreDigits.eq_def]
    dsimp only
    rw [e]
section
variable {P : Program} {w : World} {K : PySem.W.Frag} {mg : Str → Option Value} {base : Heap} {a : Adr}
def spNumber (K : PySem.W.Frag) (a : Adr) : Sp := fun vs H Q E => ∃ (r tl da : Addr) (t ds : List Nat) (d : Nat → Option Nat) (p : Nat), vs = [.ref r, .ref da] ∧ RT K a H r tl t p ∧ (∀ H, SqT K H da (ds.map cV)) ∧ ds.length ≤ 1000 ∧ DigOk ds d ∧
  Rds a E [r] H r tl (Quire.number d p (t.drop p)) fun n _ H' => Q (.int (n : Nat)) H'
theorem sc_number : FnScope ["self", "digits", "value", "count", "digit"] ["self", "digits"] (defScope s_Reader_read_number) := ⟨rfl, rfl, rfl, by decide +kernel, rfl, by decide +kernel, by decide +kernel⟩
theorem ok_number (T : Txt K mg a) (OC : Ok P w K mg base (CXR P w) 3 "check" ["right", "place"] (spCheck a)) (OP : MOk P w K mg base CX0 1 a.CR "peek" ["self"] (spPeek K a)) (OA : MOk P w K mg base CX0 1 a.CR "advance" ["self"] (spAdvance a))
    (OS : Ok P w K mg base CX0 1 "position" ["characters", "character"] (spPosition K))
    (d : Dm K a.CR "read_number" "Reader.read_number" s_Reader_read_number ["self", "digits"]) : MOk P w K mg base (CXR P w) 4 a.CR "read_number" ["self", "digits"] (spNumber K a) := by
  refine d.ok T.clR fun f fd F => ?_
  refine F.okX sc_number (fun vs H Q E h => ?_) (fun cdv A outer s H vs Q E hr h => ?_)
  · obtain ⟨x, _, _, _, _, _, _, rfl, _⟩ := h
    rfl
  · obtain ⟨r, tl, da, t, ds, dg, p, rfl, R, hds, hdl, hdg, q⟩ := h
    obtain ⟨dx, hx⟩ := R.at_
    refine ⟨_, pss_cons (ps_set (i := 2) sc_number.nd rfl (Or.inl rfl) (pe_f OS hr pass0 (pa_cons (pv 1) (pa_cons (pe_mz OP hr pass0 (pv 0)) pa_nil))))
      (pss_cons (ps_expr (pe_f OC hr passX (pa_cons (pe_cmpR op_ge (pv 2) pe_int (nomark _)) (pa_cons (pe_fld (pv 0) rfl) pa_nil))))
      (pss_cons (ps_expr (pe_mz OA hr pass0 (pv 0)))
      (pss_cons (ps_set (i := 3) sc_number.nd rfl (Or.inl rfl) pe_int)
      (pss_cons (ps_set (i := 4) sc_number.nd rfl (Or.inl rfl) (pe_f OS hr pass0 (pa_cons (pv 1) (pa_cons (pe_mz OP hr pass0 (pv 0)) pa_nil))))
      (pss_cons (ps_while ownX (pt_cmpR op_ge (pv 4) pe_int (nomark _))
        (pss_cons (ps_expr (pe_f OC hr passX (pa_cons (pe_and (pe_cmpR op_gt (pv 2) pe_int (nomark _)) (pe_one (pe_cmpR op_lt (pv 3) (pe_gi T.MOST_DIGITS) (nomark _)))) (pa_cons (pe_fld (pv 0) rfl) pa_nil))))
        (pss_cons (ps_set (i := 2) sc_number.nd rfl (Or.inl rfl) (pe_op op_add (pe_op op_mul pe_int (pv 2)) (pv 4)))
        (pss_cons (ps_expr (pe_mz OA hr pass0 (pv 0)))
        (pss_cons (ps_set (i := 3) sc_number.nd rfl (Or.inl rfl) (pe_op op_add (pv 3) pe_int))
        (pss_one (ps_set (i := 4) sc_number.nd rfl (Or.inl rfl) (pe_f OS hr pass0 (pa_cons (pv 1) (pa_cons (pe_mz OP hr pass0 (pv 0)) pa_nil))))))))))
      (pss_one (ps_ret (pv 2)))))))), ?_⟩
    refine ⟨_, rfl, _, rfl, r, dx, _, rfl, hx, rfl, r, tl, t, p, rfl, R, da, ds, _, rfl, .inr (hds _), hdl, ?_⟩
    refine ⟨_, rfl, _, _, rfl, rfl, _, rfl, r, a.CR, dx, _, _, rfl, hx, T.clR, T.nRp, rf_place, _, _, rfl, fun e => ?_, fun e => ?_⟩
    · -- a first digit
      have hpos : 0 ≤ posI ds (pk t p) := of_decide_eq_true e
      obtain ⟨c, x, hc, hd⟩ : ∃ c x, t[p]? = some c ∧ dg c = some x := by
        rw [posI_pk hdg] at hpos
        cases z : t[p]? with
        | none => rw [z] at hpos; dsimp only at hpos; omega
        | some c =>
          rw [z] at hpos; dsimp only at hpos
          cases z2 : dg c with
          | none => rw [z2] at hpos; dsimp only at hpos; omega
          | some x => exact ⟨c, x, rfl, z2⟩
      have hv : posI ds (pk t p) = (x : Int) := by rw [posI_pk hdg, hc]; dsimp only; rw [hd]
      rw [hv]
      rw [number_first hc hd] at q
      refine ⟨_, rfl, r, dx, _, rfl, hx, rfl, r, tl, dx, p, rfl, hx, ?_⟩
      refine adv (a := a) (fun H' => _) fun H1 k1 r1 => ?_
      have R1 := R.go k1 r1
      obtain ⟨dx1, hx1⟩ := r1
      refine ⟨_, rfl, _, rfl, r, dx1, _, rfl, hx1, rfl, r, tl, t, p + 1, rfl, R1, da, ds, _, rfl, .inr (hds _), hdl, ?_⟩
      refine while_by (fun σ H' => ∃ v cnt p' : Nat, σ = [some (.ref r), some (.ref da), some (.int v), some (.int cnt), some (.int (posI ds (pk t p')))] ∧ Kb [r] H H' ∧ RdAt a H' r tl p' ∧ 1 ≤ cnt ∧
          Rds a E [r] H r tl (numRest dg v cnt p' (t.drop p')) fun n _ H' => Q (.int (n : Nat)) H')
        (fun σ H' => match σ with
          | [_, _, _, some (.int cnt), _] => 8 - cnt.toNat
          | _ => 0)
        ⟨x, 1, p + 1, rfl, k1, ⟨dx1, hx1⟩, by omega, q⟩ ?_ ?_
      · rintro σ H2 ⟨v, cnt, p', rfl, k2, r2, hcnt, q2⟩
        have R2 := R.go k2 r2
        obtain ⟨dx2, hx2⟩ := r2
        refine ⟨_, rfl, _, _, rfl, rfl, _, rfl, ?_⟩
        refine ite2 (fun e2 => ?_) fun e2 => ?_
        · have hpos : 0 ≤ posI ds (pk t p') := of_decide_eq_true e2
          obtain ⟨c2, x2, hc2, hd2⟩ : ∃ c x, t[p']? = some c ∧ dg c = some x := by
            rw [posI_pk hdg] at hpos
            cases z : t[p']? with
            | none => rw [z] at hpos; dsimp only at hpos; omega
            | some c =>
              rw [z] at hpos; dsimp only at hpos
              cases z2 : dg c with
              | none => rw [z2] at hpos; dsimp only at hpos; omega
              | some x => exact ⟨c, x, rfl, z2⟩
          have hv2 : posI ds (pk t p') = (x2 : Int) := by rw [posI_pk hdg, hc2]; dsimp only; rw [hd2]
          refine ⟨_, rfl, _, _, rfl, rfl, _, rfl, ?_⟩
          have bad : ¬ (0 < v ∧ cnt < 7) → Flt a E [] H2 p' := fun hb => by
            rw [numRest_bad hc2 hd2 hb] at q2
            exact q2.of k2 (by simp)
          refine ite2 (fun e3 => ?_) fun e3 => ?_
          · have hv0 : 0 < v := by have := of_decide_eq_true e3; omega
            refine ⟨_, rfl, _, _, rfl, rfl, _, rfl, r, a.CR, dx2, _, _, rfl, hx2, T.clR, T.nRp, rf_place, _, _, rfl, fun e4 => ?_, fun e4 => bad fun z => ?_⟩
            · have hc7 : cnt < 7 := by have := of_decide_eq_true e4; omega
              rw [numRest_more hc2 hd2 hv0 hc7] at q2
              refine ⟨_, rfl, _, _, rfl, rfl, .inl ⟨by decide, by decide⟩, _, rfl, _, _, rfl, rfl, ?_⟩
              refine ⟨_, rfl, r, dx2, _, rfl, hx2, rfl, r, tl, dx2, p', rfl, hx2, ?_⟩
              refine adv (a := a) (fun H' => _) fun H3 k3 r3 => ?_
              have R3 := R2.go k3 r3
              obtain ⟨dx3, hx3⟩ := r3
              refine ⟨_, rfl, _, _, rfl, rfl, _, rfl, _, rfl, r, dx3, _, rfl, hx3, rfl, r, tl, t, p' + 1, rfl, R3, da, ds, _, rfl, .inr (hds _), hdl, ?_⟩
              refine ⟨⟨10 * v + x2, cnt + 1, p' + 1, ?_, k2.trans k3, ⟨dx3, hx3⟩, by omega, q2⟩, ?_⟩
              · rw [hv2]; rfl
              · show 8 - ((cnt : Int) + 1).toNat < 8 - (cnt : Int).toNat
                omega
            · have := of_decide_eq_false e4; omega
          · refine ⟨_, rfl, r, a.CR, dx2, _, _, rfl, hx2, T.clR, T.nRp, rf_place, _, _, rfl, (fun e4 => nomatch e4), fun e4 => bad fun z => e3 (decide_eq_true (by omega))⟩
        · have hneg : ∀ c, t[p']? = some c → dg c = none := fun c hc => by
            have h1 : ¬ 0 ≤ posI ds (pk t p') := fun z => e2 (decide_eq_true z)
            rw [posI_pk hdg, hc] at h1
            dsimp only at h1
            cases z2 : dg c with
            | none => rfl
            | some x => rw [z2] at h1; exact (h1 (Int.natCast_nonneg _)).elim
          rw [numRest_end hneg] at q2
          exact ⟨_, rfl, q2 H2 k2 ⟨dx2, hx2⟩⟩
      · intro σ H Q Q' h hq
        obtain ⟨v, h1, i, j, h2, h3, k, h4, h5⟩ := hq
        exact ⟨v, h1, i, j, h2, h3, k, h4, h _ _ h5⟩
    · have hneg : ∀ c, t[p]? = some c → dg c = none := fun c hc => by
        have h1 : ¬ 0 ≤ posI ds (pk t p) := of_decide_eq_false e
        rw [posI_pk hdg, hc] at h1
        dsimp only at h1
        cases z2 : dg c with
        | none => rfl
        | some x => rw [z2] at h1; exact (h1 (Int.natCast_nonneg _)).elim
      rw [number_none hneg] at q
      exact q.of Kb.refl (by simp)
end
end Pg
end
section
namespace L2
open PySem PySem.Spec PyProof.Rows
theorem lc_str {z : Str} {g : TG} {tt : TT} {te : TE} {vs : List Nat} {σ : St} {H1 : Hp} {D : Addr} {Qd : Hp → Prop} (Pv : Nat → Hp → Prop) (h0 : Pv 0 (upd H1 D (.lst [])))
    (hs : ∀ i c H, z.cps[i]? = some c → Pv i H → g (.str ⟨#[c]⟩) (wipe σ vs) H fun σ2 H2 => wipe σ2 vs = wipe σ vs ∧ tt σ2 H2 fun b H3 =>
      if b = true then te σ2 H3 fun y H4 => ∃ acc, H4 D = some (.lst acc) ∧ acc.length < sizeLine ∧ Pv (i + 1) (upd H4 D (.lst (acc ++ [y]))) else Pv (i + 1) H3) (hd : ∀ H, Pv z.cps.size H → Qd H) :
    ∃ W : Nat → Nat → Hp → Prop, (∃ m, W 0 m (upd H1 D (.lst []))) ∧ ∀ i m H, W i m H →
      ((Its z).stop i H ∧ Qd H) ∨ ((Its z).go i H ∧ ∃ Nx : Hp → Prop, (∀ H', Nx H' → ∃ m', m' < m ∧ W (i + 1) m' H') ∧ ∀ x H', (Its z).yld i H x H' → g x (wipe σ vs) H' fun σ2 H2 => wipe σ2 vs = wipe σ vs ∧ tt σ2 H2 fun b H3 =>
        if b = true then te σ2 H3 fun y H4 => ∃ acc, H4 D = some (.lst acc) ∧ acc.length < sizeLine ∧ Nx (upd H4 D (.lst (acc ++ [y]))) else Nx H3) := by
  refine ⟨fun i m H => m = z.cps.size - i ∧ i ≤ z.cps.size ∧ Pv i H, ⟨z.cps.size, by simp, Nat.zero_le _, h0⟩, ?_⟩
  rintro i m H ⟨rfl, hi, p⟩
  by_cases hlt : i < z.cps.size
  · refine .inr ⟨hlt, Pv (i + 1), fun H' p' => ⟨z.cps.size - (i + 1), by omega, rfl, hlt, p'⟩, fun x H' y => ?_⟩
    obtain ⟨e, c, hc, rfl⟩ := y
    subst e
    exact hs i c _ hc p
  · have e : i = z.cps.size := by omega
    subst e
    exact .inl ⟨Nat.le_refl _, hd H p⟩
end L2
namespace Pg
open PySem PySem.Spec PyProof.Rows L2
def lettersL : List Nat := lettersS.cps.toList
def sgnI (c : Int) : Int := if 0 ≤ posI lettersL c then posI lettersL c else if 0 ≤ posI otherL c then 46 + posI otherL c else -1
theorem letters_len : lettersL.length = 46 := by decide +kernel
theorem chars_eq : Quire.signChars = lettersL ++ otherL := by decide +kernel
theorem posI_idx (xs : List Nat) (c : Nat) : posI xs c = (match xs.idxOf? c with | some k => (k : Int) | none => -1) := by
  have e : xs.findIdx? (fun x : Nat => decide ((x : Int) = (c : Int))) = xs.idxOf? c := by
    unfold List.idxOf?
    congr 1
    funext x
    rw [Bool.eq_iff_iff]
    simp
    omega
  unfold posI
  rw [e]
  all_goals (cases xs.idxOf? c <;> rfl)
theorem sgn_ok (c : Nat) : sgnI c = (match Quire.signAt c with | some k => (k : Int) | none => -1) := by
  unfold Quire.signAt sgnI
  rw [chars_eq, posI_idx, posI_idx]
  have e : (lettersL ++ otherL).idxOf? c = (lettersL.idxOf? c).or ((otherL.idxOf? c).map (· + 46)) := by
    unfold List.idxOf?
    rw [List.findIdx?_append, letters_len]
  rw [e]
  cases z : lettersL.idxOf? c with
  | some k => dsimp only [Option.or]; rw [if_pos (Int.natCast_nonneg _)]
  | none =>
    dsimp only [Option.or]
    rw [if_neg (by decide)]
    cases z2 : otherL.idxOf? c with
    | some k =>
      dsimp only [Option.map]
      rw [if_pos (Int.natCast_nonneg _)]
      show (46 : Int) + (k : Nat) = ((k + 46 : Nat) : Int)
      omega
    | none => rw [if_neg (by decide)]; rfl
theorem sgn_end : sgnI (-1) = -1 := by
  unfold sgnI
  rw [posI_end, posI_end, if_neg (by decide), if_neg (by decide)]
section
variable {P : Program} {w : World} {K : PySem.W.Frag} {mg : Str → Option Value} {base : Heap} {a : Adr}
def spSgn : Sp := fun vs H Q _ => ∃ c : Int, vs = [.int c] ∧ ∀ H', Same H H' → Q (.int (sgnI c)) H'
theorem sc_sgn : FnScope ["character", "letter", "other", "x"] ["character"] (defScope s_signature_sign) := ⟨rfl, rfl, rfl, by decide +kernel, rfl, by decide +kernel, by decide +kernel⟩
theorem ok_sgn (T : Txt K mg a) (OS : Ok P w K mg base CX0 1 "position" ["characters", "character"] (spPosition K)) (d : Df K mg "signature_sign" s_signature_sign ["character"]) : Ok P w K mg base CX0 2 "signature_sign" ["character"] spSgn := by
  refine d.ok fun f fd F => ?_
  refine F.ok sc_sgn (fun vs H Q E h => ?_) (fun cdv A outer s H vs Q E hr h => ?_)
  · obtain ⟨x, rfl, _⟩ := h
    rfl
  · obtain ⟨c, rfl, q⟩ := h
    refine ⟨_, pss_cons (ps_set (i := 1) sc_sgn.nd rfl (Or.inl rfl) (pe_f OS hr pass0 (pa_cons (pe_lc (own := [("x", 3)]) rfl sc_sgn.nd (pi_str (pe_gs T.le)) (blkOk_by (by rfl))
        (fun _ _ _ _ _ => pg_name (i := 3) sc_sgn.nd rfl (Or.inl rfl)) (fun _ _ _ _ _ => pts_nil) (fun _ _ _ _ _ => pe_callB call_ord (by rfl) T.ord boot_ord (pa_cons (pv 3) pa_nil))) (pa_cons (pv 0) pa_nil))))
      (pss_cons (ps_if (pt_cmpR op_ge (pv 1) pe_int (nomark _)) (pss_one (ps_ret (pv 1))) pss_nil)
      (pss_cons (ps_set (i := 2) sc_sgn.nd rfl (Or.inl rfl) (pe_f OS hr pass0 (pa_cons (pe_gr T.os) (pa_cons (pv 0) pa_nil))))
      (pss_cons (ps_if (pt_cmpR op_ge (pv 2) pe_int (nomark _)) (pss_one (ps_ret (pe_op op_add (pe_callB call_len_str (by rfl) T.len PySem.boot_len (pa_cons (pe_gs T.le) pa_nil)) (pv 2)))) pss_nil)
      (pss_one (ps_ret (pe_un un_neg pe_int)))))), ?_⟩
    refine ⟨_, rfl, fun D hD => ?_⟩
    refine lc_str (z := lettersS) (fun i H' => Same H H' ∧ H' D = some (.lst ((lettersL.take i).map cV))) ⟨Same.new hD, upd_same⟩ ?_ ?_
    · rintro i x H' hi ⟨s1, h1⟩
      have hx : lettersL[i]? = some x := by unfold lettersL; rw [Array.getElem?_toList]; exact hi
      refine ⟨rfl, ?_⟩
      unfold tYes
      refine iteT ?_
      refine ⟨_, rfl, _, rfl, rfl, _, h1, ?_, fun b o hb => ?_, ?_⟩
      · rw [List.length_map]
        exact Nat.lt_of_le_of_lt (List.length_take_le _ _) (Nat.lt_of_lt_of_le (List.getElem?_eq_some_iff.mp hx).1 (by rw [letters_len]; decide))
      · rw [upd_ne (ne_of_none hb hD)]; exact s1 _ _ hb
      · rw [upd_same, List.take_succ, hx, List.map_append]; rfl
    · rintro H' ⟨s1, h1⟩
      have e46 : lettersS.cps.size = lettersL.length := by unfold lettersL; rw [Array.length_toList]
      rw [e46, List.take_length] at h1
      refine ⟨_, rfl, D, lettersL, c, rfl, .inl (SqL.of h1), by rw [letters_len]; decide, ?_⟩
      have z := q H' s1
      unfold sgnI at z
      refine ⟨_, rfl, _, _, rfl, rfl, _, rfl, ?_⟩
      refine ite2 (fun e => ?_) fun e => ?_
      · rw [if_pos (of_decide_eq_true e)] at z
        exact ⟨_, rfl, z⟩
      · rw [if_neg (fun y => e (decide_eq_true y))] at z
        refine ⟨_, rfl, a.os, otherL, c, rfl, .inr (T.osS _), by decide, ?_⟩
        refine ⟨_, rfl, _, _, rfl, rfl, _, rfl, ?_⟩
        refine ite2 (fun e => ?_) fun e => ?_
        · rw [if_pos (of_decide_eq_true e)] at z
          exact ⟨_, rfl, by decide +kernel, _, rfl, _, _, rfl, rfl, z⟩
        · rw [if_neg (fun y => e (decide_eq_true y))] at z
          exact ⟨_, rfl, z⟩
def spRow : Sp := fun vs H Q _ => ∃ c : Int, vs = [.int c] ∧ Q (.int (posI rowL c + 1)) H
theorem sc_row : FnScope ["character"] ["character"] (defScope s_row_sign) := ⟨rfl, rfl, rfl, by decide +kernel, rfl, by decide +kernel, by decide +kernel⟩
theorem ok_row (T : Txt K mg a) (OS : Ok P w K mg base CX0 1 "position" ["characters", "character"] (spPosition K)) (d : Df K mg "row_sign" s_row_sign ["character"]) : Ok P w K mg base CX0 2 "row_sign" ["character"] spRow := by
  refine d.ok fun f fd F => ?_
  refine F.ok sc_row (fun vs H Q E h => ?_) (fun cdv A outer s H vs Q E hr h => ?_)
  · obtain ⟨x, rfl, _⟩ := h
    rfl
  · obtain ⟨c, rfl, q⟩ := h
    refine ⟨_, pss_one (ps_ret (pe_op op_add (pe_f OS hr pass0 (pa_cons (pe_gr T.rs) (pa_cons (pv 0) pa_nil))) pe_int)), ?_⟩
    exact ⟨_, rfl, a.rs, rowL, c, rfl, .inr (T.rsS _), by decide, _, _, rfl, rfl, q⟩
def spSize : Sp := fun vs H Q _ => ∃ n : Nat, vs = [.int n] ∧ Q (.bl (Quire.sizeOk n)) H
theorem sc_size : FnScope ["number"] ["number"] (defScope s_is_size) := ⟨rfl, rfl, rfl, by decide +kernel, rfl, by decide +kernel, by decide +kernel⟩
theorem ok_size (T : Txt K mg a) (d : Df K mg "is_size" s_is_size ["number"]) : Ok P w K mg base CX0 1 "is_size" ["number"] spSize := by
  refine d.ok fun f fd F => ?_
  refine F.ok sc_size (fun vs H Q E h => ?_) (fun cdv A outer s H vs Q E hr h => ?_)
  · obtain ⟨x, rfl, _⟩ := h
    rfl
  · obtain ⟨n, rfl, q⟩ := h
    refine ⟨_, pss_one (ps_ret (pe_or (pe_cmpR op_eq (pv 0) pe_int (nomark _)) (pe_one (pe_and (pe_chain op_le op_le pe_int (pv 0) (pe_gi T.MOST_SIZE)) (pe_one (pe_cmpR op_eq (pe_op op_mod (pv 0) pe_int) pe_int (nomark _))))))), ?_⟩
    have fin : ∀ b, Quire.sizeOk n = b → Q (.bl b) H := fun b e => by rw [← e]; exact q
    refine ⟨_, rfl, rfl, _, rfl, ?_⟩
    refine ite2 (fun e => ?_) fun e => ?_
    · refine fin _ ?_
      have : n = 1 := by have z : V.int (n : Int) = V.int 1 := of_decide_eq_true e; have := V.int.inj z; omega
      rw [this]; rfl
    · have h1 : n ≠ 1 := fun z => e (by rw [z]; rfl)
      refine ⟨_, rfl, _, _, rfl, rfl, _, rfl, ?_⟩
      refine ite2 (fun e => ?_) fun e => ?_
      · have h2 : 2 ≤ n := by have := of_decide_eq_true e; omega
        refine ⟨_, _, rfl, rfl, _, rfl, ?_⟩
        refine ite2 (fun e => ?_) fun e => ?_
        · have h3 : n ≤ 20 := by have := of_decide_eq_true e; omega
          refine ⟨_, rfl, _, _, rfl, rfl, by show (0 : Int) < 2; decide, rfl, fin _ ?_⟩
          have e5 : decide (V.int ((n : Int) % 2) = V.int 0) = decide (n % 2 = 0) := by
            rw [Bool.eq_iff_iff]; simp; omega
          rw [e5]
          unfold Quire.sizeOk
          have e6 : (n == 1) = false := by simp [h1]
          rw [e6, decide_eq_true h2, decide_eq_true (show n ≤ 20 from h3)]
          simp
          rfl
        · have h3 : ¬ n ≤ 20 := fun z => e (decide_eq_true (by omega))
          refine fin _ ?_
          unfold Quire.sizeOk
          simp [h1, h3]
      · have h2 : ¬ 2 ≤ n := fun z => e (decide_eq_true (by omega))
        refine ⟨_, rfl, iteF (fin _ ?_)⟩
        unfold Quire.sizeOk
        simp [h1, h2]
end
end Pg
end
section
namespace Pg
open PySem PySem.Spec PyProof.Rows L2
def sizeAt (p : Nat) (t : List Nat) : Quire.Rd Nat := match Quire.number Quire.raisedDigit p t with
  | .error e => .error e
  | .ok (n, q, u) => if Quire.sizeOk n = false then .error p else .ok (n, q, u)
def sgT (s : Quire.Sig) : HO := .tup [.int s.sign, .int s.times]
def toldAt (t : List Nat) (p : Nat) : Bool := match t[p]? with
  | some c => (Quire.digit c).isSome
  | none => false
theorem sigAt_eq {t : List Nat} {p : Nat} : Quire.sigAt p (t.drop p) = (match (if toldAt t p = true then Quire.number Quire.digit p (t.drop p) else .ok (1, p, t.drop p) : Quire.Rd Nat) with
    | .error e => .error e
    | .ok (n, q, r) => match r with
      | [] => .error q
      | c :: u => match Quire.signAt c with
        | none => .error q
        | some s => if toldAt t p = true ∧ (n < 2 ∨ Quire.TIMES < n) then .error p else .ok (⟨s, n⟩, q + 1, u)) := by
  unfold Quire.sigAt
  cases z : t[p]? with
  | none =>
    rw [drop_none z, show toldAt t p = false from by unfold toldAt; rw [z]]
    rfl
  | some c =>
    rw [drop_some z, show toldAt t p = (Quire.digit c).isSome from by unfold toldAt; rw [z]]
    rfl
theorem told_pos {t : List Nat} {p : Nat} : decide (0 ≤ posI digitsL (pk t p)) = toldAt t p := by
  rw [posI_pk dig_dec]
  unfold toldAt
  cases z : t[p]? with
  | none => rfl
  | some c =>
    rw [Bool.eq_iff_iff, decide_eq_true_iff]
    dsimp only
    cases Quire.digit c with
    | none => exact ⟨fun h => absurd h (by decide), fun h => nomatch h⟩
    | some k => exact ⟨fun _ => rfl, fun _ => Int.natCast_nonneg _⟩
section
variable {P : Program} {w : World} {K : PySem.W.Frag} {mg : Str → Option Value} {base : Heap} {a : Adr}
def spReadSize (K : PySem.W.Frag) (a : Adr) : Sp := fun vs H Q E => ∃ (r tl : Addr) (t : List Nat) (p : Nat), vs = [.ref r] ∧ RT K a H r tl t p ∧ Rds a E [r] H r tl (sizeAt p (t.drop p)) fun n _ H' => Q (.int (n : Nat)) H'
theorem sc_rsize : FnScope ["reader", "start", "size"] ["reader"] (defScope s_read_size) := ⟨rfl, rfl, rfl, by decide +kernel, rfl, by decide +kernel, by decide +kernel⟩
theorem ok_rsize (T : Txt K mg a) (OC : Ok P w K mg base (CXR P w) 3 "check" ["right", "place"] (spCheck a)) (ON : MOk P w K mg base (CXR P w) 4 a.CR "read_number" ["self", "digits"] (spNumber K a)) (OS : Ok P w K mg base CX0 1 "is_size" ["number"] spSize)
    (d : Df K mg "read_size" s_read_size ["reader"]) : Ok P w K mg base (CXR P w) 5 "read_size" ["reader"] (spReadSize K a) := by
  refine d.ok fun f fd F => ?_
  refine F.okX sc_rsize (fun vs H Q E h => ?_) (fun cdv A outer s H vs Q E hr h => ?_)
  · obtain ⟨x, _, _, _, rfl, _⟩ := h
    rfl
  · obtain ⟨r, tl, t, p, rfl, R, q⟩ := h
    obtain ⟨dx, hx⟩ := R.at_
    refine ⟨_, pss_cons (ps_set (i := 1) sc_rsize.nd rfl (Or.inl rfl) (pe_fld (pv 0) rfl))
      (pss_cons (ps_set (i := 2) sc_rsize.nd rfl (Or.inl rfl) (pe_m ON hr passX (pv 0) (pa_cons (pe_gr T.rd) pa_nil)))
      (pss_cons (ps_expr (pe_f OC hr passX (pa_cons (pe_f OS hr pass0 (pa_cons (pv 2) pa_nil)) (pa_cons (pv 1) pa_nil))))
      (pss_one (ps_ret (pv 2))))), ?_⟩
    refine ⟨_, rfl, r, a.CR, dx, _, _, rfl, hx, T.clR, T.nRp, rf_place, _, rfl, r, dx, _, rfl, hx, rfl, r, tl, a.rd, t, raisedL, Quire.raisedDigit, p, rfl, R, T.rdS, by decide, dig_raised, ?_⟩
    unfold sizeAt at q
    cases z : Quire.number Quire.raisedDigit p (t.drop p) with
    | error e => rw [z] at q; exact q
    | ok v =>
      obtain ⟨n, p1, u⟩ := v
      rw [z] at q
      dsimp only at q
      intro H1 k1 r1
      refine ⟨_, rfl, n, rfl, _, rfl, _, _, rfl, fun e => ?_, fun e => ?_⟩
      · rw [if_neg (by rw [e]; decide)] at q
        exact ⟨_, rfl, q H1 k1 r1⟩
      · rw [if_pos e] at q
        exact q.of k1 (by simp)
def spReadSig (K : PySem.W.Frag) (a : Adr) : Sp := fun vs H Q E => ∃ (r tl : Addr) (t : List Nat) (p : Nat), vs = [.ref r] ∧ RT K a H r tl t p ∧ Rds a E [r] H r tl (Quire.sigAt p (t.drop p)) fun s _ H' => ∀ sg, H' sg = some (sgT s) → Q (.ref sg) H'
theorem sc_rsig : FnScope ["reader", "start", "told", "times", "sign"] ["reader"] (defScope s_read_signature) := ⟨rfl, rfl, rfl, by decide +kernel, rfl, by decide +kernel, by decide +kernel⟩
theorem ok_rsig (T : Txt K mg a) (OC : Ok P w K mg base (CXR P w) 3 "check" ["right", "place"] (spCheck a)) (ON : MOk P w K mg base (CXR P w) 4 a.CR "read_number" ["self", "digits"] (spNumber K a)) (OS : Ok P w K mg base CX0 1 "position" ["characters", "character"] (spPosition K))
    (OP : MOk P w K mg base CX0 1 a.CR "peek" ["self"] (spPeek K a)) (OA : MOk P w K mg base CX0 1 a.CR "advance" ["self"] (spAdvance a)) (OG : Ok P w K mg base CX0 2 "signature_sign" ["character"] spSgn)
    (d : Df K mg "read_signature" s_read_signature ["reader"]) : Ok P w K mg base (CXR P w) 5 "read_signature" ["reader"] (spReadSig K a) := by
  refine d.ok fun f fd F => ?_
  refine F.okX sc_rsig (fun vs H Q E h => ?_) (fun cdv A outer s H vs Q E hr h => ?_)
  · obtain ⟨x, _, _, _, rfl, _⟩ := h
    rfl
  · obtain ⟨r, tl, t, p, rfl, R, q⟩ := h
    obtain ⟨dx, hx⟩ := R.at_
    refine ⟨_, pss_cons (ps_set (i := 1) sc_rsig.nd rfl (Or.inl rfl) (pe_fld (pv 0) rfl))
      (pss_cons (ps_set (i := 2) sc_rsig.nd rfl (Or.inl rfl) (pe_cmpR op_ge (pe_f OS hr pass0 (pa_cons (pe_gr T.dg) (pa_cons (pe_mz OP hr pass0 (pv 0)) pa_nil))) pe_int (nomark _)))
      (pss_cons (ps_set (i := 3) sc_rsig.nd rfl (Or.inl rfl) (pe_ifExp (pt_val (pv 2)) (pe_m ON hr passX (pv 0) (pa_cons (pe_gr T.dg) pa_nil)) pe_int))
      (pss_cons (ps_set (i := 4) sc_rsig.nd rfl (Or.inl rfl) (pe_f OG hr pass0 (pa_cons (pe_mz OP hr pass0 (pv 0)) pa_nil)))
      (pss_cons (ps_expr (pe_f OC hr passX (pa_cons (pe_cmpR op_ge (pv 4) pe_int (nomark _)) (pa_cons (pe_fld (pv 0) rfl) pa_nil))))
      (pss_cons (ps_expr (pe_mz OA hr pass0 (pv 0)))
      (pss_cons (ps_expr (pe_f OC hr passX (pa_cons (pe_or (pe_not (pv 2)) (pe_one (pe_chain op_le op_le pe_int (pv 3) (pe_gi T.MOST_TIMES)))) (pa_cons (pv 1) pa_nil))))
      (pss_one (ps_ret (pe_tup (pa_cons (pv 4) (pa_cons (pv 3) pa_nil))))))))))), ?_⟩
    refine ⟨_, rfl, r, a.CR, dx, _, _, rfl, hx, T.clR, T.nRp, rf_place, ?_⟩
    refine ⟨_, rfl, r, dx, _, rfl, hx, rfl, r, tl, t, p, rfl, R, a.dg, digitsL, _, rfl, .inr (T.dgS _), by decide, _, _, rfl, rfl, ?_⟩
    dsimp only
    rw [told_pos]
    refine ⟨_, rfl, _, rfl, ?_⟩
    rw [sigAt_eq] at q
    have rest : ∀ (n p1 : Nat) (H1 : Hp), Kb [r] H H1 → RdAt a H1 r tl p1 → Rds a E [r] H r tl (match t.drop p1 with
        | [] => .error p1
        | c :: u => match Quire.signAt c with
          | none => .error p1
          | some s => if toldAt t p = true ∧ (n < 2 ∨ Quire.TIMES < n) then .error p else .ok (⟨s, n⟩, p1 + 1, u) : Quire.Rd Quire.Sig) (fun s _ H' => ∀ sg, H' sg = some (sgT s) → Q (.ref sg) H') →
        tSeq (tAsg (tCall spSgn [] E0 (tCons (tMeth a.CR "peek" (spPeek K a) [] E0 (tVar 0) tNil) tNil)) (gName 4))
          (tSeq (tDrop (tCall (spCheck a) [] E (tCons (tOp (rI0 fun i j => .bl (decide (j ≤ i))) (tVar 4) (tC (.int 0))) (tCons (tFld K (tVar 0) "place") tNil))))
          (tSeq (tDrop (tMeth a.CR "advance" (spAdvance a) [] E0 (tVar 0) tNil))
          (tSeq (tDrop (tCall (spCheck a) [] E (tCons (tOrV (tNotV (tVar 2)) (tChain (rI0 fun i j => .bl (decide (i ≤ j))) (rI0 fun i j => .bl (decide (i ≤ j))) (tC (.int 2)) (tVar 3) (tC (.int 99)))) (tCons (tVar 1) tNil))))
          (tRet (tTup (tCons (tVar 4) (tCons (tVar 3) tNil))))))) { nx := fun _ H' => Q .non H', rt := Q } [some (.ref r), some (.int (p : Nat)), some (.bl (toldAt t p)), some (.int (n : Nat)), none] H1 := by
      intro n p1 H1 k1 r1 q1
      have R1 := R.go k1 r1
      obtain ⟨dx1, hx1⟩ := r1
      refine ⟨_, rfl, r, dx1, _, rfl, hx1, rfl, r, tl, t, p1, rfl, R1, _, rfl, fun H2 s2 => ?_⟩
      have k2 : Kb [r] H H2 := k1.trans s2.kb
      have hx2 := s2 _ _ hx1
      refine ⟨_, rfl, _, _, rfl, rfl, _, rfl, r, a.CR, dx1, _, _, rfl, hx2, T.clR, T.nRp, rf_place, _, _, rfl, fun e => ?_, fun e => ?_⟩
      · have hpos : 0 ≤ sgnI (pk t p1) := of_decide_eq_true e
        obtain ⟨c, s0, hc, hs⟩ : ∃ c s0, t[p1]? = some c ∧ Quire.signAt c = some s0 := by
          cases z : t[p1]? with
          | none => rw [pk_none z, sgn_end] at hpos; omega
          | some c =>
            rw [pk_some z, sgn_ok] at hpos
            cases z2 : Quire.signAt c with
            | none => rw [z2] at hpos; dsimp only at hpos; omega
            | some x => exact ⟨c, x, rfl, z2⟩
        have hv : sgnI (pk t p1) = (s0 : Int) := by rw [pk_some hc, sgn_ok, hs]
        rw [drop_some hc] at q1
        dsimp only at q1
        rw [hs] at q1
        dsimp only at q1
        rw [hv]
        refine ⟨_, rfl, r, dx1, _, rfl, hx2, rfl, r, tl, dx1, p1, rfl, hx2, ?_⟩
        refine adv (a := a) (fun H' => _) fun H3 k3 r3 => ?_
        have k03 := k2.trans k3
        have last : ∀ b : Bool, b = !decide (toldAt t p = true ∧ (n < 2 ∨ Quire.TIMES < n)) → spCheck a [.bl b, .int (p : Nat)] H3 (fun _ H4 => tRet (tTup (tCons (tVar 4) (tCons (tVar 3) tNil))) { nx := fun _ H' => Q .non H', rt := Q } [some (.ref r), some (.int (p : Nat)), some (.bl (toldAt t p)), some (.int (n : Nat)), some (.int (s0 : Nat))] H4) E := by
          intro b hb
          refine ⟨b, _, rfl, fun e2 => ?_, fun e2 => ?_⟩
          · rw [if_neg (by rw [hb] at e2; simpa only [Bool.not_eq_true', decide_eq_false_iff_not] using e2)] at q1
            refine ⟨_, rfl, _, rfl, by show 2 ≤ sizeLine; decide, fun sg hsg => ?_⟩
            obtain ⟨dx3, hx3⟩ := r3
            exact q1 _ (k03.trans (Kb.new hsg)) ⟨dx3, by rw [upd_ne (ne_of_none hx3 hsg)]; exact hx3⟩ sg upd_same
          · rw [if_pos (by rw [hb] at e2; simpa only [Bool.not_eq_false', decide_eq_true_eq] using e2)] at q1
            exact q1.of k03 (by simp)
        refine ⟨_, rfl, _, rfl, _, rfl, ?_⟩
        cases ht : toldAt t p with
        | false =>
          rw [ht] at last
          refine iteT ?_
          exact ⟨_, rfl, last _ (by simp)⟩
        | true =>
          rw [ht] at last
          refine iteF ?_
          refine ⟨_, rfl, _, _, rfl, rfl, _, rfl, ?_⟩
          refine ite2 (fun e3 => ?_) fun e3 => ?_
          · have h2 : 2 ≤ n := by have := of_decide_eq_true e3; omega
            refine ⟨_, _, rfl, rfl, _, rfl, last _ ?_⟩
            rw [Bool.eq_iff_iff]
            simp [Quire.TIMES]
            omega
          · have h2 : ¬ 2 ≤ n := fun z => e3 (decide_eq_true (by omega))
            refine ⟨_, rfl, last _ ?_⟩
            rw [Bool.eq_iff_iff]
            simp
            omega
      · have hq : (match t.drop p1 with
            | [] => .error p1
            | c :: u => match Quire.signAt c with
              | none => .error p1
              | some s => if toldAt t p = true ∧ (n < 2 ∨ Quire.TIMES < n) then .error p else .ok (⟨s, n⟩, p1 + 1, u) : Quire.Rd Quire.Sig) = .error p1 := by
          have hneg : ¬ 0 ≤ sgnI (pk t p1) := of_decide_eq_false e
          cases z : t[p1]? with
          | none => rw [drop_none z]
          | some c =>
            rw [drop_some z]
            dsimp only
            rw [pk_some z, sgn_ok] at hneg
            cases z2 : Quire.signAt c with
            | none => rfl
            | some x => rw [z2] at hneg; exact (hneg (Int.natCast_nonneg _)).elim
        rw [hq] at q1
        exact q1.of k2 (by simp)
    cases ht : toldAt t p with
    | false =>
      rw [ht] at q rest
      refine iteF ?_
      exact rest 1 p H Kb.refl ⟨dx, hx⟩ q
    | true =>
      rw [ht] at q rest
      rw [if_pos rfl] at q
      refine iteT ?_
      refine ⟨_, rfl, r, dx, _, rfl, hx, rfl, r, tl, a.dg, t, digitsL, Quire.digit, p, rfl, R, T.dgS, by decide, dig_dec, ?_⟩
      cases z : Quire.number Quire.digit p (t.drop p) with
      | error e => rw [z] at q; exact q
      | ok v =>
        obtain ⟨n, p1, u⟩ := v
        have hu := num_drop z
        subst hu
        rw [z] at q
        intro H1 k1 r1
        exact rest n p1 H1 k1 r1 q
end
end Pg
end
section
namespace Mq
open Quire
theorem chain_ne (s : Sig) (n : Nat) : s.chain n ≠ [] := by
  cases n <;> simp [Sig.chain]
theorem chain_snoc : ∀ (k : Nat) (s x : Sig), (s.chain k).length = k + 1 → (s.chain k).getLast? = some x → s.chain (k + 1) = s.chain k ++ (match x.next with
    | some y => [y]
    | none => [])
  | 0, s, x, _, h => by
    have e : s = x := by simpa [Sig.chain] using h
    subst e
    show s :: (match s.next with | some t => t.chain 0 | none => []) = [s] ++ _
    cases s.next <;> rfl
  | k + 1, s, x, hl, h => by
    show s :: (match s.next with | some t => t.chain (k + 1) | none => []) = (s :: (match s.next with | some t => t.chain k | none => [])) ++ _
    rw [show s.chain (k + 1) = s :: (match s.next with | some t => t.chain k | none => []) from rfl] at hl h
    cases e : s.next with
    | none => rw [e] at hl; simp at hl
    | some t =>
      rw [e] at hl h
      dsimp only at hl h ⊢
      have hl' : (t.chain k).length = k + 1 := by simpa using hl
      have h' : (t.chain k).getLast? = some x := by
        rw [List.getLast?_cons] at h
        cases z : (t.chain k).getLast? with
        | none => exact absurd (List.getLast?_eq_none_iff.mp z) (chain_ne t k)
        | some y => rw [z] at h; simpa using h
      rw [chain_snoc k t x hl' h']
      rfl
theorem chain_take : ∀ (n k : Nat) (s : Sig), k ≤ n → s.chain k = (s.chain n).take (k + 1)
  | 0, k, s, h => by
    have : k = 0 := by omega
    subst this
    simp [Sig.chain]
  | n + 1, 0, s, _ => by
    show [s] = (s :: _).take 1
    rfl
  | n + 1, k + 1, s, h => by
    show s :: (match s.next with | some t => t.chain k | none => []) = (s :: (match s.next with | some t => t.chain n | none => [])).take (k + 1 + 1)
    rw [List.take_succ_cons]
    congr 1
    cases s.next with
    | none => simp
    | some t => exact chain_take n k t (by omega)
def key (s : Sig) : Nat := s.times * 23 + s.sign % 23
theorem next_key {s t : Sig} (h : s.next = some t) : key t = key s + 1 := by
  unfold Sig.next LETTERS at h
  unfold key
  by_cases h1 : 2 * 23 ≤ s.sign
  · rw [if_pos h1] at h; cases h
  · rw [if_neg h1] at h
    by_cases h2 : s.sign % 23 + 1 < 23
    · rw [if_pos h2] at h
      have h := Option.some.inj h
      rw [← h]
      dsimp only
      omega
    · rw [if_neg h2] at h
      by_cases h3 : s.times < TIMES
      · rw [if_pos h3] at h
        have h := Option.some.inj h
        rw [← h]
        dsimp only
        omega
      · rw [if_neg h3] at h; cases h
theorem next_times {s t : Sig} (h : s.next = some t) (hs : s.times ≤ 99) : t.times ≤ 99 := by
  unfold Sig.next at h
  by_cases h1 : 2 * LETTERS ≤ s.sign
  · rw [if_pos h1] at h; cases h
  · rw [if_neg h1] at h
    by_cases h2 : s.sign % LETTERS + 1 < LETTERS
    · rw [if_pos h2] at h
      have h := Option.some.inj h
      rw [← h]; exact hs
    · rw [if_neg h2] at h
      by_cases h3 : s.times < TIMES
      · rw [if_pos h3] at h
        have h := Option.some.inj h
        rw [← h]; exact h3
      · rw [if_neg h3] at h; cases h
theorem chain_key : ∀ (n j : Nat) (s x : Sig), (s.chain n)[j]? = some x → key x = key s + j
  | 0, j, s, x, h => by
    cases j with
    | zero => simp [Sig.chain] at h; rw [h]; rfl
    | succ j => simp [Sig.chain] at h
  | n + 1, j, s, x, h => by
    rw [show s.chain (n + 1) = s :: (match s.next with | some t => t.chain n | none => []) from rfl] at h
    cases j with
    | zero => simp at h; rw [h]; rfl
    | succ j =>
      rw [List.getElem?_cons_succ] at h
      cases e : s.next with
      | none => rw [e] at h; simp at h
      | some t =>
        rw [e] at h
        have := chain_key n j t x h
        have := next_key e
        omega
theorem chain_times : ∀ (n : Nat) (s : Sig), s.times ≤ 99 → ∀ x ∈ s.chain n, x.times ≤ 99
  | 0, s, hs, x, h => by simp [Sig.chain] at h; rw [h]; exact hs
  | n + 1, s, hs, x, h => by
    rw [show s.chain (n + 1) = s :: (match s.next with | some t => t.chain n | none => []) from rfl] at h
    rcases List.mem_cons.mp h with h | h
    · rw [h]; exact hs
    · cases e : s.next with
      | none => rw [e] at h; simp at h
      | some t => rw [e] at h; exact chain_times n t (next_times e hs) x h
def betw (ss : List Sig) (s t : Sig) : Option (List Sig) := ((List.range GATHERINGS).find? fun (n : Nat) => decide (1 ≤ n) && (decide (ss.length + n + 1 ≤ GATHERINGS) && ((s.chain n).length == n + 1 && (s.chain n).getLast? == some t))).bind fun (n : Nat) => if (s.chain n).any (fun x => ss.contains x) = true then none else some (s.chain n)
theorem betw_eq (m : Make) (s t : Sig) : between m s t = betw (m.map Gath.sig) s t := by
  unfold between betw taken
  rw [List.length_map]
structure Walk (ss : List Sig) (s t : Sig) (k : Nat) : Prop where
  full : (s.chain k).length = k + 1
  free : ∀ x ∈ s.chain k, ss.contains x = false
  few : ss.length + k + 1 ≤ 48
  not : ∀ j, 1 ≤ j → j < k → (s.chain k)[j]? ≠ some t
theorem Walk.upto {ss : List Sig} {s t : Sig} {k n : Nat} (w : Walk ss s t k) (h : n ≤ k) : (s.chain n).getLast? = (s.chain k)[n]? := by
  rw [chain_take k n s h, List.getLast?_take]
  have hf := w.full
  simp
  rw [List.getElem?_eq_getElem (by omega)]
  rfl
theorem Walk.done {ss : List Sig} {s t : Sig} {k : Nat} (w : Walk ss s t k) (h1 : 1 ≤ k) (h2 : (s.chain k).getLast? = some t) : betw ss s t = some (s.chain k) := by
  have e : ((List.range GATHERINGS).find? fun (n : Nat) => decide (1 ≤ n) && (decide (ss.length + n + 1 ≤ GATHERINGS) && ((s.chain n).length == n + 1 && (s.chain n).getLast? == some t))) = some k := by
    rw [List.find?_range_eq_some]
    have hf := w.few
    refine ⟨?_, ?_, fun j hj => ?_⟩
    · simp [h1, w.full, h2, GATHERINGS]; omega
    · simp [GATHERINGS]; omega
    · by_cases hj1 : 1 ≤ j
      · have := w.not j hj1 hj
        rw [← w.upto (Nat.le_of_lt hj)] at this
        have e2 : ((s.chain j).getLast? == some t) = false := by simpa using this
        rw [e2]; simp
      · have : decide (1 ≤ j) = false := decide_eq_false hj1
        rw [this]; rfl
  unfold betw
  rw [e]
  show (if (s.chain k).any (fun x => ss.contains x) = true then none else some (s.chain k)) = _
  rw [if_neg]
  intro h
  obtain ⟨x, hx, hc⟩ := List.any_eq_true.mp h
  rw [w.free x hx] at hc
  cases hc
theorem Walk.none_of {ss : List Sig} {s t : Sig} {k : Nat} (w : Walk ss s t k) (h1 : k = 0 ∨ (s.chain k).getLast? ≠ some t)
    (h2 : ∀ n, k < n → (s.chain n).length = n + 1 → ss.length + n + 1 ≤ 48 → (s.chain n).any (fun x => ss.contains x) = true) : betw ss s t = none := by
  unfold betw
  cases e : ((List.range GATHERINGS).find? fun (n : Nat) => decide (1 ≤ n) && (decide (ss.length + n + 1 ≤ GATHERINGS) && ((s.chain n).length == n + 1 && (s.chain n).getLast? == some t))) with
  | none => rfl
  | some n =>
    have hp := List.find?_some e
    simp only [Bool.and_eq_true, decide_eq_true_eq, beq_iff_eq] at hp
    obtain ⟨p1, p2, p3, p4⟩ := hp
    show (if (s.chain n).any (fun x => ss.contains x) = true then none else some (s.chain n)) = none
    rw [if_pos]
    by_cases hn : k < n
    · exact h2 n hn p3 (by simpa [GATHERINGS] using p2)
    · exfalso
      rw [w.upto (by omega)] at p4
      by_cases hk : n = k
      · subst hk
        rcases h1 with h1 | h1
        · omega
        · rw [← w.upto (Nat.le_refl _)] at p4; exact h1 p4
      · exact w.not n p1 (by omega) p4
theorem Walk.start {ss : List Sig} {s t : Sig} (h : ss.contains s = false) (h2 : ss.length < 48) : Walk ss s t 0 :=
  ⟨rfl, fun x hx => by simp [Sig.chain] at hx; rw [hx]; exact h, by omega, fun j h1 h2 => by omega⟩
theorem Walk.last {ss : List Sig} {s t : Sig} {k : Nat} (w : Walk ss s t k) : ∃ x, (s.chain k).getLast? = some x ∧ (s.chain k)[k]? = some x := by
  have hf := w.full
  refine ⟨(s.chain k)[k], ?_, List.getElem?_eq_getElem (by omega)⟩
  rw [w.upto (Nat.le_refl _), List.getElem?_eq_getElem (by omega)]
theorem Walk.step {ss : List Sig} {s t x y : Sig} {k : Nat} (w : Walk ss s t k) (hx : (s.chain k).getLast? = some x) (hn : x.next = some y) (h1 : k = 0 ∨ x ≠ t) (hy : ss.contains y = false) (hl : ss.length + (k + 1) < 48) :
    Walk ss s t (k + 1) ∧ s.chain (k + 1) = s.chain k ++ [y] := by
  have e : s.chain (k + 1) = s.chain k ++ [y] := by rw [chain_snoc k s x w.full hx, hn]
  refine ⟨⟨by rw [e, List.length_append, w.full]; rfl, fun z hz => ?_, by omega, fun j j1 j2 => ?_⟩, e⟩
  · rw [e] at hz
    rcases List.mem_append.mp hz with hz | hz
    · exact w.free z hz
    · simp at hz; rw [hz]; exact hy
  · have hf := w.full
    rw [e, List.getElem?_append_left (by omega)]
    by_cases hj : j = k
    · subst hj
      rw [← w.upto (Nat.le_refl _), hx]
      rcases h1 with h1 | h1
      · omega
      · intro z; exact h1 (Option.some.inj z)
    · exact w.not j j1 (by omega)
theorem Walk.stuck {ss : List Sig} {s t x : Sig} {k : Nat} (w : Walk ss s t k) (hx : (s.chain k).getLast? = some x) (hn : x.next = none) (h1 : k = 0 ∨ x ≠ t) : betw ss s t = none := by
  refine w.none_of (h1.imp id fun h z => h (by rw [hx] at z; exact Option.some.inj z)) fun n hk hl _ => ?_
  exfalso
  have e : s.chain (k + 1) = s.chain k := by rw [chain_snoc k s x w.full hx, hn]; simp
  have e2 := chain_take n (k + 1) s (by omega)
  rw [e] at e2
  have := congrArg List.length e2
  rw [w.full, List.length_take, hl] at this
  omega
theorem Walk.bad {ss : List Sig} {s t x y : Sig} {k : Nat} (w : Walk ss s t k) (hx : (s.chain k).getLast? = some x) (hn : x.next = some y) (h1 : k = 0 ∨ x ≠ t) (hb : ss.contains y = true ∨ ¬ ss.length + (k + 1) < 48) : betw ss s t = none := by
  refine w.none_of (h1.imp id fun h z => h (by rw [hx] at z; exact Option.some.inj z)) fun n hk hl hf => ?_
  rcases hb with hb | hb
  · have e : s.chain (k + 1) = s.chain k ++ [y] := by rw [chain_snoc k s x w.full hx, hn]
    have e2 := chain_take n (k + 1) s (by omega)
    refine List.any_eq_true.mpr ⟨y, ?_, hb⟩
    apply List.mem_of_mem_take (i := k + 1 + 1)
    rw [← e2, e]
    simp
  · omega
theorem Walk.fresh {ss : List Sig} {s t x y : Sig} {k : Nat} (w : Walk ss s t k) (hx : (s.chain k).getLast? = some x) (hn : x.next = some y) : (s.chain k).contains y = false := by
  rw [Bool.eq_false_iff]
  intro h
  have hm : y ∈ s.chain k := by simpa using h
  obtain ⟨j, hj⟩ := List.getElem?_of_mem hm
  have k1 := chain_key k j s y hj
  rw [w.upto (Nat.le_refl _)] at hx
  have k2 := chain_key k k s x hx
  have k3 := next_key hn
  have := (List.getElem?_eq_some_iff.mp hj).1
  have hf := w.full
  omega
end Mq
end
section
namespace Pg
open PySem PySem.Spec PyProof.Rows L2
theorem u66 {k : Nat} {A : Around} (r : Room k A) : A.units + 66 < cLine := by have := r.un; omega
def SgAll (H : Hp) : List Addr → List Quire.Sig → Prop
  | [], [] => True
  | x :: xs, s :: ss => H x = some (sgT s) ∧ SgAll H xs ss
  | _, _ => False
theorem SgAll.len {H : Hp} : ∀ {xs : List Addr} {ss : List Quire.Sig}, SgAll H xs ss → xs.length = ss.length
  | [], [], _ => rfl
  | _ :: _, _ :: _, h => by simp [SgAll.len h.2]
  | [], _ :: _, h => h.elim
  | _ :: _, [], h => h.elim
theorem SgAll.keep {H H' : Hp} (k : ∀ b s, H b = some (sgT s) → H' b = some (sgT s)) : ∀ {xs : List Addr} {ss : List Quire.Sig}, SgAll H xs ss → SgAll H' xs ss
  | [], [], _ => trivial
  | _ :: _, _ :: _, h => ⟨k _ _ h.1, SgAll.keep k h.2⟩
  | [], _ :: _, h => h.elim
  | _ :: _, [], h => h.elim
theorem SgAll.same {H H' : Hp} (k : Same H H') {xs : List Addr} {ss : List Quire.Sig} (h : SgAll H xs ss) : SgAll H' xs ss := h.keep fun b s e => k _ _ e
theorem SgAll.app {H : Hp} : ∀ {xs ys : List Addr} {ss ts : List Quire.Sig}, SgAll H xs ss → SgAll H ys ts → SgAll H (xs ++ ys) (ss ++ ts)
  | [], _, [], _, _, h => h
  | _ :: _, _, _ :: _, _, h, h2 => ⟨h.1, SgAll.app h.2 h2⟩
  | [], _, _ :: _, _, h, _ => h.elim
  | _ :: _, _, [], _, h, _ => h.elim
theorem SgAll.get {H : Hp} : ∀ {xs : List Addr} {ss : List Quire.Sig} {i : Nat} {s : Quire.Sig}, SgAll H xs ss → ss[i]? = some s → ∃ x, xs[i]? = some x ∧ H x = some (sgT s)
  | [], [], i, s, _, e => by simp at e
  | x :: _, _ :: _, 0, s, h, e => by simp at e; subst e; exact ⟨x, rfl, h.1⟩
  | _ :: _, _ :: _, i + 1, s, h, e => by
    obtain ⟨y, h1, h2⟩ := SgAll.get (i := i) h.2 (by simpa using e)
    exact ⟨y, by simpa using h1, h2⟩
  | [], _ :: _, _, _, h, _ => h.elim
  | _ :: _, [], _, _, h, _ => h.elim
abbrev dS (s : Quire.Sig) : PyData := .tuple [.int s.sign, .int s.times]
theorem dp_sig {K : PySem.W.Frag} {H : Hp} {x : Addr} {s : Quire.Sig} (h : H x = some (sgT s)) : Dp K H (.ref x) (dS s) := .tup (SqT.of h) (.cons (.int _) (.cons (.int _) .nil))
theorem dp_sigs {K : PySem.W.Frag} {H : Hp} : ∀ {xs : List Addr} {ss : List Quire.Sig}, SgAll H xs ss → DpAll K H (xs.map V.ref) (ss.map dS)
  | [], [], _ => .nil
  | _ :: _, _ :: _, h => .cons (dp_sig h.1) (dp_sigs h.2)
  | [], _ :: _, h => h.elim
  | _ :: _, [], h => h.elim
theorem eqv_sig (s t : Quire.Sig) : PyData.eqv (dS s) (dS t) = decide (s = t) := by
  simp only [PyData.eqv, PyData.eqvAll]
  rw [Bool.eq_iff_iff]
  obtain ⟨a, b⟩ := s
  obtain ⟨c, d⟩ := t
  simp
  omega
theorem any_sig (ss : List Quire.Sig) (s : Quire.Sig) : (ss.map dS).any (fun y => PyData.eqv y (dS s)) = ss.contains s := by
  induction ss with
  | nil => rfl
  | cons x r ih =>
    rw [List.map_cons, List.any_cons, ih, eqv_sig, List.contains_cons]
    congr 1
    by_cases e : x = s
    · subst e; simp
    · have e2 : ¬ s = x := fun z => e z.symm
      simp [e, e2]
theorem lay_sigs : ∀ ss : List Quire.Sig, PyData.canLayAll0 (ss.map dS) = true
  | [] => rfl
  | s :: r => by simp [PyData.canLayAll0, PyData.canLay0, lay_sigs r]
section
variable {P : Program} {w : World} {K : PySem.W.Frag} {mg : Str → Option Value} {base : Heap} {a : Adr}
def spBehind (K : PySem.W.Frag) : Sp := fun vs H Q _ => ∃ (x : Addr) (s : Quire.Sig), vs = [.ref x] ∧ H x = some (sgT s) ∧ s.times ≤ 99 ∧ match s.next with
  | none => ∀ H', Same H H' → Q .non H'
  | some t => ∀ H' y, Same H H' → H' y = some (sgT t) → Q (.ref y) H'
theorem sc_behind : FnScope ["signature", "sign", "times"] ["signature"] (defScope s_signature_behind) := ⟨rfl, rfl, rfl, by decide +kernel, rfl, by decide +kernel, by decide +kernel⟩
theorem ok_behind (T : Txt K mg a) (d : Df K mg "signature_behind" s_signature_behind ["signature"]) : Ok P w K mg base CX0 1 "signature_behind" ["signature"] (spBehind K) := by
  refine d.ok fun f fd F => ?_
  refine F.ok sc_behind (fun vs H Q E h => ?_) (fun cdv A outer s H vs Q E hr h => ?_)
  · obtain ⟨x, _, rfl, _⟩ := h
    rfl
  · obtain ⟨x, sg, rfl, hx, ht, q⟩ := h
    refine ⟨_, pss_cons (ps_set (i := 1) sc_behind.nd rfl (Or.inl rfl) (pe_ix ix_tup (pv 0) pe_int (fun _ _ => rfl)))
      (pss_cons (ps_set (i := 2) sc_behind.nd rfl (Or.inl rfl) (pe_ix ix_tup (pv 0) pe_int (fun _ _ => rfl)))
      (pss_cons (ps_if (pt_cmpR op_ge (pv 1) (pe_gi T.FIRST_OTHER_SIGN) (nomark _)) (pss_one (ps_ret pe_non)) pss_nil)
      (pss_cons (ps_if (pt_cmpR op_notIn_seq (pv 1) (pe_tup (pa_cons (pe_op op_sub (pe_gi T.FIRST_SMALL_SIGN) pe_int) (pa_cons (pe_op op_sub (pe_gi T.FIRST_OTHER_SIGN) pe_int) pa_nil))) (by with_unfolding_all rfl))
        (pss_one (ps_ret (pe_tup (pa_cons (pe_op op_add (pv 1) pe_int) (pa_cons (pv 2) pa_nil))))) pss_nil)
      (pss_cons (ps_if (pt_cmpR op_eq (pv 2) (pe_gi T.MOST_TIMES) (nomark _)) (pss_one (ps_ret pe_non)) pss_nil)
      (pss_one (ps_ret (pe_tup (pa_cons (pe_op op_sub (pe_op op_add (pv 1) pe_int) (pe_gi T.LETTERS_OF_A_KIND)) (pa_cons (pe_op op_add (pv 2) pe_int) pa_nil))))))))), ?_⟩
    refine ⟨_, rfl, x, _, _, _, rfl, rfl, SqT.of hx, atI_nat (j := 0) rfl, _, rfl, x, _, _, _, rfl, rfl, SqT.of hx, atI_nat (j := 1) rfl, ?_⟩
    refine ⟨_, rfl, _, _, rfl, rfl, _, rfl, ?_⟩
    refine ite2 (fun e => ?_) fun e => ?_
    · have h1 : 2 * Quire.LETTERS ≤ sg.sign := by have := of_decide_eq_true e; unfold Quire.LETTERS; omega
      rw [show sg.next = none by unfold Quire.Sig.next; rw [if_pos h1]] at q
      exact q H (Same.refl H)
    · have h1 : ¬ 2 * Quire.LETTERS ≤ sg.sign := fun z => e (decide_eq_true (by unfold Quire.LETTERS at z; omega))
      refine ⟨_, rfl, _, _, rfl, rfl, _, _, rfl, rfl, by show 2 ≤ sizeLine; decide, fun tt ht' => ⟨tt, _, rfl, .inr (SqT.of upd_same), rfl, rfl, _, rfl, ?_⟩⟩
      have s1 : Same H (upd H tt (.tup [.int (23 - 1), .int (46 - 1)])) := Same.new ht'
      have hin : inV (V.int (sg.sign : Nat)) [.int (23 - 1), .int (46 - 1)] = decide (¬ sg.sign % Quire.LETTERS + 1 < Quire.LETTERS) := by
        rw [in2, Bool.eq_iff_iff]
        simp only [decide_eq_true_eq]
        unfold Quire.LETTERS at h1 ⊢
        omega
      generalize upd H tt (.tup [.int (23 - 1), .int (46 - 1)]) = H1 at s1
      rw [hin]
      refine ite2 (fun e2 => ?_) fun e2 => ?_
      · have h2 : sg.sign % Quire.LETTERS + 1 < Quire.LETTERS := by simpa using e2
        rw [show sg.next = some { sg with sign := sg.sign + 1 } by unfold Quire.Sig.next; rw [if_neg h1, if_pos h2]] at q
        refine ⟨_, rfl, _, _, rfl, rfl, _, rfl, by show 2 ≤ sizeLine; decide, fun y hy => ?_⟩
        exact q _ y (s1.trans (Same.new hy)) upd_same
      · have h2 : ¬ sg.sign % Quire.LETTERS + 1 < Quire.LETTERS := by simpa using e2
        refine ⟨_, rfl, rfl, _, rfl, ?_⟩
        refine ite2 (fun e3 => ?_) fun e3 => ?_
        · have h3 : ¬ sg.times < Quire.TIMES := by
            have z : V.int (sg.times : Nat) = V.int 99 := of_decide_eq_true e3
            have := V.int.inj z
            unfold Quire.TIMES; omega
          rw [show sg.next = none by unfold Quire.Sig.next; rw [if_neg h1, if_neg h2, if_neg h3]] at q
          exact q H1 s1
        · have h3 : sg.times < Quire.TIMES := by
            have z : ¬ V.int (sg.times : Nat) = V.int 99 := fun y => e3 (decide_eq_true y)
            have : sg.times ≠ 99 := fun y => z (by rw [y]; rfl)
            unfold Quire.TIMES; omega
          rw [show sg.next = some ⟨sg.sign + 1 - Quire.LETTERS, sg.times + 1⟩ by unfold Quire.Sig.next; rw [if_neg h1, if_neg h2, if_pos h3]] at q
          refine ⟨_, rfl, _, _, rfl, rfl, _, _, rfl, rfl, _, rfl, _, _, rfl, rfl, by show 2 ≤ sizeLine; decide, fun y hy => ?_⟩
          refine q _ y (s1.trans (Same.new hy)) ?_
          rw [upd_same]
          have hs : 22 ≤ sg.sign := by unfold Quire.LETTERS at h2; omega
          unfold sgT
          dsimp only
          rw [show ((sg.sign + 1 - Quire.LETTERS : Nat) : Int) = (sg.sign : Int) + 1 - 23 by unfold Quire.LETTERS; omega]
          rfl
def spFree (K : PySem.W.Frag) : Sp := fun vs H Q _ => ∃ (x l : Addr) (s : Quire.Sig) (ads : List Addr) (ss : List Quire.Sig), vs = [.ref x, .ref l] ∧ H x = some (sgT s) ∧ H l = some (.lst (ads.map V.ref)) ∧ SgAll H ads ss ∧ Q (.bl (!ss.contains s && decide (ss.length < 48))) H
theorem sc_free : FnScope ["signature", "taken"] ["signature", "taken"] (defScope s_is_free) := ⟨rfl, rfl, rfl, by decide +kernel, rfl, by decide +kernel, by decide +kernel⟩
theorem ok_free (T : Txt K mg a) (d : Df K mg "is_free" s_is_free ["signature", "taken"]) : Ok P w K mg base CX0 1 "is_free" ["signature", "taken"] (spFree K) := by
  refine d.ok fun f fd F => ?_
  refine F.ok sc_free (fun vs H Q E h => ?_) (fun cdv A outer s H vs Q E hr h => ?_)
  · obtain ⟨x, _, _, _, _, rfl, _⟩ := h
    rfl
  · obtain ⟨x, l, sg, ads, ss, rfl, hx, hl, hs, q⟩ := h
    refine ⟨_, pss_one (ps_ret (pe_and (pe_cmpR (op_notInD (u66 hr)) (pv 0) (pv 1) (by with_unfolding_all rfl)) (pe_one (pe_cmpR op_lt (pe_callB call_len_seq (by rfl) T.len PySem.boot_len (pa_cons (pv 1) pa_nil)) (pe_gi T.MOST_GATHERINGS) (nomark _))))), ?_⟩
    refine ⟨_, rfl, _, rfl, dS sg, l, _, _, rfl, dp_sig hx, SqL.of hl, dp_sigs hs, by simp [PyData.canLay0, PyData.canLayAll0], lay_sigs ss, by simp [PyData.depth, PyData.depthAll], ?_⟩
    rw [any_sig]
    refine ⟨_, rfl, ?_⟩
    cases hc : ss.contains sg with
    | true =>
      rw [hc] at q
      exact iteF q
    | false =>
      rw [hc] at q
      refine iteT ?_
      refine ⟨_, rfl, l, _, rfl, .inl (SqL.of hl), _, _, rfl, rfl, ?_⟩
      rw [List.length_map, hs.len]
      have e : decide ((ss.length : Int) < 48) = (!false && decide (ss.length < 48)) := by
        rw [Bool.eq_iff_iff]; simp; omega
      show Q (.bl (decide ((ss.length : Int) < 48))) H
      rw [e]
      exact q
end
def sigs2 (ss : List Quire.Sig) (s : Quire.Sig) (q : Nat) : List Nat → Quire.Rd (List Quire.Sig)
  | c :: v => if c = Quire.DASH then (match Quire.sigAt (q + 1) v with
      | .error e => .error e
      | .ok (z, r, w) => match Mq.betw ss s z with
        | none => .error (q + 1)
        | some l => .ok (l, r, w))
    else .ok ([s], q, c :: v)
  | [] => .ok ([s], q, [])
def sigsAt (ss : List Quire.Sig) (p : Nat) (t : List Nat) : Quire.Rd (List Quire.Sig) := match Quire.sigAt p t with
  | .error e => .error e
  | .ok (s, q, u) => if ss.contains s = true ∨ 48 ≤ ss.length then .error p else sigs2 ss s q u
theorem sig_drop {t : List Nat} {p q : Nat} {s : Quire.Sig} {u : List Nat} (h : Quire.sigAt p (t.drop p) = .ok (s, q, u)) : u = t.drop q ∧ 1 ≤ s.times ∧ s.times ≤ 99 ∧ s.sign < 50 := by
  rw [sigAt_eq] at h
  have fin : ∀ n p1, (toldAt t p = false → n = 1) → (match t.drop p1 with
      | [] => .error p1
      | c :: u => match Quire.signAt c with
        | none => .error p1
        | some s => if toldAt t p = true ∧ (n < 2 ∨ Quire.TIMES < n) then .error p else .ok (⟨s, n⟩, p1 + 1, u) : Quire.Rd Quire.Sig) = .ok (s, q, u) → u = t.drop q ∧ 1 ≤ s.times ∧ s.times ≤ 99 ∧ s.sign < 50 := by
    intro n p1 hn h
    cases z : t[p1]? with
    | none => rw [drop_none z] at h; cases h
    | some c =>
      rw [drop_some z] at h
      dsimp only at h
      cases z2 : Quire.signAt c with
      | none => rw [z2] at h; cases h
      | some s0 =>
        rw [z2] at h
        dsimp only at h
        by_cases hc : toldAt t p = true ∧ (n < 2 ∨ Quire.TIMES < n)
        · rw [if_pos hc] at h; cases h
        · rw [if_neg hc] at h
          injection h with h; injection h with h1 h; injection h with h2 h3
          have hs0 : s0 < 50 := by
            unfold Quire.signAt List.idxOf? at z2
            have := (List.findIdx?_eq_some_iff_getElem.mp z2).1
            have e : Quire.signChars.length = 50 := by decide +kernel
            omega
          rw [← h3, ← h2, ← h1]
          refine ⟨rfl, ?_, ?_, hs0⟩
          · dsimp only
            cases ht : toldAt t p with
            | false => rw [hn ht]; exact Nat.le_refl _
            | true => have : ¬ (n < 2 ∨ Quire.TIMES < n) := fun z => hc ⟨ht, z⟩; omega
          · dsimp only
            cases ht : toldAt t p with
            | false => rw [hn ht]; decide
            | true => have : ¬ (n < 2 ∨ Quire.TIMES < n) := fun z => hc ⟨ht, z⟩; unfold Quire.TIMES at this; omega
  cases ht : toldAt t p with
  | false =>
    rw [ht] at h fin
    exact fin 1 p (fun _ => rfl) h
  | true =>
    rw [ht] at h fin
    rw [if_pos rfl] at h
    cases z : Quire.number Quire.digit p (t.drop p) with
    | error e => rw [z] at h; cases h
    | ok v =>
      obtain ⟨n, p1, u1⟩ := v
      have hu := num_drop z
      subst hu
      rw [z] at h
      exact fin n p1 (fun z => nomatch z) h
section
variable {P : Program} {w : World} {K : PySem.W.Frag} {mg : Str → Option Value} {base : Heap} {a : Adr}
def spFrom (K : PySem.W.Frag) (a : Adr) : Sp := fun vs H Q E => ∃ (x y l : Addr) (s z : Quire.Sig) (ads : List Addr) (ss : List Quire.Sig) (e : Nat), vs = [.ref x, .ref y, .ref l, .int e] ∧ H x = some (sgT s) ∧ H y = some (sgT z) ∧ H l = some (.lst (ads.map V.ref)) ∧ SgAll H ads ss ∧
  s.times ≤ 99 ∧ ss.contains s = false ∧ ss.length < 48 ∧ match Mq.betw ss s z with
  | none => Flt a E [] H e
  | some L => ∀ H' o ads', Same H H' → H o = none → H' o = some (.lst (ads'.map V.ref)) → SgAll H' ads' L → Q (.ref o) H'
theorem sc_from : FnScope ["first", "last", "taken", "start", "own", "signature"] ["first", "last", "taken", "start"] (defScope s_signatures_from) := ⟨rfl, rfl, rfl, by decide +kernel, rfl, by decide +kernel, by decide +kernel⟩
theorem ok_from (T : Txt K mg a) (OC : Ok P w K mg base (CXR P w) 3 "check" ["right", "place"] (spCheck a)) (OB : Ok P w K mg base CX0 1 "signature_behind" ["signature"] (spBehind K)) (OF : Ok P w K mg base CX0 1 "is_free" ["signature", "taken"] (spFree K))
    (d : Df K mg "signatures_from" s_signatures_from ["first", "last", "taken", "start"]) : Ok P w K mg base (CXR P w) 4 "signatures_from" ["first", "last", "taken", "start"] (spFrom K a) := by
  refine d.ok fun f fd F => ?_
  refine F.okX sc_from (fun vs H Q E h => ?_) (fun cdv A outer s H vs Q E hr h => ?_)
  · obtain ⟨x, _, _, _, _, _, _, _, rfl, _⟩ := h
    rfl
  · obtain ⟨x, y, l, sg, z, ads, ss, e0, rfl, hx, hy, hl, hs, ht, hc, hn, q⟩ := h
    refine ⟨_, pss_cons (ps_set (i := 4) sc_from.nd rfl (Or.inl rfl) (pe_lst (pa_cons (pv 0) pa_nil)))
      (pss_cons (ps_while ownX (pw_or (pt_cmpR op_eq (pe_callB call_len_seq (by rfl) T.len PySem.boot_len (pa_cons (pv 4) pa_nil)) pe_int (nomark _)) (pw_or1 (pt_cmpR (op_neD hr.units) (pe_ix ix_list (pv 4) (pe_un un_neg pe_int) (fun _ _ => rfl)) (pv 1) (nomark _)))).pt
        (pss_cons (ps_set (i := 5) sc_from.nd rfl (Or.inl rfl) (pe_f OB hr pass0 (pa_cons (pe_ix ix_list (pv 4) (pe_un un_neg pe_int) (fun _ _ => rfl)) pa_nil)))
        (pss_cons (ps_expr (pe_f OC hr passX (pa_cons (pe_and (pe_cmpR op_notN (pv 5) pe_non (nomark _)) (pe_one (pe_f OF hr pass0 (pa_cons (pv 5) (pa_cons (pe_op op_cat (pv 2) (pv 4)) pa_nil))))) (pa_cons (pv 3) pa_nil))))
        (pss_one (ps_expr (pe_bm PySem.F.plainAttrs_list PySem.F.slot_list_append PySem.F.type_list_append mt_append (pv 4) (pa_cons (pv 5) pa_nil)))))))
      (pss_one (ps_ret (pv 4)))), ?_⟩
    refine ⟨_, rfl, by show 1 ≤ sizeLine; decide, fun o ho => ?_⟩
    refine ⟨fun m σ H' => ∃ k v, ∃ ads' : List Addr, m = 48 - k ∧ σ = [some (.ref x), some (.ref y), some (.ref l), some (.int (e0 : Nat)), some (.ref o), v] ∧ Same H H' ∧ H' o = some (.lst (ads'.map V.ref)) ∧ SgAll H' ads' (sg.chain k) ∧ Mq.Walk ss sg z k,
      ⟨48, 0, none, [x], rfl, rfl, Same.new ho, upd_same, ⟨Same.new ho _ _ hx, trivial⟩, Mq.Walk.start hc hn⟩, ?_⟩
    rintro m σ H1 ⟨k, v, ads1, rfl, rfl, s1, h1, a1, W⟩
    have hlen : ads1.length = k + 1 := by rw [a1.len, W.full]
    obtain ⟨xs, hx1, hx2⟩ := W.last
    obtain ⟨xa, hxa, hxs⟩ := a1.get hx2
    have hat : atI (ads1.map V.ref) (-1) = some (V.ref xa) := by
      unfold atI ixN
      rw [List.length_map, hlen]
      rw [if_neg (by omega), if_pos (by omega)]
      show (ads1.map V.ref)[(-1 + ((k + 1 : Nat) : Int)).toNat]? = _
      rw [show (-1 + ((k + 1 : Nat) : Int)).toNat = k by omega, List.getElem?_map, hxa]
      rfl
    have hxt : xs.times ≤ 99 := Mq.chain_times k sg ht xs (List.mem_of_getElem? hx2)
    have turn : (k = 0 ∨ xs ≠ z) → ∀ N : L2.St → Hp → Prop, (∀ σ' H', (∃ m', m' < 48 - k ∧ ∃ k v, ∃ ads' : List Addr, m' = 48 - k ∧ σ' = [some (.ref x), some (.ref y), some (.ref l), some (.int (e0 : Nat)), some (.ref o), v] ∧ Same H H' ∧ H' o = some (.lst (ads'.map V.ref)) ∧ SgAll H' ads' (sg.chain k) ∧ Mq.Walk ss sg z k) → N σ' H') →
        tSeq (tAsg (tCall (spBehind K) [] E0 (tCons (tOp (rIxL K) (tVar 4) (tUn (rU fun i => .int (-i)) (tC (.int 1)))) tNil)) (gName 5))
          (tSeq (tDrop (tCall (spCheck a) [] E (tCons (tAndV (tOp (fun x y H Q => y = .non ∧ Q (.bl (!decide (x = .non))) H) (tVar 5) (tC .non)) (tCall (spFree K) [] E0 (tCons (tVar 5) (tCons (tOp rCat (tVar 2) (tVar 4)) tNil)))) (tCons (tVar 3) tNil))))
          (tDrop (tBM K "list" rAppend (tVar 4) (tCons (tVar 5) tNil)))) { nx := N, rt := Q, bk := tRet (tVar 4) { nx := fun _ H' => Q .non H', rt := Q }, ct := N } [some (.ref x), some (.ref y), some (.ref l), some (.int (e0 : Nat)), some (.ref o), v] H1 := by
      intro h0 N hN
      refine ⟨_, rfl, _, rfl, o, _, _, _, rfl, rfl, SqL.of h1, hat, xa, xs, rfl, hxs, hxt, ?_⟩
      cases hnx : xs.next with
      | none =>
        intro H2 s2
        refine ⟨_, rfl, rfl, _, rfl, iteF ?_⟩
        refine ⟨_, rfl, _, _, rfl, (fun e => nomatch e), fun _ => ?_⟩
        rw [W.stuck hx1 hnx h0] at q
        exact q.ofS (s1.trans s2)
      | some yn =>
        intro H2 ya s2 hya
        refine ⟨_, rfl, rfl, _, rfl, ?_⟩
        refine (if_pos (by simp)).mpr ?_
        have s12 := s1.trans s2
        refine ⟨_, rfl, _, rfl, _, rfl, l, o, _, _, rfl, rfl, s12 _ _ hl, s2 _ _ h1, ?_, fun c hc' => ?_⟩
        · rw [List.length_map, List.length_map, hs.len, hlen]
          exact Nat.le_trans W.few (by decide)
        · have s3 : Same H2 (upd H2 c (.lst (ads.map V.ref ++ ads1.map V.ref))) := Same.new hc'
          have hcat : upd H2 c (.lst (ads.map V.ref ++ ads1.map V.ref)) c = some (.lst ((ads ++ ads1).map V.ref)) := by rw [upd_same, List.map_append]
          generalize upd H2 c (.lst (ads.map V.ref ++ ads1.map V.ref)) = H3 at s3 hcat
          have s13 := s12.trans s3
          refine ⟨ya, c, yn, ads ++ ads1, ss ++ sg.chain k, rfl, s3 _ _ hya, hcat, (hs.same s13).app (a1.same (s2.trans s3)), _, rfl, _, _, rfl, fun e => ?_, fun e => ?_⟩
          · have e' : ss.contains yn = false ∧ ss.length + (k + 1) < 48 := by
              rw [Bool.and_eq_true, decide_eq_true_eq, List.length_append, W.full] at e
              refine ⟨?_, e.2⟩
              have e1 := e.1
              rw [Bool.not_eq_true'] at e1
              rw [List.contains_append, Bool.or_eq_false_iff] at e1
              exact e1.1
            obtain ⟨W', ec⟩ := W.step hx1 hnx h0 e'.1 e'.2
            refine ⟨_, rfl, .inl ⟨rfl, _, SqL.of (s3 _ _ (s2 _ _ h1))⟩, _, rfl, o, _, _, rfl, rfl, s3 _ _ (s2 _ _ h1), ?_, ?_⟩
            · rw [List.length_map, hlen]
              exact Nat.lt_of_lt_of_le (show k + 1 < 48 by omega) (by decide)
            · have s4 : ∀ b ob, b ≠ o → H3 b = some ob → upd H3 o (.lst (ads1.map V.ref ++ [V.ref ya])) b = some ob := fun b ob nb hb => by rw [upd_ne nb]; exact hb
              have hy3 : H3 ya = some (sgT yn) := s3 _ _ hya
              have no : ∀ b sg', H3 b = some (sgT sg') → b ≠ o := fun b sg' hb e => by
                rw [e, s3 _ _ (s2 _ _ h1)] at hb; cases hb
              refine hN _ _ ⟨48 - (k + 1), by have := W'.few; omega, k + 1, _, ads1 ++ [ya], rfl, rfl, fun b ob hb => ?_, ?_, ?_, W'⟩
              · rw [upd_ne (ne_of_none hb ho)]; exact s13 _ _ hb
              · rw [upd_same, List.map_append]; rfl
              · rw [ec]
                refine SgAll.app ((a1.same (s2.trans s3)).keep fun b sg' hb => ?_) ⟨?_, trivial⟩
                · exact s4 _ _ (no _ _ hb) hb
                · exact s4 _ _ (no _ _ hy3) hy3
          · rw [W.bad hx1 hnx h0 ?_] at q
            · exact q.ofS s13
            · rw [Bool.and_eq_false_iff, decide_eq_false_iff_not, List.length_append, W.full] at e
              rcases e with e | e
              · rw [Bool.not_eq_false', List.contains_append, W.fresh hx1 hnx, Bool.or_false] at e
                exact .inl e
              · exact .inr e
    refine ⟨_, rfl, o, _, rfl, .inl (SqL.of h1), rfl, _, rfl, ?_⟩
    rw [List.length_map, hlen]
    by_cases hk : k = 0
    · refine (if_pos (by rw [hk]; rfl)).mpr ?_
      refine iteT ?_
      exact ⟨_, fun _ _ h => h, turn (.inl hk) _ fun _ _ h => h⟩
    · refine (if_neg (by simp; omega)).mpr ?_
      refine ⟨_, rfl, _, rfl, o, _, _, _, rfl, rfl, SqL.of h1, hat, _, rfl, dS xs, dS z, dp_sig hxs, dp_sig (s1 _ _ hy), ?_, ?_, _, rfl, ?_⟩
      · simp [SeqAt.shaped, PyData.canLay0, PyData.canLayAll0, PyData.depth, PyData.depthAll]
      · simp [SeqAt.shaped, PyData.canLay0, PyData.canLayAll0, PyData.depth, PyData.depthAll]
      · rw [eqv_sig]
        by_cases hz : xs = z
        · refine (if_neg (by simp [hz])).mpr ?_
          subst hz
          rw [W.done (by omega) hx1] at q
          exact ⟨_, rfl, q H1 o ads1 s1 ho h1 a1⟩
        · refine (if_pos (by simp [hz])).mpr ?_
          exact ⟨_, fun _ _ h => h, turn (.inr hz) _ fun _ _ h => h⟩
end
theorem kr {a : Adr} {H H' : Hp} {r tl : Addr} {p : Nat} (R : RdAt a H r tl p) (k : Kb [r] H H') {b : Addr} {o : HO} (e : H b = some o) (n : ∀ C dx fs, o ≠ .ins C dx fs) : H' b = some o := by
  obtain ⟨dx, hx⟩ := R
  refine k b o e ?_
  intro z
  have : b = r := by simpa using z
  subst this
  rw [hx] at e
  exact n _ _ _ (Option.some.inj e).symm
theorem kr_sgs {a : Adr} {H H' : Hp} {r tl : Addr} {p : Nat} (R : RdAt a H r tl p) (k : Kb [r] H H') {xs : List Addr} {ss : List Quire.Sig} (h : SgAll H xs ss) : SgAll H' xs ss :=
  h.keep fun b s e => kr R k e (by intro _ _ _ z; cases z)
theorem rd_new {a : Adr} {H : Hp} {r tl o : Addr} {p : Nat} {u : HO} (R : RdAt a H r tl p) (h : H o = none) : RdAt a (upd H o u) r tl p := by
  obtain ⟨dx, hx⟩ := R
  exact ⟨dx, by rw [upd_ne (ne_of_none hx h)]; exact hx⟩
theorem rd_same {a : Adr} {H H' : Hp} {r tl : Addr} {p : Nat} (R : RdAt a H r tl p) (h : Same H H') : RdAt a H' r tl p := by
  obtain ⟨dx, hx⟩ := R
  exact ⟨dx, h _ _ hx⟩
theorem kb_none {S : List Addr} {H H' : Hp} (k : Kb S H H') {o : Addr} (h : H' o = none) (n : o ∉ S) : H o = none := by
  cases e : H o with
  | none => rfl
  | some u => rw [k o u e n] at h; cases h
section
variable {P : Program} {w : World} {K : PySem.W.Frag} {mg : Str → Option Value} {base : Heap} {a : Adr}
def spReadSigs (K : PySem.W.Frag) (a : Adr) : Sp := fun vs H Q E => ∃ (r tl l : Addr) (t : List Nat) (p : Nat) (ads : List Addr) (ss : List Quire.Sig), vs = [.ref r, .ref l] ∧ RT K a H r tl t p ∧ H l = some (.lst (ads.map V.ref)) ∧ SgAll H ads ss ∧
  Rds a E [r] H r tl (sigsAt ss p (t.drop p)) fun L _ H' => ∀ o ads', H' o = some (.lst (ads'.map V.ref)) → SgAll H' ads' L → Q (.ref o) H'
theorem sc_rsigs : FnScope ["reader", "taken", "start", "first", "last"] ["reader", "taken"] (defScope s_read_signatures) := ⟨rfl, rfl, rfl, by decide +kernel, rfl, by decide +kernel, by decide +kernel⟩
theorem ok_rsigs (T : Txt K mg a) (OC : Ok P w K mg base (CXR P w) 3 "check" ["right", "place"] (spCheck a)) (OR : Ok P w K mg base (CXR P w) 5 "read_signature" ["reader"] (spReadSig K a)) (OF : Ok P w K mg base CX0 1 "is_free" ["signature", "taken"] (spFree K))
    (OP : MOk P w K mg base CX0 1 a.CR "peek" ["self"] (spPeek K a)) (OA : MOk P w K mg base CX0 1 a.CR "advance" ["self"] (spAdvance a)) (OM : Ok P w K mg base (CXR P w) 4 "signatures_from" ["first", "last", "taken", "start"] (spFrom K a))
    (d : Df K mg "read_signatures" s_read_signatures ["reader", "taken"]) : Ok P w K mg base (CXR P w) 6 "read_signatures" ["reader", "taken"] (spReadSigs K a) := by
  refine d.ok fun f fd F => ?_
  refine F.okX sc_rsigs (fun vs H Q E h => ?_) (fun cdv A outer s H vs Q E hr h => ?_)
  · obtain ⟨x, _, _, _, _, _, _, rfl, _⟩ := h
    rfl
  · obtain ⟨r, tl, l, t, p, ads, ss, rfl, R, hl, hs, q⟩ := h
    obtain ⟨dx, hx⟩ := R.at_
    refine ⟨_, pss_cons (ps_set (i := 2) sc_rsigs.nd rfl (Or.inl rfl) (pe_fld (pv 0) rfl))
      (pss_cons (ps_set (i := 3) sc_rsigs.nd rfl (Or.inl rfl) (pe_f OR hr passX (pa_cons (pv 0) pa_nil)))
      (pss_cons (ps_expr (pe_f OC hr passX (pa_cons (pe_f OF hr pass0 (pa_cons (pv 3) (pa_cons (pv 1) pa_nil))) (pa_cons (pv 2) pa_nil))))
      (pss_cons (ps_if (pt_cmpR op_ne (pe_mz OP hr pass0 (pv 0)) (pe_gi T.DASH) (nomark _)) (pss_one (ps_ret (pe_lst (pa_cons (pv 3) pa_nil)))) pss_nil)
      (pss_cons (ps_expr (pe_mz OA hr pass0 (pv 0)))
      (pss_cons (ps_set (i := 2) sc_rsigs.nd rfl (Or.inl rfl) (pe_fld (pv 0) rfl))
      (pss_cons (ps_set (i := 4) sc_rsigs.nd rfl (Or.inl rfl) (pe_f OR hr passX (pa_cons (pv 0) pa_nil)))
      (pss_one (ps_ret (pe_f OM hr passX (pa_cons (pv 3) (pa_cons (pv 4) (pa_cons (pv 1) (pa_cons (pv 2) pa_nil))))))))))))), ?_⟩
    refine ⟨_, rfl, r, a.CR, dx, _, _, rfl, hx, T.clR, T.nRp, rf_place, _, rfl, r, tl, t, p, rfl, R, ?_⟩
    unfold sigsAt at q
    cases z : Quire.sigAt p (t.drop p) with
    | error e => rw [z] at q; exact q
    | ok v =>
      obtain ⟨sg, p1, u⟩ := v
      obtain ⟨hu, ht1, ht2, _⟩ := sig_drop z
      subst hu
      rw [z] at q
      dsimp only at q
      intro H1 k1 r1 xa hxa
      have R1 := R.go k1 r1
      have hl1 := kr R.at_ k1 hl (by intro _ _ _ z; cases z)
      have hs1 := kr_sgs R.at_ k1 hs
      obtain ⟨dx1, hx1⟩ := r1
      refine ⟨_, rfl, _, rfl, xa, l, sg, ads, ss, rfl, hxa, hl1, hs1, _, rfl, _, _, rfl, fun e => ?_, fun e => ?_⟩
      · have e' : ¬ (ss.contains sg = true ∨ 48 ≤ ss.length) := by
          rw [Bool.and_eq_true, Bool.not_eq_true', decide_eq_true_eq] at e
          rintro (z | z)
          · rw [e.1] at z; cases z
          · omega
        have ef : ss.contains sg = false ∧ ss.length < 48 := by
          rw [Bool.and_eq_true, Bool.not_eq_true', decide_eq_true_eq] at e
          exact e
        rw [if_neg e'] at q
        refine ⟨_, rfl, r, dx1, _, rfl, hx1, rfl, r, tl, t, p1, rfl, R1, rfl, _, rfl, ?_⟩
        by_cases hd : t[p1]? = some Quire.DASH
        · rw [pk_some hd]
          refine (if_neg (by simp [Quire.DASH])).mpr ?_
          rw [drop_some hd, sigs2, if_pos rfl] at q
          refine ⟨_, rfl, r, dx1, _, rfl, hx1, rfl, r, tl, dx1, p1, rfl, hx1, ?_⟩
          refine adv (a := a) (fun H' => _) fun H2 k2 r2 => ?_
          have R2 := R1.go k2 r2
          have k02 := k1.trans k2
          have hl2 := kr R1.at_ k2 hl1 (by intro _ _ _ z; cases z)
          have hs2 := kr_sgs R1.at_ k2 hs1
          have hxa2 := kr R1.at_ k2 hxa (by intro _ _ _ z; cases z)
          obtain ⟨dx2, hx2⟩ := r2
          refine ⟨_, rfl, r, a.CR, dx2, _, _, rfl, hx2, T.clR, T.nRp, rf_place, _, rfl, r, tl, t, p1 + 1, rfl, R2, ?_⟩
          cases z2 : Quire.sigAt (p1 + 1) (t.drop (p1 + 1)) with
          | error e => rw [z2] at q; exact q.of k02 (by simp)
          | ok v =>
            obtain ⟨sz, p2, u2⟩ := v
            rw [z2] at q
            dsimp only at q
            intro H3 k3 r3 ya hya
            have k03 := k02.trans k3
            have hl3 := kr R2.at_ k3 hl2 (by intro _ _ _ z; cases z)
            have hs3 := kr_sgs R2.at_ k3 hs2
            have hxa3 := kr R2.at_ k3 hxa2 (by intro _ _ _ z; cases z)
            refine ⟨_, rfl, _, rfl, _, rfl, _, rfl, xa, ya, l, sg, sz, ads, ss, p1 + 1, rfl, hxa3, hya, hl3, hs3, ht2, ef.1, ef.2, ?_⟩
            cases z3 : Mq.betw ss sg sz with
            | none => rw [z3] at q; exact q.of k03 (by simp)
            | some L =>
              rw [z3] at q
              intro H4 o ads' s4 ho ho' ha
              exact q H4 (k03.trans s4.kb) (rd_same r3 s4) o ads' ho' ha
        · have hq : sigs2 ss sg p1 (t.drop p1) = .ok ([sg], p1, t.drop p1) := by
            cases z4 : t[p1]? with
            | none => rw [drop_none z4]; rfl
            | some c =>
              rw [drop_some z4, sigs2, if_neg]
              intro z5; subst z5; exact hd z4
          rw [hq] at q
          have hne : pk t p1 ≠ 8211 := by
            intro z4
            unfold pk at z4
            cases z5 : t[p1]? with
            | none => rw [z5] at z4; dsimp only at z4; omega
            | some c =>
              rw [z5] at z4; dsimp only at z4
              apply hd; rw [z5]; congr 1; unfold Quire.DASH; omega
          refine (if_pos (by simp [hne])).mpr ?_
          refine ⟨_, rfl, by show 1 ≤ sizeLine; decide, fun o ho => ?_⟩
          exact q _ (k1.trans (Kb.new ho)) (rd_new ⟨dx1, hx1⟩ ho) o [xa] upd_same ⟨by rw [upd_ne (ne_of_none hxa ho)]; exact hxa, trivial⟩
      · rw [if_pos] at q
        · exact q.of k1 (by simp)
        · rw [Bool.and_eq_false_iff, Bool.not_eq_false', decide_eq_false_iff_not] at e
          exact e.imp id (by omega)
end
def fN : Quire.Fate → Nat
  | .kept => 0
  | .lost => 1
  | .cut => 2
def GpAll (H : Hp) : List Addr → List Quire.Word → Prop
  | [], [] => True
  | x :: xs, w :: ws => H x = some (.lst ((Quire.nums w).map cV)) ∧ GpAll H xs ws
  | _, _ => False
theorem GpAll.len {H : Hp} : ∀ {xs : List Addr} {ss : List Quire.Word}, GpAll H xs ss → xs.length = ss.length
  | [], [], _ => rfl
  | _ :: _, _ :: _, h => by simp [GpAll.len h.2]
  | [], _ :: _, h => h.elim
  | _ :: _, [], h => h.elim
theorem GpAll.keep {H H' : Hp} : ∀ {xs : List Addr} {ss : List Quire.Word}, (∀ b w, b ∈ xs → H b = some (.lst ((Quire.nums w).map cV)) → H' b = some (.lst ((Quire.nums w).map cV))) → GpAll H xs ss → GpAll H' xs ss
  | [], [], _, _ => trivial
  | x :: _, _ :: _, k, h => ⟨k _ _ (List.mem_cons_self ..) h.1, GpAll.keep (fun b w m => k b w (List.mem_cons_of_mem _ m)) h.2⟩
  | [], _ :: _, _, h => h.elim
  | _ :: _, [], _, h => h.elim
theorem GpAll.same {H H' : Hp} (k : Same H H') {xs : List Addr} {ss : List Quire.Word} (h : GpAll H xs ss) : GpAll H' xs ss := h.keep fun b s _ e => k _ _ e
theorem GpAll.app {H : Hp} : ∀ {xs ys : List Addr} {ss ts : List Quire.Word}, GpAll H xs ss → GpAll H ys ts → GpAll H (xs ++ ys) (ss ++ ts)
  | [], _, [], _, _, h => h
  | _ :: _, _, _ :: _, _, h, h2 => ⟨h.1, GpAll.app h.2 h2⟩
  | [], _, _ :: _, _, h, _ => h.elim
  | _ :: _, _, [], _, h, _ => h.elim
theorem GpAll.get {H : Hp} : ∀ {xs : List Addr} {ss : List Quire.Word} {i : Nat} {s : Quire.Word}, GpAll H xs ss → ss[i]? = some s → ∃ x, xs[i]? = some x ∧ H x = some (.lst ((Quire.nums s).map cV))
  | [], [], i, s, _, e => by simp at e
  | x :: _, _ :: _, 0, s, h, e => by simp at e; subst e; exact ⟨x, rfl, h.1⟩
  | _ :: _, _ :: _, i + 1, s, h, e => by
    obtain ⟨y, h1, h2⟩ := GpAll.get (i := i) h.2 (by simpa using e)
    exact ⟨y, by simpa using h1, h2⟩
  | [], _ :: _, _, _, h, _ => h.elim
  | _ :: _, [], _, _, h, _ => h.elim
theorem GpAll.mem {H : Hp} : ∀ {xs : List Addr} {ss : List Quire.Word} {b : Addr}, GpAll H xs ss → b ∈ xs → ∃ w, H b = some (.lst ((Quire.nums w).map cV))
  | x :: _, w :: _, b, h, m => by
    rcases List.mem_cons.mp m with e | m
    · rw [e]; exact ⟨w, h.1⟩
    · exact GpAll.mem h.2 m
  | [], [], _, _, m => absurd m (by simp)
  | [], _ :: _, _, h, _ => h.elim
  | _ :: _, [], _, h, _ => h.elim
structure GA where
  g : Addr
  sg : Addr
  st : Addr
  gp : Addr
  ga : List Addr
def gf (sg : Addr) (n : Nat) (st gp : Addr) : List (Str × V) := [("signature", .ref sg), ("size", .int n), ("states", .ref st), ("gaps", .ref gp)]
theorem gf_sig {sg st gp : Addr} {n : Nat} : (gf sg n st gp).lookup ("signature" : Str) = some (.ref sg) := rfl
theorem gf_size {sg st gp : Addr} {n : Nat} : (gf sg n st gp).lookup ("size" : Str) = some (.int n) := rfl
theorem gf_states {sg st gp : Addr} {n : Nat} : (gf sg n st gp).lookup ("states" : Str) = some (.ref st) := rfl
theorem gf_gaps {sg st gp : Addr} {n : Nat} : (gf sg n st gp).lookup ("gaps" : Str) = some (.ref gp) := rfl
structure GAt (a : Adr) (H : Hp) (x : GA) (G : Quire.Gath) : Prop where
  obj : ∃ dx, H x.g = some (.ins a.CG dx (gf x.sg G.size x.st x.gp))
  sig : H x.sg = some (sgT G.sig)
  st : H x.st = some (.lst ((0 :: G.fates.map fN).map cV))
  gp : H x.gp = some (.lst (x.ga.map V.ref))
  ga : GpAll H x.ga G.puts
  nf : G.fates.length = G.size
  np : G.puts.length = G.size + 1
  sz : G.size ≤ 20
  pl : ∀ w ∈ G.puts, w.length ≤ 21
  tm : G.sig.times ≤ 99
theorem GAt.same {a : Adr} {H H' : Hp} {x : GA} {G : Quire.Gath} (h : GAt a H x G) (k : Same H H') : GAt a H' x G := by
  obtain ⟨dx, e⟩ := h.obj
  exact ⟨⟨dx, k _ _ e⟩, k _ _ h.sig, k _ _ h.st, k _ _ h.gp, h.ga.same k, h.nf, h.np, h.sz, h.pl, h.tm⟩
theorem GAt.fate {a : Adr} {H : Hp} {x : GA} {G : Quire.Gath} (h : GAt a H x G) {k : Nat} (hk : k < G.size) : ((0 :: G.fates.map fN).map cV)[k + 1]? = some (cV (fN (G.fate k))) := by
  have := h.nf
  unfold Quire.Gath.fate
  rw [List.map_cons, List.getElem?_cons_succ, List.getElem?_map, List.getElem?_map, List.getElem?_eq_getElem (by omega), List.getD_eq_getElem?_getD, List.getElem?_eq_getElem (by omega)]
  rfl
theorem GAt.put {a : Adr} {H : Hp} {x : GA} {G : Quire.Gath} (h : GAt a H x G) {k : Nat} (hk : k ≤ G.size) : ∃ b, (x.ga.map V.ref)[k]? = some (.ref b) ∧ H b = some (.lst ((Quire.nums (G.put k)).map cV)) ∧ (G.put k).length ≤ 21 := by
  have := h.np
  have e : G.puts[k]? = some (G.put k) := by
    unfold Quire.Gath.put
    rw [List.getD_eq_getElem?_getD, List.getElem?_eq_getElem (by omega)]
    rfl
  obtain ⟨b, h1, h2⟩ := h.ga.get e
  exact ⟨b, by rw [List.getElem?_map, h1]; rfl, h2, h.pl _ (List.mem_of_getElem? e)⟩
section
variable {P : Program} {w : World} {K : PySem.W.Frag} {mg : Str → Option Value} {base : Heap} {a : Adr}
def spGInit (a : Adr) : Sp := fun vs H Q _ => ∃ (x dx sg : Addr) (n : Nat) (s : Quire.Sig), vs = [.ref x, .ref sg, .int n] ∧ H x = some (.ins a.CG dx []) ∧ H sg = some (sgT s) ∧ n ≤ 20 ∧ s.times ≤ 99 ∧
  ∀ (H' : Hp) (y : GA), y.g = x → y.sg = sg → Kb [x] H H' → H y.st = none → H y.gp = none → (∀ b ∈ y.ga, H b = none) → GAt a H' y (Quire.regular s n) → Q .non H'
theorem sc_ginit : FnScope ["self", "signature", "size", "k"] ["self", "signature", "size"] (defScope s_Gathering_init) := ⟨rfl, rfl, rfl, by decide +kernel, rfl, by decide +kernel, by decide +kernel⟩
theorem ok_ginit (T : Txt K mg a) (d : Di K mg a.CG "Gathering" "Gathering.__init__" s_Gathering_init ["self", "signature", "size"]) : IOk P w K mg base CX0 1 a.CG "Gathering" ["self", "signature", "size"] (spGInit a) := by
  refine d.ok fun f fd F => ?_
  refine F.ok sc_ginit (fun vs H Q E h => ?_) (fun cdv A outer s H vs Q E hr h => ?_)
  · obtain ⟨x, _, _, _, _, rfl, _⟩ := h
    rfl
  · obtain ⟨x, dx, sg, n, s0, rfl, hx, hsg, hn, htm, q⟩ := h
    refine ⟨_, pss_cons (ps_fld (pv 0) (pv 1) rfl) (pss_cons (ps_fld (pv 0) (pv 2) rfl)
      (pss_cons (ps_fld (pv 0) (pe_lc (own := [("k", 3)]) rfl sc_ginit.nd (pi_range1 rfl T.range (pa_cons (pe_op op_add (pv 2) pe_int) pa_nil)) (blkOk_by (by rfl))
        (fun _ _ _ _ _ => pg_name (i := 3) sc_ginit.nd rfl (Or.inl rfl)) (fun _ _ _ _ _ => pts_nil) (fun _ _ _ _ _ => pe_gi T.WHOLE)) rfl)
      (pss_one (ps_fld (pv 0) (pe_lc (own := [("k", 3)]) rfl sc_ginit.nd (pi_range1 rfl T.range (pa_cons (pe_op op_add (pv 2) pe_int) pa_nil)) (blkOk_by (by rfl))
        (fun _ _ _ _ _ => pg_name (i := 3) sc_ginit.nd rfl (Or.inl rfl)) (fun _ _ _ _ _ => pts_nil) (fun _ _ _ _ _ => pe_lst pa_nil)) rfl)))), ?_⟩
    refine ⟨_, rfl, _, rfl, x, a.CG, dx, _, rfl, hx, T.clG, T.nGs, (by show 0 < 1000; decide), ?_⟩
    refine ⟨_, rfl, _, rfl, x, a.CG, dx, _, rfl, upd_same, T.clG, T.nGz, (by show 1 < 1000; decide), ?_⟩
    rw [upd_upd]
    have k1 : Kb [x] H (upd H x (.ins a.CG dx [("signature", .ref sg), ("size", .int n)])) := Kb.put (by simp)
    have e1 : upd H x (.ins a.CG dx [("signature", .ref sg), ("size", .int n)]) x = some (.ins a.CG dx [("signature", .ref sg), ("size", .int n)]) := upd_same
    have eH1 : putF "size" (V.int n) (putF "signature" (V.ref sg) []) = [(("signature" : Str), V.ref sg), ("size", .int n)] := rfl
    rw [eH1]
    have hx1 : ∀ b, upd H x (.ins a.CG dx [("signature", .ref sg), ("size", .int n)]) b = none → H b = none := fun b hb => by
      by_cases e : b = x
      · rw [e, e1] at hb; cases hb
      · rw [upd_ne e] at hb; exact hb
    generalize upd H x (.ins a.CG dx [("signature", .ref sg), ("size", .int n)]) = H1 at k1 e1 hx1
    refine ⟨_, rfl, _, _, rfl, rfl, _, rfl, by omega, by omega, fun D hD => ?_⟩
    rw [show ((n : Int) + 1).toNat = n + 1 by omega]
    refine lc_range (n := n + 1) (fun i H' => Same H1 H' ∧ H' D = some (.lst ((List.replicate i 0).map cV))) ⟨Same.new hD, upd_same⟩ ?_ ?_
    · rintro i H' hi ⟨s1, h1⟩
      refine ⟨rfl, ?_⟩
      unfold tYes
      refine iteT ?_
      refine ⟨_, h1, ?_, fun b o hb => ?_, ?_⟩
      · rw [List.length_map, List.length_replicate]; exact Nat.lt_of_lt_of_le (show i < 22 by omega) (by decide)
      · rw [upd_ne (ne_of_none hb hD)]; exact s1 _ _ hb
      · rw [upd_same, List.replicate_succ', List.map_append]; rfl
    rintro H2 ⟨s2, h2⟩
    refine ⟨_, rfl, x, a.CG, dx, _, rfl, s2 _ _ e1, T.clG, T.nGt, (by show 2 < 1000; decide), ?_⟩
    have hDx : D ≠ x := fun e => by rw [e, e1] at hD; cases hD
    have k3 : Kb [x] H (upd H2 x (.ins a.CG dx [("signature", .ref sg), ("size", .int n), ("states", .ref D)])) := (k1.trans s2.kb).trans (Kb.put (by simp))
    have e3 : upd H2 x (.ins a.CG dx [("signature", .ref sg), ("size", .int n), ("states", .ref D)]) x = some (.ins a.CG dx [("signature", .ref sg), ("size", .int n), ("states", .ref D)]) := upd_same
    have h3 : upd H2 x (.ins a.CG dx [("signature", .ref sg), ("size", .int n), ("states", .ref D)]) D = some (.lst ((List.replicate (n + 1) 0).map cV)) := by rw [upd_ne hDx]; exact h2
    have hx3 : ∀ b, upd H2 x (.ins a.CG dx [("signature", .ref sg), ("size", .int n), ("states", .ref D)]) b = none → H b = none := fun b hb => by
      by_cases e : b = x
      · rw [e, e3] at hb; cases hb
      · rw [upd_ne e] at hb
        exact hx1 b (s2.free hb)
    have eH3 : putF "states" (V.ref D) [(("signature" : Str), V.ref sg), ("size", .int n)] = [(("signature" : Str), V.ref sg), ("size", .int n), ("states", .ref D)] := rfl
    rw [eH3]
    generalize upd H2 x (.ins a.CG dx [("signature", .ref sg), ("size", .int n), ("states", .ref D)]) = H3 at k3 e3 h3 hx3
    refine ⟨_, rfl, _, _, rfl, rfl, _, rfl, by omega, by omega, fun D2 hD2 => ?_⟩
    rw [show ((n : Int) + 1).toNat = n + 1 by omega]
    refine lc_range (n := n + 1) (fun i H' => Same H3 H' ∧ ∃ ga : List Addr, H' D2 = some (.lst (ga.map V.ref)) ∧ GpAll H' ga (List.replicate i []) ∧ ∀ b ∈ ga, H3 b = none) ⟨Same.new hD2, [], upd_same, trivial, by simp⟩ ?_ ?_
    · rintro i H' hi ⟨s1, ga, h1, h4, hfr⟩
      refine ⟨rfl, ?_⟩
      unfold tYes
      refine iteT ?_
      refine ⟨Nat.zero_le _, fun l hl => ?_⟩
      have s5 : Same H' (upd H' l (.lst [])) := Same.new hl
      have hl3 : H3 l = none := s1.free hl
      have hll : upd H' l (.lst []) l = some (.lst []) := upd_same
      generalize upd H' l (.lst []) = H5 at s5 hll
      have nl : l ≠ D2 := fun e => by rw [e, h1] at hl; cases hl
      refine ⟨_, s5 _ _ h1, ?_, fun b o hb => ?_, ga ++ [l], ?_, ?_, fun b hb => ?_⟩
      · rw [List.length_map, h4.len, List.length_replicate]; exact Nat.lt_of_lt_of_le (show i < 22 by omega) (by decide)
      · rw [upd_ne (ne_of_none hb hD2)]; exact s5 _ _ (s1 _ _ hb)
      · rw [upd_same, List.map_append]; rfl
      · rw [List.replicate_succ']
        refine GpAll.app (h4.keep fun b w m hb => ?_) ⟨?_, trivial⟩
        · have nb : b ≠ D2 := fun e => by
            rw [e, h1] at hb
            have z := HO.lst.inj (Option.some.inj hb)
            cases ga with
            | nil => exact absurd m (by simp)
            | cons c r =>
              cases w with
              | nil => cases z
              | cons c' r' => have := (List.cons.inj z).1; cases this
          rw [upd_ne nb]; exact s5 _ _ hb
        · rw [upd_ne nl]; exact hll
      · rcases List.mem_append.mp hb with hb | hb
        · exact hfr b hb
        · have : b = l := by simpa using hb
          rw [this]; exact hl3
    rintro H4 ⟨s4, ga, h4, h5, hfr⟩
    refine ⟨_, rfl, x, a.CG, dx, _, rfl, s4 _ _ e3, T.clG, T.nGg, (by show 3 < 1000; decide), ?_⟩
    have nD2 : D2 ≠ x := fun e => by rw [e, e3] at hD2; cases hD2
    refine q _ ⟨x, sg, D, D2, ga⟩ rfl rfl ((k3.trans s4.kb).trans (Kb.put (by simp))) (hx1 D hD) (hx3 D2 hD2) (fun b hb => hx3 b (hfr b hb)) ⟨⟨dx, upd_same⟩, ?_, ?_, ?_, ?_, ?_, ?_, hn, ?_, htm⟩
    · have n1 : sg ≠ x := fun e => by rw [e, hx] at hsg; cases hsg
      show upd H4 x _ sg = _
      rw [upd_ne n1]
      exact s4 _ _ (k3 _ _ hsg (by simpa using n1))
    · show upd H4 x _ D = _
      rw [upd_ne hDx, s4 _ _ h3]
      unfold Quire.regular
      rw [List.replicate_succ]
      dsimp only
      rw [List.map_replicate]
      rfl
    · show upd H4 x _ D2 = _
      rw [upd_ne nD2]; exact h4
    · refine h5.keep fun b w m hb => ?_
      have nb : b ≠ x := fun e => by rw [e, s4 _ _ e3] at hb; cases hb
      show upd H4 x _ b = _
      rw [upd_ne nb]; exact hb
    · simp [Quire.regular]
    · simp [Quire.regular]
    · intro w hw
      have : w = [] := by simp [Quire.regular] at hw; exact hw
      rw [this]; decide
end
section
variable {P : Program} {w : World} {K : PySem.W.Frag} {mg : Str → Option Value} {base : Heap} {a : Adr}
def spPartnerOf (a : Adr) : Sp := fun vs H Q _ => ∃ (x : GA) (G : Quire.Gath) (k : Nat), vs = [.ref x.g, .int k] ∧ GAt a H x G ∧ Q (.int ((G.size : Int) + 1 - k)) H
theorem sc_pof : FnScope ["gathering", "k"] ["gathering", "k"] (defScope s_partner_of) := ⟨rfl, rfl, rfl, by decide +kernel, rfl, by decide +kernel, by decide +kernel⟩
theorem ok_pof (T : Txt K mg a) (d : Df K mg "partner_of" s_partner_of ["gathering", "k"]) : Ok P w K mg base CX0 1 "partner_of" ["gathering", "k"] (spPartnerOf a) := by
  refine d.ok fun f fd F => ?_
  refine F.ok sc_pof (fun vs H Q E h => ?_) (fun cdv A outer s H vs Q E hr h => ?_)
  · obtain ⟨x, _, _, rfl, _⟩ := h
    rfl
  · obtain ⟨x, G, k, rfl, g, q⟩ := h
    obtain ⟨dx, ho⟩ := g.obj
    refine ⟨_, pss_one (ps_ret (pe_op op_sub (pe_op op_add (pe_fld (pv 0) rfl) pe_int) (pv 1))), ?_⟩
    exact ⟨_, rfl, x.g, a.CG, dx, _, _, rfl, ho, T.clG, T.nGz, gf_size, _, _, rfl, rfl, _, rfl, _, _, rfl, rfl, q⟩
def spPState (a : Adr) : Sp := fun vs H Q _ => ∃ (x : GA) (G : Quire.Gath) (k : Nat), vs = [.ref x.g, .int k] ∧ GAt a H x G ∧ 1 ≤ k ∧ k ≤ G.size ∧ Q (.int (fN (G.fate (G.partner (k - 1))) : Nat)) H
theorem sc_pstate : FnScope ["gathering", "k"] ["gathering", "k"] (defScope s_partner_state) := ⟨rfl, rfl, rfl, by decide +kernel, rfl, by decide +kernel, by decide +kernel⟩
theorem ok_pstate (T : Txt K mg a) (OO : Ok P w K mg base CX0 1 "partner_of" ["gathering", "k"] (spPartnerOf a)) (d : Df K mg "partner_state" s_partner_state ["gathering", "k"]) : Ok P w K mg base CX0 2 "partner_state" ["gathering", "k"] (spPState a) := by
  refine d.ok fun f fd F => ?_
  refine F.ok sc_pstate (fun vs H Q E h => ?_) (fun cdv A outer s H vs Q E hr h => ?_)
  · obtain ⟨x, _, _, rfl, _⟩ := h
    rfl
  · obtain ⟨x, G, k, rfl, g, k1, k2, q⟩ := h
    obtain ⟨dx, ho⟩ := g.obj
    refine ⟨_, pss_one (ps_ret (pe_ix ix_list (pe_fld (pv 0) rfl) (pe_f OO hr pass0 (pa_cons (pv 0) (pa_cons (pv 1) pa_nil))) (fun _ _ => rfl))), ?_⟩
    refine ⟨_, rfl, x.g, a.CG, dx, _, _, rfl, ho, T.clG, T.nGt, gf_states, _, rfl, _, rfl, x, G, k, rfl, g, x.st, _, _, _, rfl, rfl, SqL.of g.st, at_of (j := G.partner (k - 1) + 1) ?_ (g.fate (by unfold Quire.Gath.partner; omega)), q⟩
    unfold Quire.Gath.partner; omega
def spMayCut (a : Adr) : Sp := fun vs H Q _ => ∃ (x : GA) (G : Quire.Gath) (k : Nat), vs = [.ref x.g, .int k] ∧ GAt a H x G ∧ 1 ≤ k ∧ k ≤ G.size ∧ Q (.bl (Quire.cutOk G (k - 1))) H
theorem sc_mcut : FnScope ["gathering", "k"] ["gathering", "k"] (defScope s_may_be_cut) := ⟨rfl, rfl, rfl, by decide +kernel, rfl, by decide +kernel, by decide +kernel⟩
theorem ok_mcut (T : Txt K mg a) (OS : Ok P w K mg base CX0 2 "partner_state" ["gathering", "k"] (spPState a)) (d : Df K mg "may_be_cut" s_may_be_cut ["gathering", "k"]) : Ok P w K mg base CX0 3 "may_be_cut" ["gathering", "k"] (spMayCut a) := by
  refine d.ok fun f fd F => ?_
  refine F.ok sc_mcut (fun vs H Q E h => ?_) (fun cdv A outer s H vs Q E hr h => ?_)
  · obtain ⟨x, _, _, rfl, _⟩ := h
    rfl
  · obtain ⟨x, G, k, rfl, g, k1, k2, q⟩ := h
    obtain ⟨dx, ho⟩ := g.obj
    refine ⟨_, pss_one (ps_ret (pe_and (pe_cmpR op_gt (pe_fld (pv 0) rfl) pe_int (nomark _)) (pe_one (pe_cmpR op_eq (pe_f OS hr pass0 (pa_cons (pv 0) (pa_cons (pv 1) pa_nil))) (pe_gi T.WHOLE) (nomark _))))), ?_⟩
    refine ⟨_, rfl, x.g, a.CG, dx, _, _, rfl, ho, T.clG, T.nGz, gf_size, _, _, rfl, rfl, _, rfl, ?_⟩
    have fin : ∀ b, Quire.cutOk G (k - 1) = b → Q (.bl b) H := fun b e => by rw [← e]; exact q
    refine ite2 (fun e => ?_) fun e => ?_
    · have h1 : 1 < G.size := by have := of_decide_eq_true e; omega
      refine ⟨_, rfl, _, rfl, x, G, k, rfl, g, k1, k2, rfl, fin _ ?_⟩
      unfold Quire.cutOk
      rw [show (G.size != 1) = true by simp; omega, Bool.true_and]
      cases G.fate (G.partner (k - 1)) <;> rfl
    · have h1 : ¬ 1 < G.size := fun z => e (decide_eq_true (by omega))
      refine fin _ ?_
      unfold Quire.cutOk
      rw [show (G.size != 1) = false by simp; omega]
      rfl
def spLeafRow (a : Adr) : Sp := fun vs H Q _ => ∃ (x : GA) (G : Quire.Gath) (k : Nat), vs = [.ref x.g, .int k] ∧ GAt a H x G ∧ 1 ≤ k ∧ k ≤ G.size ∧ ∀ l, H l = none → Q (.ref l) (upd H l (.lst ((Quire.nums (G.leaf (k - 1))).map cV)))
theorem sc_lrow : FnScope ["gathering", "k", "state", "before"] ["gathering", "k"] (defScope s_leaf_row) := ⟨rfl, rfl, rfl, by decide +kernel, rfl, by decide +kernel, by decide +kernel⟩
theorem ok_lrow (T : Txt K mg a) (OS : Ok P w K mg base CX0 2 "partner_state" ["gathering", "k"] (spPState a)) (d : Df K mg "leaf_row" s_leaf_row ["gathering", "k"]) : Ok P w K mg base CX0 3 "leaf_row" ["gathering", "k"] (spLeafRow a) := by
  refine d.ok fun f fd F => ?_
  refine F.ok sc_lrow (fun vs H Q E h => ?_) (fun cdv A outer s H vs Q E hr h => ?_)
  · obtain ⟨x, _, _, rfl, _⟩ := h
    rfl
  · obtain ⟨x, G, k, rfl, g, k1, k2, q⟩ := h
    obtain ⟨dx, ho⟩ := g.obj
    refine ⟨_, pss_cons (ps_set (i := 2) sc_lrow.nd rfl (Or.inl rfl) (pe_ix ix_list (pe_fld (pv 0) rfl) (pv 1) (fun _ _ => rfl)))
      (pss_cons (ps_set (i := 3) sc_lrow.nd rfl (Or.inl rfl) (pe_cmpR op_le (pe_op op_mul pe_int (pv 1)) (pe_fld (pv 0) rfl) (nomark _)))
      (pss_cons (ps_if (pt_cmpR op_eq (pv 2) (pe_gi T.LOST) (nomark _)) (pss_one (ps_ret (pe_lst pa_nil))) pss_nil)
      (pss_cons (ps_if (pt_cmpR op_eq (pv 2) (pe_gi T.CUT) (nomark _)) (pss_one (ps_ret (pe_lst (pa_cons (pe_ifExp (pt_val (pv 3)) (pe_gi T.STUB_BEFORE) (pe_gi T.STUB_BEHIND)) pa_nil)))) pss_nil)
      (pss_cons (ps_if (pw_or (pt_cmpR op_eq (pe_fld (pv 0) rfl) pe_int (nomark _)) (pw_or1 (pt_cmpR op_eq (pe_f OS hr pass0 (pa_cons (pv 0) (pa_cons (pv 1) pa_nil))) (pe_gi T.LOST) (nomark _)))).pt (pss_one (ps_ret (pe_lst (pa_cons (pe_gi T.ALONE) pa_nil)))) pss_nil)
      (pss_one (ps_ret (pe_lst (pa_cons (pe_ifExp (pt_val (pv 3)) (pe_gi T.LEAF_BEFORE) (pe_gi T.LEAF_BEHIND)) pa_nil)))))))), ?_⟩
    refine ⟨_, rfl, x.g, a.CG, dx, _, _, rfl, ho, T.clG, T.nGt, gf_states, _, rfl, x.st, _, _, _, rfl, rfl, SqL.of g.st, at_of (j := (k - 1) + 1) (by omega) (g.fate (k := k - 1) (by omega)), ?_⟩
    refine ⟨_, rfl, _, _, rfl, rfl, .inl ⟨by decide, by decide⟩, _, rfl, x.g, a.CG, dx, _, _, rfl, ho, T.clG, T.nGz, gf_size, _, _, rfl, rfl, ?_⟩
    have hb : decide ((2 : Int) * k ≤ G.size) = decide (k - 1 < G.size / 2) := by
      rw [Bool.eq_iff_iff]; simp only [decide_eq_true_eq]; omega
    dsimp only
    rw [hb]
    unfold Quire.Gath.leaf at q
    refine ⟨_, rfl, rfl, _, rfl, ?_⟩
    cases hf : G.fate (k - 1) with
    | lost =>
      rw [hf] at q
      refine (if_pos rfl).mpr ?_
      exact ⟨Nat.zero_le _, fun l hl => q l hl⟩
    | cut =>
      rw [hf] at q
      refine (if_neg (by decide)).mpr ?_
      refine ⟨_, rfl, rfl, _, rfl, ?_⟩
      refine (if_pos rfl).mpr ?_
      refine ⟨_, rfl, _, rfl, ?_⟩
      refine ite2 (fun e => ?_) fun e => ?_
      · refine ⟨by show 1 ≤ sizeLine; decide, fun l hl => ?_⟩
        have z := q l hl
        rw [if_pos (of_decide_eq_true e)] at z
        exact z
      · refine ⟨by show 1 ≤ sizeLine; decide, fun l hl => ?_⟩
        have z := q l hl
        rw [if_neg (fun y => e (decide_eq_true y))] at z
        exact z
    | kept =>
      rw [hf] at q
      refine (if_neg (by decide)).mpr ?_
      refine ⟨_, rfl, rfl, _, rfl, ?_⟩
      refine (if_neg (by decide)).mpr ?_
      refine ⟨_, rfl, x.g, a.CG, dx, _, _, rfl, ho, T.clG, T.nGz, gf_size, rfl, _, rfl, ?_⟩
      have last : (G.size = 1 ∨ G.fate (G.partner (k - 1)) = .lost) → tRet (tLst (tCons (tC (V.int 1)) tNil)) { nx := fun _ H' => Q .non H', rt := Q } [some (V.ref x.g), some (V.int k), some (cV (fN .kept)), some (V.bl (decide (k - 1 < G.size / 2)))] H := fun h => by
        refine ⟨by show 1 ≤ sizeLine; decide, fun l hl => ?_⟩
        have z := q l hl
        dsimp only at z
        rw [if_pos h] at z
        exact z
      by_cases h1 : G.size = 1
      · refine (if_pos (by rw [h1]; rfl)).mpr ?_
        exact iteT (last (.inl h1))
      · refine (if_neg (by simp; omega)).mpr ?_
        refine ⟨_, rfl, _, rfl, x, G, k, rfl, g, k1, k2, rfl, _, rfl, ?_⟩
        by_cases h2 : G.fate (G.partner (k - 1)) = .lost
        · refine (if_pos (by rw [h2]; rfl)).mpr ?_
          exact last (.inr h2)
        · refine (if_neg (by cases hh : G.fate (G.partner (k - 1)) <;> first | exact absurd hh h2 | decide)).mpr ?_
          refine ⟨_, rfl, _, rfl, ?_⟩
          refine ite2 (fun e => ?_) fun e => ?_
          · refine ⟨by show 1 ≤ sizeLine; decide, fun l hl => ?_⟩
            have z := q l hl
            dsimp only at z
            rw [if_neg (by rintro (z | z); exact h1 z; exact h2 z), if_pos (of_decide_eq_true e)] at z
            exact z
          · refine ⟨by show 1 ≤ sizeLine; decide, fun l hl => ?_⟩
            have z := q l hl
            dsimp only at z
            rw [if_neg (by rintro (z | z); exact h1 z; exact h2 z), if_neg (fun y => e (decide_eq_true y))] at z
            exact z
end
theorem op_neK {X : Cx} {K : PySem.W.Frag} (hk : X.K = K) (hu : X.A.units + 64 < cLine) : OpR X (compareOp .NotEq) (rNeD K) := by
  subst hk
  exact op_neD hu
def wordN (G : Quire.Gath) (i : Nat) : Quire.Word := G.put 0 ++ (List.range i).flatMap fun k => G.leaf k ++ G.put (k + 1)
theorem wordN_succ (G : Quire.Gath) (i : Nat) : wordN G (i + 1) = wordN G i ++ (G.leaf i ++ G.put (i + 1)) := by
  unfold wordN
  rw [List.range_succ, List.flatMap_append, List.append_assoc]
  simp
theorem leaf_len (G : Quire.Gath) (k : Nat) : (G.leaf k).length ≤ 1 := by
  unfold Quire.Gath.leaf
  cases G.fate k with
  | lost => simp
  | cut => simp
  | kept => dsimp only; split <;> simp
theorem GAt.put_len {a : Adr} {H : Hp} {x : GA} {G : Quire.Gath} (h : GAt a H x G) (k : Nat) : (G.put k).length ≤ 21 := by
  unfold Quire.Gath.put
  rw [List.getD_eq_getElem?_getD]
  cases e : G.puts[k]? with
  | none => simp
  | some w => exact h.pl w (List.mem_of_getElem? e)
theorem GAt.wordN_len {a : Adr} {H : Hp} {x : GA} {G : Quire.Gath} (h : GAt a H x G) : ∀ i, (wordN G i).length ≤ 21 + 22 * i
  | 0 => by have := h.put_len 0; simp [wordN]; omega
  | i + 1 => by
    have h1 := h.wordN_len i
    have h2 := leaf_len G i
    have h3 := h.put_len (i + 1)
    rw [wordN_succ, List.length_append, List.length_append]
    omega
theorem GAt.word_len {a : Adr} {H : Hp} {x : GA} {G : Quire.Gath} (h : GAt a H x G) : G.word.length ≤ 1000 := by
  have h1 := h.wordN_len G.size
  have h2 := h.sz
  have e : G.word = wordN G G.size := rfl
  rw [e]
  omega
theorem nums_app (u v : Quire.Word) : Quire.nums (u ++ v) = Quire.nums u ++ Quire.nums v := List.map_append ..
theorem nums_len (u : Quire.Word) : (Quire.nums u).length = u.length := List.length_map ..
section
variable {P : Program} {w : World} {K : PySem.W.Frag} {mg : Str → Option Value} {base : Heap} {a : Adr}
def spWord (a : Adr) : Sp := fun vs H Q _ => ∃ (x : GA) (G : Quire.Gath), vs = [.ref x.g] ∧ GAt a H x G ∧ ∀ H' l, Same H H' → H l = none → H' l = some (.lst ((Quire.nums G.word).map cV)) → Q (.ref l) H'
theorem sc_word : FnScope ["gathering", "row", "k"] ["gathering"] (defScope s_word_of) := ⟨rfl, rfl, rfl, by decide +kernel, rfl, by decide +kernel, by decide +kernel⟩
theorem ok_word (T : Txt K mg a) (OL : Ok P w K mg base CX0 3 "leaf_row" ["gathering", "k"] (spLeafRow a)) (d : Df K mg "word_of" s_word_of ["gathering"]) : Ok P w K mg base CX0 4 "word_of" ["gathering"] (spWord a) := by
  refine d.ok fun f fd F => ?_
  refine F.ok sc_word (fun vs H Q E h => ?_) (fun cdv A outer s H vs Q E hr h => ?_)
  · obtain ⟨x, _, rfl, _⟩ := h
    rfl
  · obtain ⟨x, G, rfl, g, q⟩ := h
    obtain ⟨dx, ho⟩ := g.obj
    refine ⟨_, pss_cons (ps_set (i := 1) sc_word.nd rfl (Or.inl rfl) (pe_callTy call_list_of (by rfl) T.list boot_list (pa_cons (pe_ix ix_list (pe_fld (pv 0) rfl) pe_int (fun _ _ => rfl)) pa_nil)))
      (pss_cons (ps_for PassesOwn.never rfl (pi_range2 rfl T.range (pa_cons pe_int (pa_cons (pe_op op_add (pe_fld (pv 0) rfl) pe_int) pa_nil))) (pg_name (i := 2) sc_word.nd rfl (Or.inl rfl))
        (pss_cons (ps_expr (pe_bm PySem.F.plainAttrs_list PySem.F.slot_list_extend PySem.F.type_list_extend mt_extend (pv 1) (pa_cons (pe_f OL hr pass0 (pa_cons (pv 0) (pa_cons (pv 2) pa_nil))) pa_nil)))
        (pss_one (ps_expr (pe_bm PySem.F.plainAttrs_list PySem.F.slot_list_extend PySem.F.type_list_extend mt_extend (pv 1) (pa_cons (pe_ix ix_list (pe_fld (pv 0) rfl) (pv 2) (fun _ _ => rfl)) pa_nil))))))
      (pss_one (ps_ret (pv 1)))), ?_⟩
    obtain ⟨b0, hb0, hb0', _⟩ := g.put (k := 0) (Nat.zero_le _)
    refine ⟨_, rfl, x.g, a.CG, dx, _, _, rfl, ho, T.clG, T.nGg, gf_gaps, x.gp, _, _, _, rfl, rfl, SqL.of g.gp, atI_nat (j := 0) hb0, b0, _, rfl, .inl (SqL.of hb0'), fun l hl => ?_⟩
    have s1 : Same H (upd H l (.lst ((Quire.nums (G.put 0)).map cV))) := Same.new hl
    have h1 : upd H l (.lst ((Quire.nums (G.put 0)).map cV)) l = some (.lst ((Quire.nums (wordN G 0)).map cV)) := by rw [upd_same]; simp [wordN]
    generalize upd H l (.lst ((Quire.nums (G.put 0)).map cV)) = H1 at s1 h1
    have hsz := g.sz
    refine ⟨_, rfl, x.g, a.CG, dx, _, _, rfl, s1 _ _ ho, T.clG, T.nGz, gf_size, _, _, rfl, rfl, _, _, rfl, ⟨by omega, by omega, by omega, by omega⟩, ?_⟩
    rw [show ((G.size : Int) + 1 - 1).toNat = G.size by omega]
    refine for_range (n := G.size) (fun i σ H' => ∃ v, σ = [some (.ref x.g), some (.ref l), v] ∧ Same H H' ∧ H' l = some (.lst ((Quire.nums (wordN G i)).map cV))) ⟨none, rfl, s1, h1⟩ ?_ ?_
    · rintro i σ H2 hi ⟨v, rfl, s2, h2⟩
      have g2 := g.same s2
      have hk : (1 : Int) + (i : Nat) = ((i + 1 : Nat) : Int) := by omega
      have wl := g.wordN_len i
      have wl1 := g.wordN_len (i + 1)
      have e1 := leaf_len G i
      refine ⟨_, rfl, .inl ⟨rfl, _, SqL.of h2⟩, _, rfl, _, rfl, x, G, i + 1, by rw [← hk]; rfl, g2, by omega, by omega, fun b hb => ?_⟩
      have s3 : Same H2 (upd H2 b (.lst ((Quire.nums (G.leaf (i + 1 - 1))).map cV))) := Same.new hb
      have hbb : upd H2 b (.lst ((Quire.nums (G.leaf (i + 1 - 1))).map cV)) b = some (.lst ((Quire.nums (G.leaf i)).map cV)) := by rw [upd_same]; rfl
      generalize upd H2 b (.lst ((Quire.nums (G.leaf (i + 1 - 1))).map cV)) = H3 at s3 hbb
      refine ⟨l, b, _, _, rfl, rfl, s3 _ _ h2, hbb, ?_, ?_⟩
      · rw [List.length_map, List.length_map, nums_len, nums_len]
        exact Nat.le_trans (show _ ≤ 1000 by omega) (by decide)
      have s4 : Same H (upd H3 l (.lst ((Quire.nums (wordN G i)).map cV ++ (Quire.nums (G.leaf i)).map cV))) := fun c o hc => by
        rw [upd_ne (ne_of_none hc hl)]; exact s3 _ _ (s2 _ _ hc)
      have h4 : upd H3 l (.lst ((Quire.nums (wordN G i)).map cV ++ (Quire.nums (G.leaf i)).map cV)) l = some (.lst ((Quire.nums (wordN G i ++ G.leaf i)).map cV)) := by
        rw [upd_same, nums_app, List.map_append]
      generalize upd H3 l (.lst ((Quire.nums (wordN G i)).map cV ++ (Quire.nums (G.leaf i)).map cV)) = H4 at s4 h4
      have g4 := g.same s4
      obtain ⟨dx4, ho4⟩ := g4.obj
      obtain ⟨b1, hb1, hb1', hl1⟩ := g4.put (k := i + 1) (by omega)
      refine ⟨_, rfl, .inl ⟨rfl, _, SqL.of h4⟩, _, rfl, x.g, a.CG, dx4, _, _, rfl, ho4, T.clG, T.nGg, gf_gaps, _, rfl, x.gp, _, _, _, rfl, rfl, SqL.of g4.gp, at_of hk hb1, l, b1, _, _, rfl, rfl, h4, hb1', ?_, ?_⟩
      · rw [List.length_map, List.length_map, nums_len, nums_len, List.length_append]
        exact Nat.le_trans (show _ ≤ 1000 by omega) (by decide)
      · refine ⟨_, rfl, fun c o hc => ?_, ?_⟩
        · rw [upd_ne (ne_of_none hc hl)]; exact s4 _ _ hc
        · rw [upd_same, wordN_succ, ← List.append_assoc]; simp only [nums_app, List.map_append]
    · rintro σ H2 ⟨v, rfl, s2, h2⟩
      exact ⟨_, rfl, q H2 l s2 hl h2⟩
def spNotes (a : Adr) : Sp := fun vs H Q _ => ∃ (x : GA) (G : Quire.Gath), vs = [.ref x.g] ∧ GAt a H x G ∧ ∀ H', Same H H' → Q (.bl (!G.plain)) H'
theorem sc_hnotes : FnScope ["gathering", "state", "row"] ["gathering"] (defScope s_has_notes) := ⟨rfl, rfl, rfl, by decide +kernel, rfl, by decide +kernel, by decide +kernel⟩
theorem ok_hnotes (T : Txt K mg a) (d : Df K mg "has_notes" s_has_notes ["gathering"]) : Ok P w K mg base CX0 1 "has_notes" ["gathering"] (spNotes a) := by
  refine d.ok fun f fd F => ?_
  refine F.ok sc_hnotes (fun vs H Q E h => ?_) (fun cdv A outer s H vs Q E hr h => ?_)
  · obtain ⟨x, _, rfl, _⟩ := h
    rfl
  · obtain ⟨x, G, rfl, g, q⟩ := h
    obtain ⟨dx, ho⟩ := g.obj
    refine ⟨_, pss_one (ps_ret (pe_or (pe_callB (cr_any rfl) (by rfl) T.any boot_any (pa_cons (pe_lc (own := [("state", 1)]) rfl sc_hnotes.nd (pi_list (pe_fld (pv 0) rfl)) (blkOk_by (by rfl))
        (fun _ _ _ _ _ => pg_name (i := 1) sc_hnotes.nd rfl (Or.inl rfl)) (fun _ _ _ _ _ => pts_nil) (fun _ _ _ _ _ => pe_cmpR op_ne (pv 1) (pe_gi T.WHOLE) (nomark _))) pa_nil))
      (pe_one (pe_callB (cr_any rfl) (by rfl) T.any boot_any (pa_cons (pe_lc (own := [("row", 2)]) rfl sc_hnotes.nd (pi_list (pe_fld (pv 0) rfl)) (blkOk_by (by rfl))
        (fun _ _ _ _ _ => pg_name (i := 2) sc_hnotes.nd rfl (Or.inl rfl)) (fun _ _ _ _ _ => pts_nil) (fun _ _ _ _ _ => pe_cmpR (op_neK (K := K) rfl hr.units) (pv 2) (pe_lst pa_nil) (nomark _))) pa_nil))))), ?_⟩
    have hsz := g.sz
    have hnf := g.nf
    have hnp := g.np
    refine ⟨_, rfl, x.g, a.CG, dx, _, _, rfl, ho, T.clG, T.nGt, gf_states, x.st, rfl, ⟨_, SqL.of g.st⟩, fun D hD => ?_⟩
    have e0 : ∀ (ns : List Nat), (ns.map fun n => decide (n ≠ 0)).any id = ns.any fun n => decide (n ≠ 0) := fun ns => by rw [List.any_map]; rfl
    refine lc_list (K := K) (a := x.st) (xs := (0 :: G.fates.map fN).map cV) (fun i H' => Same H H' ∧ H' D = some (.lst ((((0 :: G.fates.map fN).take i).map fun n => decide (n ≠ 0)).map V.bl))) ⟨Same.new hD, upd_same⟩ (fun i H' _ ⟨s1, _⟩ => SqL.of (s1 _ _ g.st)) ?_ ?_
    · rintro i y H' hi ⟨s1, h1⟩
      obtain ⟨n, hn, rfl⟩ : ∃ n, (0 :: G.fates.map fN)[i]? = some n ∧ y = cV n := by
        rw [List.getElem?_map] at hi
        cases e : (0 :: G.fates.map fN)[i]? with
        | none => rw [e] at hi; cases hi
        | some z => rw [e] at hi; exact ⟨z, rfl, (Option.some.inj hi).symm⟩
      refine ⟨rfl, ?_⟩
      unfold tYes
      refine iteT ?_
      refine ⟨_, rfl, rfl, _, h1, ?_, fun b o hb => ?_, ?_⟩
      · have := (List.getElem?_eq_some_iff.mp hn).1
        simp only [List.length_map, List.length_take, List.length_cons] at this ⊢
        exact Nat.lt_of_lt_of_le (show _ < 1000 by omega) (by decide)
      · rw [upd_ne (ne_of_none hb hD)]; exact s1 _ _ hb
      · rw [upd_same, List.take_succ, hn, List.map_append, List.map_append]
        have e : decide (n ≠ 0) = !decide (cV n = V.int 0) := by
          rw [Bool.eq_iff_iff]; simp [cV]
        rw [← e]
        rfl
    rintro H1 ⟨s1, h1⟩
    rw [List.length_map, List.take_length] at h1
    refine ⟨D, _, rfl, SqL.of h1, ?_⟩
    rw [e0]
    have hp1 : (0 :: G.fates.map fN).any (fun n => decide (n ≠ 0)) = !(G.fates.all fun f => f == .kept) := by
      rw [List.any_cons, List.any_map, List.not_all_eq_any_not]
      simp only [ne_eq, not_true, decide_false, Bool.false_or]
      congr 1
      funext f
      cases f <;> rfl
    rw [hp1]
    refine ⟨_, rfl, ?_⟩
    cases hpl : G.fates.all fun f => f == .kept with
    | false =>
      refine iteT ?_
      have z := q H1 s1
      have e : G.plain = false := by unfold Quire.Gath.plain; rw [hpl]; rfl
      rw [e] at z
      exact z
    | true =>
      refine iteF ?_
      have e1 : (!G.plain) = G.puts.any fun w => !w.isEmpty := by
        unfold Quire.Gath.plain
        rw [hpl, Bool.true_and, List.not_all_eq_any_not]
      refine ⟨_, rfl, x.g, a.CG, dx, _, _, rfl, s1 _ _ ho, T.clG, T.nGg, gf_gaps, x.gp, rfl, ⟨_, SqL.of (s1 _ _ g.gp)⟩, fun D2 hD2 => ?_⟩
      refine lc_list (K := K) (a := x.gp) (xs := x.ga.map V.ref) (fun i H' => Same H1 H' ∧ H' D2 = some (.lst (((G.puts.take i).map fun w => !w.isEmpty).map V.bl))) ⟨Same.new hD2, upd_same⟩ (fun i H' _ ⟨s2, _⟩ => SqL.of (s2 _ _ (s1 _ _ g.gp))) ?_ ?_
      · rintro i y H' hi ⟨s2, h2⟩
        have hil : i < x.ga.length := by have := (List.getElem?_eq_some_iff.mp hi).1; simpa using this
        have hip : i < G.puts.length := by rw [← g.ga.len]; exact hil
        have hw : G.puts[i]? = some G.puts[i] := List.getElem?_eq_getElem hip
        obtain ⟨b, hb1, hb2⟩ := g.ga.get hw
        have ey : y = V.ref b := by
          rw [List.getElem?_map, hb1] at hi
          exact (Option.some.inj hi).symm
        subst ey
        refine ⟨rfl, ?_⟩
        unfold tYes
        refine iteT ?_
        refine ⟨_, rfl, Nat.zero_le _, fun t ht => ?_⟩
        have s3 : Same H' (upd H' t (.lst [])) := Same.new ht
        have ht' : upd H' t (.lst []) t = some (.lst (([] : List Nat).map cV)) := upd_same
        generalize upd H' t (.lst []) = H3 at s3 ht'
        have s13 := (s1.trans s2).trans s3
        refine ⟨.list ((Quire.nums G.puts[i]).map dN), .list (([] : List Nat).map dN), .lst (SqL.of (s13 _ _ hb2)) (dp_nats _), .lst (SqL.of ht') (dp_nats _), shaped_list _, shaped_list _, _, s3 _ _ h2, ?_, fun c o hc => ?_, ?_⟩
        · simp only [List.length_map, List.length_take]
          exact Nat.lt_of_lt_of_le (show _ < 1000 by omega) (by decide)
        · rw [upd_ne (ne_of_none hc hD2)]; exact s3 _ _ (s2 _ _ hc)
        · rw [upd_same, List.take_succ, hw, List.map_append, List.map_append, PyData.eqv, eqv_nats]
          have e : (!decide (Quire.nums G.puts[i] = [])) = !(G.puts[i]).isEmpty := by
            cases G.puts[i] <;> simp [Quire.nums]
          rw [e]
          rfl
      · rintro H2 ⟨s2, h2⟩
        rw [List.length_map, g.ga.len, List.take_length] at h2
        refine ⟨D2, _, rfl, SqL.of h2, ?_⟩
        rw [List.any_map]
        have z := q H2 (s1.trans s2)
        rw [e1] at z
        exact z
end
section
variable {P : Program} {w : World} {K : PySem.W.Frag} {mg : Str → Option Value} {base : Heap} {a : Adr}
def spOne (a : Adr) : Sp := fun vs H Q _ => ∃ (x y : GA) (G1 G2 : Quire.Gath), vs = [.ref x.g, .ref y.g] ∧ GAt a H x G1 ∧ GAt a H y G2 ∧ ∀ H', Same H H' → Q (.bl (Quire.follows G1 G2)) H'
theorem sc_one : FnScope ["before", "behind"] ["before", "behind"] (defScope s_are_one_item) := ⟨rfl, rfl, rfl, by decide +kernel, rfl, by decide +kernel, by decide +kernel⟩
theorem ok_one (T : Txt K mg a) (OH : Ok P w K mg base CX0 1 "has_notes" ["gathering"] (spNotes a)) (OB : Ok P w K mg base CX0 1 "signature_behind" ["signature"] (spBehind K)) (d : Df K mg "are_one_item" s_are_one_item ["before", "behind"]) : Ok P w K mg base CX0 2 "are_one_item" ["before", "behind"] (spOne a) := by
  refine d.ok fun f fd F => ?_
  refine F.ok sc_one (fun vs H Q E h => ?_) (fun cdv A outer s H vs Q E hr h => ?_)
  · obtain ⟨x, _, _, _, rfl, _⟩ := h
    rfl
  · obtain ⟨x, y, G1, G2, rfl, g1, g2, q⟩ := h
    refine ⟨_, pss_cons (ps_if (pw_or (pt_val (pe_f OH hr pass0 (pa_cons (pv 0) pa_nil))) (pw_or (pt_val (pe_f OH hr pass0 (pa_cons (pv 1) pa_nil))) (pw_or1 (pt_cmpR op_ne (pe_fld (pv 0) rfl) (pe_fld (pv 1) rfl) (nomark _))))).pt (pss_one (ps_ret pe_bl)) pss_nil)
      (pss_one (ps_ret (pe_cmpR (op_eqD hr.units) (pe_f OB hr pass0 (pa_cons (pe_fld (pv 0) rfl) pa_nil)) (pe_fld (pv 1) rfl) (nomark _)))), ?_⟩
    have no : ∀ H', Same H H' → Quire.follows G1 G2 = false → Q (.bl false) H' := fun H' s e => by have z := q H' s; rw [e] at z; exact z
    refine ⟨_, rfl, x, G1, rfl, g1, fun H1 s1 => ⟨_, rfl, ?_⟩⟩
    cases hp1 : G1.plain with
    | false =>
      refine iteT ?_
      exact iteT (no H1 s1 (by unfold Quire.follows; rw [hp1]; rfl))
    | true =>
      refine iteF ?_
      refine ⟨_, rfl, y, G2, rfl, g2.same s1, fun H2 s2 => ⟨_, rfl, ?_⟩⟩
      have s12 := s1.trans s2
      cases hp2 : G2.plain with
      | false =>
        refine iteT ?_
        exact iteT (no H2 s12 (by unfold Quire.follows; rw [hp1, hp2]; rfl))
      | true =>
        refine iteF ?_
        have g1' := g1.same s12
        have g2' := g2.same s12
        obtain ⟨dx1, ho1⟩ := g1'.obj
        obtain ⟨dx2, ho2⟩ := g2'.obj
        refine ⟨_, rfl, x.g, a.CG, dx1, _, _, rfl, ho1, T.clG, T.nGz, gf_size, _, rfl, y.g, a.CG, dx2, _, _, rfl, ho2, T.clG, T.nGz, gf_size, rfl, _, rfl, ?_⟩
        by_cases hz : G1.size = G2.size
        · refine (if_neg (by rw [hz]; simp)).mpr ?_
          have ef : Quire.follows G1 G2 = (G1.sig.next == some G2.sig) := by
            unfold Quire.follows; rw [hp1, hp2, hz]; simp
          refine ⟨_, rfl, x.g, a.CG, dx1, _, _, rfl, ho1, T.clG, T.nGs, gf_sig, x.sg, G1.sig, rfl, g1'.sig, g1.tm, ?_⟩
          have shS : ∀ s, SeqAt.shaped (dS s) = true := fun s => by simp [SeqAt.shaped, PyData.canLay0, PyData.canLayAll0, PyData.depth, PyData.depthAll]
          cases hn : G1.sig.next with
          | none =>
            intro H3 s3
            refine ⟨_, rfl, y.g, a.CG, dx2, _, _, rfl, s3 _ _ ho2, T.clG, T.nGs, gf_sig, .none, dS G2.sig, .non, dp_sig (s3 _ _ g2'.sig), by decide, shS _, ?_⟩
            have z := q H3 (s12.trans s3)
            rw [ef, hn] at z
            exact z
          | some sn =>
            intro H3 ya s3 hya
            refine ⟨_, rfl, y.g, a.CG, dx2, _, _, rfl, s3 _ _ ho2, T.clG, T.nGs, gf_sig, dS sn, dS G2.sig, dp_sig hya, dp_sig (s3 _ _ g2'.sig), shS _, shS _, ?_⟩
            have z := q H3 (s12.trans s3)
            rw [ef, hn] at z
            rw [eqv_sig]
            have e : (some sn == some G2.sig) = decide (sn = G2.sig) := by
              rw [Bool.eq_iff_iff]; simp
            rw [e] at z
            exact z
        · refine (if_pos (by simp; omega)).mpr ?_
          refine no H2 s12 ?_
          unfold Quire.follows
          rw [show (G1.size == G2.size) = false by simp [hz]]
          simp
end
theorem row_pos (c : Nat) : posI rowL c = (match Quire.signs.find? (fun s => s.byte.toNat == c) with | some s => (s.num : Int) - 1 | none => -1) := by
  by_cases h : c ∈ rowL
  · simp only [rowL, List.mem_cons, List.not_mem_nil, or_false] at h
    rcases h with rfl | rfl | rfl | rfl | rfl <;> rfl
  · have e : Quire.signs.find? (fun s => s.byte.toNat == c) = none := by
      rw [List.find?_eq_none]
      intro x hx z
      apply h
      rw [← eq_of_beq z]
      cases x <;> decide
    rw [e]
    refine posI_no fun j _ y hy e2 => h ?_
    have : y = c := by omega
    rw [← this]; exact List.mem_of_getElem? hy
theorem row_rangle {s : Quire.Sign} {c : Nat} (h : Quire.signs.find? (fun s => s.byte.toNat == c) = some s) : c ≠ Quire.RANGLE := by
  have := List.find?_some h
  intro e
  subst e
  cases s <;> exact absurd this (by decide)
def consR (ws : Quire.Word) : Quire.Rd Quire.Word → Quire.Rd Quire.Word
  | .error e => .error e
  | .ok (w, q, u) => .ok (ws ++ w, q, u)
theorem signs_step {t : List Nat} {p c : Nat} {s : Quire.Sign} (hc : t[p]? = some c) (hs : Quire.signs.find? (fun s => s.byte.toNat == c) = some s) (ws : Quire.Word) : consR ws (Quire.signsAt p (t.drop p)) = consR (ws ++ [s]) (Quire.signsAt (p + 1) (t.drop (p + 1))) := by
  rw [drop_some hc, Quire.signsAt, if_neg (row_rangle hs), hs]
  dsimp only
  cases Quire.signsAt (p + 1) (t.drop (p + 1)) with
  | error e => rfl
  | ok v => obtain ⟨w, q, u⟩ := v; simp [consR]
theorem signs_end {t : List Nat} {p : Nat} (h : ∀ c, t[p]? = some c → Quire.signs.find? (fun s => s.byte.toNat == c) = none) : Quire.signsAt p (t.drop p) = (match Quire.charAt Quire.RANGLE p (t.drop p) with
    | .error e => .error e
    | .ok (_, q, u) => .ok ([], q, u)) := by
  cases z : t[p]? with
  | none => rw [drop_none z]; rfl
  | some c =>
    rw [drop_some z, Quire.signsAt, Quire.charAt]
    by_cases e : c = Quire.RANGLE
    · rw [if_pos e, if_pos e]
    · rw [if_neg e, if_neg e, h c z]
theorem char_drop {t : List Nat} {c p q : Nat} {u : List Nat} {x : Unit} (h : Quire.charAt c p (t.drop p) = .ok (x, q, u)) : u = t.drop q ∧ q = p + 1 ∧ p < t.length := by
  cases z : t[p]? with
  | none => rw [drop_none z] at h; cases h
  | some y =>
    rw [drop_some z, Quire.charAt] at h
    by_cases e : y = c
    · rw [if_pos e] at h
      injection h with h; injection h with _ h; injection h with h1 h2
      rw [← h2, ← h1]
      exact ⟨rfl, rfl, (List.getElem?_eq_some_iff.mp z).1⟩
    · rw [if_neg e] at h; cases h
theorem signs_drop {t : List Nat} : ∀ (n p : Nat) {w : Quire.Word} {q : Nat} {u : List Nat}, t.length - p ≤ n → Quire.signsAt p (t.drop p) = .ok (w, q, u) → u = t.drop q
  | n, p, w, q, u, hn, h => by
    cases z : t[p]? with
    | none => rw [drop_none z] at h; cases h
    | some c =>
      have hp := (List.getElem?_eq_some_iff.mp z).1
      rw [drop_some z, Quire.signsAt] at h
      by_cases e : c = Quire.RANGLE
      · rw [if_pos e] at h
        injection h with h; injection h with _ h; injection h with h1 h2
        rw [← h2, ← h1]
      · rw [if_neg e] at h
        cases hs : Quire.signs.find? (fun s => s.byte.toNat == c) with
        | none => rw [hs] at h; cases h
        | some s =>
          rw [hs] at h
          dsimp only at h
          cases h2 : Quire.signsAt (p + 1) (t.drop (p + 1)) with
          | error e => rw [h2] at h; cases h
          | ok v =>
            obtain ⟨w', q', u'⟩ := v
            rw [h2] at h
            injection h with h; injection h with _ h; injection h with h1 h3
            match n with
            | 0 => omega
            | n + 1 =>
              have := signs_drop n (p + 1) (by omega) h2
              rw [← h3, ← h1]; exact this
theorem gScan_eq : ∀ (w st : Quire.Word), gScan (Quire.nums st) (Quire.nums w) = Quire.scan st w
  | [], st => by cases st <;> rfl
  | s :: r, st => by
    rw [show Quire.nums (s :: r) = s.num :: Quire.nums r from rfl, gScan_cons]
    cases s with
    | alone =>
      rw [if_neg (by decide), if_neg (by decide), if_pos (show Quire.Sign.alone.num = 1 from rfl), gScan_eq r st]
      rfl
    | opens =>
      rw [if_pos (by decide), show (Quire.Sign.opens.num :: Quire.nums st) = Quire.nums (.opens :: st) from rfl, gScan_eq r (.opens :: st)]
      rfl
    | stubOpens =>
      rw [if_pos (by decide), show (Quire.Sign.stubOpens.num :: Quire.nums st) = Quire.nums (.stubOpens :: st) from rfl, gScan_eq r (.stubOpens :: st)]
      rfl
    | closes =>
      rw [if_neg (by decide), if_pos (by decide)]
      cases st with
      | nil => rfl
      | cons o st =>
        show ((decide (o.num ≠ 4) || decide (Quire.Sign.closes.num ≠ 5)) && gScan (Quire.nums st) (Quire.nums r)) = _
        rw [gScan_eq r st]
        cases o <;> rfl
    | stubCloses =>
      rw [if_neg (by decide), if_pos (by decide)]
      cases st with
      | nil => rfl
      | cons o st =>
        show ((decide (o.num ≠ 4) || decide (Quire.Sign.stubCloses.num ≠ 5)) && gScan (Quire.nums st) (Quire.nums r)) = _
        rw [gScan_eq r st]
        cases o <;> rfl
theorem gOk_eq (w : Quire.Word) : gOk (Quire.nums w) = Quire.right w := by
  unfold gOk Quire.right Quire.paired
  rw [nums_len, ← gScan_eq w []]
  rfl
theorem nums_rep : ∀ w : Quire.Word, Quire.nums w = List.replicate w.length 1 ↔ w.all (fun s => s == .alone) = true
  | [] => by simp [Quire.nums]
  | s :: r => by
    rw [show Quire.nums (s :: r) = s.num :: Quire.nums r from rfl, List.length_cons, List.replicate_succ, List.cons.injEq, nums_rep r, List.all_cons, Bool.and_eq_true]
    cases s <;> simp [Quire.Sign.num] <;> decide
theorem cntN_eq (w : Quire.Word) : cntN (Quire.nums w) = Quire.counted w := by
  unfold cntN Quire.counted
  rw [nums_len, Bool.eq_iff_iff]
  simp only [Bool.and_eq_true, decide_eq_true_eq]
  rw [nums_rep]
  constructor
  · rintro ⟨h1, h2, h3⟩; exact ⟨h3, h1, h2⟩
  · rintro ⟨h3, h1, h2⟩; exact ⟨h1, h2, h3⟩
theorem leafN_eq (w : Quire.Word) : ((Quire.nums w).filter leafN).length = (w.filter Quire.Sign.leaf).length := by
  unfold Quire.nums
  rw [List.filter_map, List.length_map]
  congr 2
  funext s
  cases s <;> rfl
theorem right_rep {n : Nat} (h : n ≤ 9) : Quire.right (List.replicate n .alone) = true := by
  match n, h with
  | 0, _ => decide
  | 1, _ => decide
  | 2, _ => decide
  | 3, _ => decide
  | 4, _ => decide
  | 5, _ => decide
  | 6, _ => decide
  | 7, _ => decide
  | 8, _ => decide
  | 9, _ => decide
def cntAt (e p : Nat) (l : List Nat) : Quire.Rd Quire.Word := match Quire.number Quire.digit p l with
  | .error x => .error x
  | .ok (n, q, u) => if 1 ≤ n ∧ n ≤ 9 then .ok (List.replicate n .alone, q, u) else .error e
def toldFin (e : Nat) : Quire.Rd Quire.Word → Quire.Rd Quire.Word
  | .error x => .error x
  | .ok (w, q, u) => if w ≠ [] ∧ Quire.right w = true ∧ Quire.counted w = false then .ok (w, q, u) else .error e
def toldRowAt (e p : Nat) (l : List Nat) : Quire.Rd Quire.Word := match Quire.charAt Quire.LANGLE p l with
  | .error x => .error x
  | .ok (_, q, u) => toldFin e (Quire.signsAt q u)
def rowAt (e p : Nat) (l : List Nat) : Quire.Rd Quire.Word := if l.head? = some Quire.LANGLE then toldRowAt e p l else cntAt e p l
theorem head_drop (t : List Nat) (p : Nat) : (t.drop p).head? = t[p]? := by rw [List.head?_drop]
theorem num_le {d : Nat → Option Nat} : ∀ (l : List Nat) (f n p : Nat) {m q : Nat} {u : List Nat}, Quire.moreDigits d f n p l = .ok (m, q, u) → p ≤ q
  | [], f, n, p, m, q, u, h => by
    rw [more_nil] at h
    injection h with h; injection h with _ h; injection h with h1 _
    omega
  | c :: r, f, n, p, m, q, u, h => by
    rw [Quire.moreDigits] at h
    cases e : d c with
    | none =>
      rw [e] at h
      injection h with h; injection h with _ h; injection h with h1 _
      omega
    | some x =>
      rw [e] at h
      cases f with
      | zero => cases h
      | succ f => have := num_le r f _ _ h; omega
theorem number_le {d : Nat → Option Nat} {t : List Nat} {p m q : Nat} {r : List Nat} (h : Quire.number d p (t.drop p) = .ok (m, q, r)) : p < q := by
  cases z : t[p]? with
  | none => rw [drop_none z] at h; cases h
  | some c =>
    cases e : d c with
    | none => rw [number_none (fun c' h' => by rw [z] at h'; cases h'; exact e)] at h; cases h
    | some x =>
      rw [number_first z e] at h
      unfold numRest at h
      by_cases hx : x = 0
      · rw [if_pos hx] at h
        cases z2 : t[p + 1]? with
        | none =>
          rw [drop_none z2] at h
          injection h with h; injection h with _ h; injection h with h1 _
          omega
        | some c2 =>
          rw [drop_some z2] at h
          dsimp only at h
          split at h
          · cases h
          · injection h with h; injection h with _ h; injection h with h1 _
            omega
      · rw [if_neg hx] at h
        have := num_le _ _ _ _ h
        omega
theorem signs_le : ∀ (l : List Nat) (p : Nat) {w : Quire.Word} {q : Nat} {u : List Nat}, Quire.signsAt p l = .ok (w, q, u) → p < q
  | [], p, w, q, u, h => by cases h
  | c :: r, p, w, q, u, h => by
    rw [Quire.signsAt] at h
    by_cases e : c = Quire.RANGLE
    · rw [if_pos e] at h
      injection h with h; injection h with _ h; injection h with h1 _
      omega
    · rw [if_neg e] at h
      cases hs : Quire.signs.find? (fun s => s.byte.toNat == c) with
      | none => rw [hs] at h; cases h
      | some s =>
        rw [hs] at h
        dsimp only at h
        cases h2 : Quire.signsAt (p + 1) r with
        | error e => rw [h2] at h; cases h
        | ok v =>
          obtain ⟨w', q', u'⟩ := v
          rw [h2] at h
          injection h with h; injection h with _ h; injection h with h1 _
          have := signs_le r (p + 1) h2
          omega
theorem row_drop {t : List Nat} {e p q : Nat} {w : Quire.Word} {u : List Nat} (h : rowAt e p (t.drop p) = .ok (w, q, u)) : u = t.drop q ∧ p < q ∧ w.length ≤ 21 := by
  unfold rowAt at h
  split at h
  · unfold toldRowAt at h
    cases z : Quire.charAt Quire.LANGLE p (t.drop p) with
    | error x => rw [z] at h; cases h
    | ok v =>
      obtain ⟨_, q1, u1⟩ := v
      obtain ⟨hu, hq, _⟩ := char_drop z
      subst hu
      rw [z] at h
      dsimp only at h
      cases z2 : Quire.signsAt q1 (t.drop q1) with
      | error x => rw [z2] at h; cases h
      | ok v =>
        obtain ⟨w2, q2, u2⟩ := v
        rw [z2, toldFin] at h
        split at h
        · rename_i hc
          injection h with h; injection h with h0 h; injection h with h1 h2
          rw [← h2, ← h1, ← h0]
          refine ⟨signs_drop _ _ (Nat.le_refl _) z2, ?_, ?_⟩
          · have := signs_le _ _ z2; omega
          · have hr := hc.2.1
            unfold Quire.right at hr
            rw [Bool.and_eq_true, decide_eq_true_eq] at hr
            exact hr.1
        · cases h
  · unfold cntAt at h
    cases z : Quire.number Quire.digit p (t.drop p) with
    | error x => rw [z] at h; cases h
    | ok v =>
      obtain ⟨n, q1, u1⟩ := v
      have hu := num_drop z
      have hq := number_le z
      rw [z] at h
      dsimp only at h
      split at h
      · rename_i hc
        injection h with h; injection h with h0 h; injection h with h1 h2
        rw [← h2, ← h1, ← h0]
        refine ⟨hu, hq, ?_⟩
        rw [List.length_replicate]; omega
      · cases h
def mayB (G : Quire.Gath) (f : Quire.Fate) (k : Nat) : Bool := if f = .lost then G.fate (G.partner (k - 1)) != .cut else Quire.cutOk G (k - 1)
def leafNote (G : Quire.Gath) (last : Nat) (f : Quire.Fate) (p : Nat) (l : List Nat) : Quire.Rd (Quire.Gath × Nat) := match Quire.number Quire.digit (p + 1) l with
  | .error e => .error e
  | .ok (k, q, u) => if (1 ≤ k ∧ k ≤ G.size) ∧ last ≤ 2 * k - 1 ∧ mayB G f k = true then .ok (({ G with fates := G.fates.set (k - 1) f }, 2 * k), q, u) else .error p
def gapRow (G : Quire.Gath) (k : Nat) : Quire.Rd Quire.Word → Quire.Rd (Quire.Gath × Nat)
  | .error e => .error e
  | .ok (w, q, u) => .ok (({ G with puts := G.puts.set k w }, 2 * k + 1), q, u)
def gapPut (G : Quire.Gath) (k p q : Nat) (u : List Nat) : Quire.Rd (Quire.Gath × Nat) := match Quire.charAt Quire.PLUS q u with
  | .error e => .error e
  | .ok (_, q1, u1) => gapRow G k (rowAt p q1 u1)
def gapNote (G : Quire.Gath) (last p : Nat) (l : List Nat) : Quire.Rd (Quire.Gath × Nat) := match Quire.number Quire.digit p l with
  | .error e => .error e
  | .ok (k, q, u) => if k ≤ G.size ∧ last ≤ 2 * k then gapPut G k p q u else .error p
def noteM (G : Quire.Gath) (last p : Nat) (l : List Nat) : Quire.Rd (Quire.Gath × Nat) := if l.head? = some Quire.MINUS then leafNote G last .lost p (l.drop 1) else if l.head? = some Quire.OVER then leafNote G last .cut p (l.drop 1) else gapNote G last p l
theorem put_eq {t : List Nat} {G : Quire.Gath} {k p q : Nat} : (match Quire.putAt q (t.drop q) with
    | .error e => .error e
    | .ok (w, q, u) => if Quire.right w = true ∧ w ≠ [] then .ok (({ G with puts := G.puts.set k w }, 2 * k + 1), q, u) else .error p : Quire.Rd (Quire.Gath × Nat)) = gapPut G k p q (t.drop q) := by
  unfold Quire.putAt gapPut
  cases z : Quire.charAt Quire.PLUS q (t.drop q) with
  | error e => rfl
  | ok v =>
    obtain ⟨_, q1, u1⟩ := v
    obtain ⟨hu, _, _⟩ := char_drop z
    subst hu
    dsimp only
    unfold rowAt
    cases z1 : t[q1]? with
    | none =>
      rw [drop_none z1, if_neg (by simp)]
      rfl
    | some c =>
      rw [drop_some z1]
      dsimp only
      by_cases hc : c = Quire.LANGLE
      · rw [if_pos hc, if_pos (by rw [hc]; rfl)]
        unfold toldRowAt
        rw [Quire.charAt, if_pos hc]
        dsimp only
        cases z2 : Quire.signsAt (q1 + 1) (t.drop (q1 + 1)) with
        | error e => rfl
        | ok v =>
          obtain ⟨w, q2, u2⟩ := v
          dsimp only
          rw [toldFin]
          by_cases h1 : Quire.counted w = true
          · rw [if_pos h1, if_neg (by simp), if_neg (by rintro ⟨_, _, z⟩; rw [h1] at z; cases z)]
            rfl
          · have h1' : Quire.counted w = false := Bool.eq_false_iff.mpr h1
            rw [if_neg h1]
            by_cases h2 : Quire.right w = true ∧ w ≠ []
            · rw [if_pos h2, if_pos ⟨h2.2, h2.1, h1'⟩]
              rfl
            · rw [if_neg h2, if_neg (fun z => h2 ⟨z.2.1, z.1⟩)]
              rfl
      · rw [if_neg hc, if_neg (by simpa using hc)]
        unfold cntAt
        cases z2 : Quire.number Quire.digit q1 (c :: t.drop (q1 + 1)) with
        | error e => rfl
        | ok v =>
          obtain ⟨n, q2, u2⟩ := v
          dsimp only
          by_cases h1 : 1 ≤ n ∧ n ≤ 9
          · rw [if_pos h1, if_pos h1, if_pos ⟨right_rep h1.2, by intro z; have := congrArg List.length z; simp at this; omega⟩]
            rfl
          · rw [if_neg h1, if_neg h1, if_neg (by simp)]
            rfl
theorem note_eq {t : List Nat} {G : Quire.Gath} {last p : Nat} : Quire.noteAt G last p (t.drop p) = noteM G last p (t.drop p) := by
  have lf : ∀ f : Quire.Fate, f ≠ .kept → ∀ l, (match (match Quire.number Quire.digit (p + 1) l with
        | .error e => .error e
        | .ok (k, q, u) => .ok (if f = .lost then Quire.Note.lost k else .cut k, q, u) : Quire.Rd Quire.Note) with
      | .error e => .error e
      | .ok (x, q, u) => if x.at_ + 1 ≤ last ∨ x.may G = false then .error p else match x with
        | .lost k => .ok (({ G with fates := G.fates.set (k - 1) .lost }, x.at_ + 1), q, u)
        | .cut k => .ok (({ G with fates := G.fates.set (k - 1) .cut }, x.at_ + 1), q, u)
        | .put k => match Quire.putAt q u with
          | .error e => .error e
          | .ok (w, q, u) => if Quire.right w = true ∧ w ≠ [] then .ok (({ G with puts := G.puts.set k w }, x.at_ + 1), q, u) else .error p : Quire.Rd (Quire.Gath × Nat)) = leafNote G last f p l := by
    intro f hf l
    unfold leafNote
    cases z : Quire.number Quire.digit (p + 1) l with
    | error e => rfl
    | ok v =>
      obtain ⟨k, q, u⟩ := v
      dsimp only
      cases f with
      | kept => exact absurd rfl hf
      | lost =>
        rw [if_pos rfl]
        by_cases h : (1 ≤ k ∧ k ≤ G.size) ∧ last ≤ 2 * k - 1 ∧ mayB G .lost k = true
        · rw [if_pos h, if_neg]
          · show Except.ok (_, q, u) = _
            rw [show (Quire.Note.lost k).at_ + 1 = 2 * k by show 2 * k - 1 + 1 = _; omega]
          · rintro (z | z)
            · have : 2 * k - 1 + 1 ≤ last := z; omega
            · have e2 : Quire.Note.may G (.lost k) = true := by
                show (decide (1 ≤ k) && (decide (k ≤ G.size) && G.fate (G.partner (k - 1)) != .cut)) = true
                have := h.2.2
                unfold mayB at this
                rw [if_pos rfl] at this
                rw [decide_eq_true h.1.1, decide_eq_true h.1.2, this]; rfl
              rw [e2] at z; cases z
        · rw [if_neg h, if_pos]
          by_cases h1 : 2 * k - 1 + 1 ≤ last
          · exact .inl h1
          · right
            rw [Bool.eq_false_iff]
            intro z
            have z : (decide (1 ≤ k) && (decide (k ≤ G.size) && G.fate (G.partner (k - 1)) != .cut)) = true := z
            rw [Bool.and_eq_true, Bool.and_eq_true, decide_eq_true_eq, decide_eq_true_eq] at z
            exact h ⟨⟨z.1, z.2.1⟩, by omega, by unfold mayB; rw [if_pos rfl]; exact z.2.2⟩
      | cut =>
        rw [if_neg (show ¬ Quire.Fate.cut = Quire.Fate.lost by decide)]
        by_cases h : (1 ≤ k ∧ k ≤ G.size) ∧ last ≤ 2 * k - 1 ∧ mayB G .cut k = true
        · rw [if_pos h, if_neg]
          · show Except.ok (_, q, u) = _
            rw [show (Quire.Note.cut k).at_ + 1 = 2 * k by show 2 * k - 1 + 1 = _; omega]
          · rintro (z | z)
            · have : 2 * k - 1 + 1 ≤ last := z; omega
            · have e2 : Quire.Note.may G (.cut k) = true := by
                show (decide (1 ≤ k) && (decide (k ≤ G.size) && Quire.cutOk G (k - 1))) = true
                have := h.2.2
                unfold mayB at this
                rw [if_neg (by decide)] at this
                rw [decide_eq_true h.1.1, decide_eq_true h.1.2, this]; rfl
              rw [e2] at z; cases z
        · rw [if_neg h, if_pos]
          by_cases h1 : 2 * k - 1 + 1 ≤ last
          · exact .inl h1
          · right
            rw [Bool.eq_false_iff]
            intro z
            have z : (decide (1 ≤ k) && (decide (k ≤ G.size) && Quire.cutOk G (k - 1))) = true := z
            rw [Bool.and_eq_true, Bool.and_eq_true, decide_eq_true_eq, decide_eq_true_eq] at z
            exact h ⟨⟨z.1, z.2.1⟩, by omega, by unfold mayB; rw [if_neg (by decide)]; exact z.2.2⟩
  unfold noteM Quire.noteAt Quire.headAt
  cases z : t[p]? with
  | none =>
    rw [drop_none z, if_neg (by simp), if_neg (by simp)]
    rfl
  | some c =>
    rw [drop_some z]
    by_cases h1 : c = Quire.MINUS
    · dsimp only
      rw [if_pos h1, if_pos (by rw [h1]; rfl)]
      have := lf .lost (by decide) (t.drop (p + 1))
      rw [show (c :: t.drop (p + 1)).drop 1 = t.drop (p + 1) from rfl, ← this]
      cases Quire.number Quire.digit (p + 1) (t.drop (p + 1)) <;> rfl
    · by_cases h2 : c = Quire.OVER
      · dsimp only
        rw [if_neg h1, if_pos h2, if_neg (by simpa using h1), if_pos (by rw [h2]; rfl)]
        have := lf .cut (by decide) (t.drop (p + 1))
        rw [show (c :: t.drop (p + 1)).drop 1 = t.drop (p + 1) from rfl, ← this]
        cases Quire.number Quire.digit (p + 1) (t.drop (p + 1)) <;> rfl
      · dsimp only
        rw [if_neg h1, if_neg h2, if_neg (by simpa using h1), if_neg (by simpa using h2)]
        unfold gapNote
        rw [← drop_some z]
        cases z2 : Quire.number Quire.digit p (t.drop p) with
        | error e => rfl
        | ok v =>
          obtain ⟨k, q, u⟩ := v
          have hu := num_drop z2
          subst hu
          dsimp only
          by_cases h : k ≤ G.size ∧ last ≤ 2 * k
          · rw [if_pos h, if_neg]
            · exact put_eq
            · rintro (z | z)
              · have : 2 * k + 1 ≤ last := z; omega
              · have z : decide (k ≤ G.size) = false := z
                rw [decide_eq_true h.1] at z; cases z
          · rw [if_neg h, if_pos]
            by_cases h1 : 2 * k + 1 ≤ last
            · exact .inl h1
            · right
              show decide (k ≤ G.size) = false
              exact decide_eq_false fun z => h ⟨z, by omega⟩
theorem ixN_nat {n k : Nat} (h : k < n) : ixN n (k : Int) = some k := by
  unfold ixN
  rw [if_pos (by omega), if_pos (by omega)]
  congr 1
theorem GAt.rdr {a : Adr} {H H' : Hp} {x : GA} {G : Quire.Gath} {r tl : Addr} {p : Nat} (h : GAt a H x G) (R : RdAt a H r tl p) (k : Kb [r] H H') : GAt a H' x G := by
  obtain ⟨dx, e⟩ := h.obj
  refine ⟨⟨dx, ?_⟩, kr R k h.sig (by intro _ _ _ z; cases z), kr R k h.st (by intro _ _ _ z; cases z), kr R k h.gp (by intro _ _ _ z; cases z), h.ga.keep fun b w _ hb => kr R k hb (by intro _ _ _ z; cases z), h.nf, h.np, h.sz, h.pl, h.tm⟩
  obtain ⟨dr, er⟩ := R
  refine k _ _ e ?_
  intro z
  have z : x.g = r := by simpa using z
  rw [z, er] at e
  have := HO.ins.inj (Option.some.inj e)
  exact absurd (congrArg List.length this.2.2) (by simp [rf, gf])
theorem GAt.st_ne {a : Adr} {H : Hp} {x : GA} {G : Quire.Gath} (h : GAt a H x G) : x.st ≠ x.g ∧ x.st ≠ x.sg ∧ x.st ≠ x.gp ∧ ∀ b ∈ x.ga, x.st ≠ b := by
  obtain ⟨dx, e⟩ := h.obj
  refine ⟨ne_of h.st e (by intro z; cases z), ne_of h.st h.sig (by intro z; cases z), ne_of h.st h.gp ?_, fun b hb => ?_⟩
  · intro z
    have z := HO.lst.inj z
    cases hg : x.ga with
    | nil => rw [hg] at z; cases z
    | cons c r => rw [hg] at z; have := (List.cons.inj z).1; cases this
  · obtain ⟨w, hw⟩ := h.ga.mem hb
    refine ne_of h.st hw ?_
    intro z
    have z := HO.lst.inj z
    cases w with
    | nil => cases z
    | cons s r =>
      have z : V.int ((0 : Nat) : Int) = V.int (s.num : Nat) := (List.cons.inj z).1
      have := V.int.inj z
      cases s <;> simp [Quire.Sign.num] at this
theorem GAt.gp_ne {a : Adr} {H : Hp} {x : GA} {G : Quire.Gath} (h : GAt a H x G) : x.gp ≠ x.g ∧ x.gp ≠ x.sg ∧ x.gp ≠ x.st ∧ ∀ b, (∃ w, H b = some (.lst ((Quire.nums w).map cV))) → x.gp ≠ b := by
  obtain ⟨dx, e⟩ := h.obj
  refine ⟨ne_of h.gp e (by intro z; cases z), ne_of h.gp h.sig (by intro z; cases z), h.st_ne.2.2.1.symm, fun b ⟨w, hw⟩ => ?_⟩
  refine ne_of h.gp hw ?_
  intro z
  have z := HO.lst.inj z
  have hl : x.ga.length = G.size + 1 := by rw [h.ga.len, h.np]
  cases hg : x.ga with
  | nil => rw [hg] at hl; simp at hl
  | cons c r =>
    rw [hg] at z
    cases w with
    | nil => cases z
    | cons s r => have := (List.cons.inj z).1; cases this
theorem GAt.setSt {a : Adr} {H : Hp} {x : GA} {G : Quire.Gath} (h : GAt a H x G) (fs : List Quire.Fate) (hl : fs.length = G.fates.length) : GAt a (upd H x.st (.lst ((0 :: fs.map fN).map cV))) x { G with fates := fs } := by
  obtain ⟨n1, n2, n3, n4⟩ := h.st_ne
  obtain ⟨dx, e⟩ := h.obj
  refine ⟨⟨dx, by rw [upd_ne n1.symm]; exact e⟩, by rw [upd_ne n2.symm]; exact h.sig, upd_same, by rw [upd_ne n3.symm]; exact h.gp, h.ga.keep fun b w m hb => by rw [upd_ne (n4 b m).symm]; exact hb, by rw [hl]; exact h.nf, h.np, h.sz, h.pl, h.tm⟩
theorem GpAll.set {H : Hp} {b : Addr} {w : Quire.Word} (hb : H b = some (.lst ((Quire.nums w).map cV))) : ∀ {xs : List Addr} {ss : List Quire.Word} (i : Nat), GpAll H xs ss → GpAll H (xs.set i b) (ss.set i w)
  | [], [], _, _ => trivial
  | _ :: _, _ :: _, 0, h => ⟨hb, h.2⟩
  | _ :: _, _ :: _, i + 1, h => ⟨h.1, GpAll.set hb i h.2⟩
  | [], _ :: _, _, h => h.elim
  | _ :: _, [], _, h => h.elim
theorem GAt.setGp {a : Adr} {H : Hp} {x : GA} {G : Quire.Gath} (h : GAt a H x G) {b : Addr} {w : Quire.Word} (k : Nat) (hb : H b = some (.lst ((Quire.nums w).map cV))) (hw : w.length ≤ 21) :
    GAt a (upd H x.gp (.lst ((x.ga.set k b).map V.ref))) { x with ga := x.ga.set k b } { G with puts := G.puts.set k w } := by
  obtain ⟨n1, n2, n3, n4⟩ := h.gp_ne
  obtain ⟨dx, e⟩ := h.obj
  refine ⟨⟨dx, by show upd _ _ _ x.g = _; rw [upd_ne n1.symm]; exact e⟩, by show upd _ _ _ x.sg = _; rw [upd_ne n2.symm]; exact h.sig, by show upd _ _ _ x.st = _; rw [upd_ne n3.symm]; exact h.st, upd_same, ?_, h.nf, by rw [List.length_set]; exact h.np, h.sz, fun u hu => ?_, h.tm⟩
  · refine (h.ga.set hb k).keep fun c u m hc => ?_
    rw [upd_ne (n4 c ⟨u, hc⟩).symm]; exact hc
  · rcases List.mem_or_eq_of_mem_set hu with hu | hu
    · exact h.pl u hu
    · rw [hu]; exact hw
section
variable {P : Program} {w : World} {K : PySem.W.Frag} {mg : Str → Option Value} {base : Heap} {a : Adr}
def spMay (a : Adr) : Sp := fun vs H Q _ => ∃ (x : GA) (G : Quire.Gath) (k : Nat) (f : Quire.Fate), vs = [.ref x.g, .int k, .int (fN f : Nat)] ∧ GAt a H x G ∧ 1 ≤ k ∧ k ≤ G.size ∧ Q (.bl (mayB G f k)) H
theorem sc_may : FnScope ["gathering", "k", "state"] ["gathering", "k", "state"] (defScope s_may_become) := ⟨rfl, rfl, rfl, by decide +kernel, rfl, by decide +kernel, by decide +kernel⟩
theorem ok_may (T : Txt K mg a) (OS : Ok P w K mg base CX0 2 "partner_state" ["gathering", "k"] (spPState a)) (OM : Ok P w K mg base CX0 3 "may_be_cut" ["gathering", "k"] (spMayCut a)) (d : Df K mg "may_become" s_may_become ["gathering", "k", "state"]) : Ok P w K mg base CX0 4 "may_become" ["gathering", "k", "state"] (spMay a) := by
  refine d.ok fun f fd F => ?_
  refine F.ok sc_may (fun vs H Q E h => ?_) (fun cdv A outer s H vs Q E hr h => ?_)
  · obtain ⟨x, _, _, _, rfl, _⟩ := h
    rfl
  · obtain ⟨x, G, k, ft, rfl, g, k1, k2, q⟩ := h
    refine ⟨_, pss_cons (ps_if (pt_cmpR op_eq (pv 2) (pe_gi T.LOST) (nomark _)) (pss_one (ps_ret (pe_cmpR op_ne (pe_f OS hr pass0 (pa_cons (pv 0) (pa_cons (pv 1) pa_nil))) (pe_gi T.CUT) (nomark _)))) pss_nil)
      (pss_one (ps_ret (pe_f OM hr pass0 (pa_cons (pv 0) (pa_cons (pv 1) pa_nil))))), ?_⟩
    refine ⟨_, rfl, rfl, _, rfl, ?_⟩
    unfold mayB at q
    by_cases hf : ft = .lost
    · subst hf
      rw [if_pos rfl] at q
      refine (if_pos rfl).mpr ?_
      refine ⟨_, rfl, _, rfl, x, G, k, rfl, g, k1, k2, rfl, ?_⟩
      have e : (!decide (V.int (fN (G.fate (G.partner (k - 1))) : Nat) = V.int 2)) = (G.fate (G.partner (k - 1)) != .cut) := by
        cases G.fate (G.partner (k - 1)) <;> rfl
      rw [e]
      exact q
    · rw [if_neg hf] at q
      refine (if_neg (by cases ft <;> first | exact absurd rfl hf | decide)).mpr ?_
      exact ⟨_, rfl, _, rfl, x, G, k, rfl, g, k1, k2, q⟩
def NoteK (a : Adr) (x : GA) (Q : VK) : Quire.Gath × Nat → Nat → Hp → Prop := fun v _ H' => ∀ ga, GAt a H' { x with ga := ga } v.1 → Q (.int ((v.2 : Int) - 1)) H'
def spLeafNote (K : PySem.W.Frag) (a : Adr) : Sp := fun vs H Q E => ∃ (r tl : Addr) (t : List Nat) (p last : Nat) (x : GA) (G : Quire.Gath) (f : Quire.Fate), vs = [.ref r, .ref x.g, .int ((last : Int) - 1), .int (fN f : Nat)] ∧ RT K a H r tl t p ∧ GAt a H x G ∧
  Rds a E [r, x.st, x.gp] H r tl (leafNote G last f p (t.drop (p + 1))) (NoteK a x Q)
theorem sc_lnote : FnScope ["reader", "gathering", "rank_before", "state", "start", "k"] ["reader", "gathering", "rank_before", "state"] (defScope s_read_leaf_note) := ⟨rfl, rfl, rfl, by decide +kernel, rfl, by decide +kernel, by decide +kernel⟩
theorem ok_lnote (T : Txt K mg a) (OC : Ok P w K mg base (CXR P w) 3 "check" ["right", "place"] (spCheck a)) (OA : MOk P w K mg base CX0 1 a.CR "advance" ["self"] (spAdvance a)) (ON : MOk P w K mg base (CXR P w) 4 a.CR "read_number" ["self", "digits"] (spNumber K a))
    (OM : Ok P w K mg base CX0 4 "may_become" ["gathering", "k", "state"] (spMay a))
    (d : Df K mg "read_leaf_note" s_read_leaf_note ["reader", "gathering", "rank_before", "state"]) : Ok P w K mg base (CXR P w) 5 "read_leaf_note" ["reader", "gathering", "rank_before", "state"] (spLeafNote K a) := by
  refine d.ok fun f fd F => ?_
  refine F.okX sc_lnote (fun vs H Q E h => ?_) (fun cdv A outer s H vs Q E hr h => ?_)
  · obtain ⟨x, _, _, _, _, _, _, _, rfl, _⟩ := h
    rfl
  · obtain ⟨r, tl, t, p, last, x, G, ft, rfl, R, g, q⟩ := h
    obtain ⟨dx, hx⟩ := R.at_
    refine ⟨_, pss_cons (ps_set (i := 4) sc_lnote.nd rfl (Or.inl rfl) (pe_fld (pv 0) rfl))
      (pss_cons (ps_expr (pe_mz OA hr pass0 (pv 0)))
      (pss_cons (ps_set (i := 5) sc_lnote.nd rfl (Or.inl rfl) (pe_m ON hr passX (pv 0) (pa_cons (pe_gr T.dg) pa_nil)))
      (pss_cons (ps_expr (pe_f OC hr passX (pa_cons (pe_chain op_le op_le pe_int (pv 5) (pe_fld (pv 1) rfl)) (pa_cons (pv 4) pa_nil))))
      (pss_cons (ps_expr (pe_f OC hr passX (pa_cons (pe_cmpR op_gt (pe_op op_sub (pe_op op_mul pe_int (pv 5)) pe_int) (pv 2) (nomark _)) (pa_cons (pv 4) pa_nil))))
      (pss_cons (ps_expr (pe_f OC hr passX (pa_cons (pe_f OM hr pass0 (pa_cons (pv 1) (pa_cons (pv 5) (pa_cons (pv 3) pa_nil)))) (pa_cons (pv 4) pa_nil))))
      (pss_cons (ps_asg (pv 3) (pg_sub (pe_fld (pv 1) rfl) (pv 5) set_list))
      (pss_one (ps_ret (pe_op op_sub (pe_op op_mul pe_int (pv 5)) pe_int))))))))), ?_⟩
    refine ⟨_, rfl, r, a.CR, dx, _, _, rfl, hx, T.clR, T.nRp, rf_place, _, rfl, r, dx, _, rfl, hx, rfl, r, tl, dx, p, rfl, hx, ?_⟩
    refine adv (a := a) (fun H' => _) fun H1 k1 r1 => ?_
    have R1 := R.go k1 r1
    have g1 := g.rdr R.at_ k1
    obtain ⟨dx1, hx1⟩ := r1
    refine ⟨_, rfl, r, dx1, _, rfl, hx1, rfl, r, tl, a.dg, t, digitsL, Quire.digit, p + 1, rfl, R1, T.dgS, by decide, dig_dec, ?_⟩
    have ex : ∀ b, b ∈ [r] → b ∈ [r, x.st, x.gp] := by simp
    unfold leafNote at q
    cases z : Quire.number Quire.digit (p + 1) (t.drop (p + 1)) with
    | error e => rw [z] at q; exact q.of (k1.mono ex) ex
    | ok v =>
      obtain ⟨k, p1, u⟩ := v
      rw [z] at q
      dsimp only at q
      intro H2 k2 r2
      have k02 : Kb [r, x.st, x.gp] H H2 := (k1.trans k2).mono ex
      have g2 := g1.rdr ⟨dx1, hx1⟩ k2
      obtain ⟨dg2, ho2⟩ := g2.obj
      have bad : ¬ ((1 ≤ k ∧ k ≤ G.size) ∧ last ≤ 2 * k - 1 ∧ mayB G ft k = true) → Flt a E [] H2 (p : Nat) := fun hb => by
        rw [if_neg hb] at q
        exact q.of k02 (by simp)
      refine ⟨_, rfl, _, _, rfl, rfl, _, rfl, ?_⟩
      refine ite2 (fun e => ?_) fun e => ?_
      · have h1 : 1 ≤ k := by have := of_decide_eq_true e; omega
        refine ⟨_, rfl, x.g, a.CG, dg2, _, _, rfl, ho2, T.clG, T.nGz, gf_size, _, _, rfl, rfl, _, rfl, _, _, rfl, fun e2 => ?_, fun e2 => bad fun z => ?_⟩
        · have h2 : k ≤ G.size := by have := of_decide_eq_true e2; omega
          refine ⟨_, rfl, _, _, rfl, rfl, .inl ⟨by decide, by decide⟩, _, _, rfl, rfl, _, rfl, _, _, rfl, rfl, _, rfl, _, _, rfl, fun e3 => ?_, fun e3 => bad fun z => ?_⟩
          · have h3 : last ≤ 2 * k - 1 := by have := of_decide_eq_true e3; omega
            refine ⟨_, rfl, _, rfl, _, rfl, x, G, k, ft, rfl, g2, h1, h2, _, rfl, _, _, rfl, fun e4 => ?_, fun e4 => bad fun z => ?_⟩
            · rw [if_pos ⟨⟨h1, h2⟩, h3, e4⟩] at q
              refine ⟨_, rfl, _, rfl, x.g, a.CG, dg2, _, _, rfl, ho2, T.clG, T.nGt, gf_states, _, rfl, x.st, _, _, k, rfl, rfl, g2.st, ixN_nat ?_, ?_⟩
              · rw [List.length_map, List.length_cons, List.length_map, g2.nf]; omega
              · have es : ((0 :: G.fates.map fN).map cV).set k (V.int (fN ft : Nat)) = (0 :: (G.fates.set (k - 1) ft).map fN).map cV := by
                  obtain ⟨j, rfl⟩ : ∃ j, k = j + 1 := ⟨k - 1, by omega⟩
                  rw [List.map_cons, List.set_cons_succ, List.map_cons, Nat.add_sub_cancel, List.map_set, List.map_set]
                  rfl
                have g3 := g2.setSt (G.fates.set (k - 1) ft) (List.length_set ..)
                have k3 : Kb [r, x.st, x.gp] H2 (upd H2 x.st (.lst ((0 :: (G.fates.set (k - 1) ft).map fN).map cV))) := Kb.put (by simp)
                rw [es]
                have r3 : RdAt a (upd H2 x.st (.lst ((0 :: (G.fates.set (k - 1) ft).map fN).map cV))) r tl p1 := by
                  obtain ⟨dx2, hx2⟩ := r2
                  exact ⟨dx2, by rw [upd_ne (ne_of hx2 g2.st (by intro z; cases z))]; exact hx2⟩
                refine ⟨_, rfl, _, _, rfl, rfl, .inl ⟨by decide, by decide⟩, _, _, rfl, rfl, ?_⟩
                have z2 := q _ (k02.trans k3) r3 x.ga g3
                have ek : ((2 * k : Nat) : Int) - 1 = 2 * (k : Int) - 1 := by omega
                dsimp only at z2
                rw [ek] at z2
                exact z2
            · rw [z.2.2] at e4; cases e4
          · have := of_decide_eq_false e3; omega
        · have := of_decide_eq_false e2; omega
      · refine ⟨_, rfl, _, _, rfl, (fun e2 => nomatch e2), fun e2 => bad fun z => e (decide_eq_true (by omega))⟩
end
section
variable {P : Program} {w : World} {K : PySem.W.Frag} {mg : Str → Option Value} {base : Heap} {a : Adr}
def RowK (Q : VK) : Quire.Word → Nat → Hp → Prop := fun w _ H' => ∀ l, H' l = some (.lst ((Quire.nums w).map cV)) → Q (.ref l) H'
def spCntRow (K : PySem.W.Frag) (a : Adr) : Sp := fun vs H Q E => ∃ (r tl : Addr) (t : List Nat) (p e : Nat), vs = [.ref r, .int e] ∧ RT K a H r tl t p ∧ Rds a E [r] H r tl (cntAt e p (t.drop p)) (RowK Q)
theorem sc_crow : FnScope ["reader", "start", "count"] ["reader", "start"] (defScope s_read_counted_row) := ⟨rfl, rfl, rfl, by decide +kernel, rfl, by decide +kernel, by decide +kernel⟩
theorem ok_crow (T : Txt K mg a) (OC : Ok P w K mg base (CXR P w) 3 "check" ["right", "place"] (spCheck a)) (ON : MOk P w K mg base (CXR P w) 4 a.CR "read_number" ["self", "digits"] (spNumber K a)) (OL : Ok P w K mg base CX0 1 "leaves_alone" ["count"] spAlone)
    (d : Df K mg "read_counted_row" s_read_counted_row ["reader", "start"]) : Ok P w K mg base (CXR P w) 5 "read_counted_row" ["reader", "start"] (spCntRow K a) := by
  refine d.ok fun f fd F => ?_
  refine F.okX sc_crow (fun vs H Q E h => ?_) (fun cdv A outer s H vs Q E hr h => ?_)
  · obtain ⟨x, _, _, _, _, rfl, _⟩ := h
    rfl
  · obtain ⟨r, tl, t, p, e0, rfl, R, q⟩ := h
    obtain ⟨dx, hx⟩ := R.at_
    refine ⟨_, pss_cons (ps_set (i := 2) sc_crow.nd rfl (Or.inl rfl) (pe_m ON hr passX (pv 0) (pa_cons (pe_gr T.dg) pa_nil)))
      (pss_cons (ps_expr (pe_f OC hr passX (pa_cons (pe_chain op_le op_le pe_int (pv 2) (pe_gi T.MOST_COUNTED)) (pa_cons (pv 1) pa_nil))))
      (pss_one (ps_ret (pe_f OL hr pass0 (pa_cons (pv 2) pa_nil))))), ?_⟩
    refine ⟨_, rfl, r, dx, _, rfl, hx, rfl, r, tl, a.dg, t, digitsL, Quire.digit, p, rfl, R, T.dgS, by decide, dig_dec, ?_⟩
    unfold cntAt at q
    cases z : Quire.number Quire.digit p (t.drop p) with
    | error e => rw [z] at q; exact q
    | ok v =>
      obtain ⟨n, p1, u⟩ := v
      rw [z] at q
      dsimp only at q
      intro H1 k1 r1
      have bad : ¬ (1 ≤ n ∧ n ≤ 9) → Flt a E [] H1 (e0 : Nat) := fun hb => by
        rw [if_neg hb] at q
        exact q.of k1 (by simp)
      refine ⟨_, rfl, _, _, rfl, rfl, _, rfl, ?_⟩
      refine ite2 (fun e => ?_) fun e => ?_
      · have h1 : 1 ≤ n := by have := of_decide_eq_true e; omega
        refine ⟨_, _, rfl, rfl, _, rfl, _, _, rfl, fun e2 => ?_, fun e2 => bad fun z => ?_⟩
        · have h2 : n ≤ 9 := by have := of_decide_eq_true e2; omega
          rw [if_pos ⟨h1, h2⟩] at q
          refine ⟨_, rfl, n, rfl, by omega, fun H2 l s2 _ hl => ?_⟩
          refine q H2 (k1.trans s2.kb) (rd_same r1 s2) l ?_
          rw [hl]
          unfold Quire.nums
          simp only [List.map_replicate]
          rfl
        · have := of_decide_eq_false e2; omega
      · refine ⟨_, rfl, _, _, rfl, (fun e2 => nomatch e2), fun e2 => bad fun z => e (decide_eq_true (by omega))⟩
def spTldRow (K : PySem.W.Frag) (a : Adr) : Sp := fun vs H Q E => ∃ (r tl : Addr) (t : List Nat) (p e : Nat), vs = [.ref r, .int e] ∧ RT K a H r tl t p ∧ Rds a E [r] H r tl (toldRowAt e p (t.drop p)) (RowK Q)
theorem sc_trow : FnScope ["reader", "start", "row", "sign"] ["reader", "start"] (defScope s_read_told_row) := ⟨rfl, rfl, rfl, by decide +kernel, rfl, by decide +kernel, by decide +kernel⟩
theorem ok_trow (T : Txt K mg a) (OC : Ok P w K mg base (CXR P w) 3 "check" ["right", "place"] (spCheck a)) (OX : MOk P w K mg base (CXR P w) 4 a.CR "expect" ["self", "character"] (spExpect K a)) (OP : MOk P w K mg base CX0 1 a.CR "peek" ["self"] (spPeek K a)) (OA : MOk P w K mg base CX0 1 a.CR "advance" ["self"] (spAdvance a))
    (OR : Ok P w K mg base CX0 2 "row_sign" ["character"] spRow) (OG : Ok P w K mg base CX0 2 "is_gathering" ["row"] (spIsG K)) (OU : Ok P w K mg base CX0 2 "is_counted" ["row"] (spCounted K))
    (d : Df K mg "read_told_row" s_read_told_row ["reader", "start"]) : Ok P w K mg base (CXR P w) 5 "read_told_row" ["reader", "start"] (spTldRow K a) := by
  refine d.ok fun f fd F => ?_
  refine F.okX sc_trow (fun vs H Q E h => ?_) (fun cdv A outer s H vs Q E hr h => ?_)
  · obtain ⟨x, _, _, _, _, rfl, _⟩ := h
    rfl
  · obtain ⟨r, tl, t, p, e0, rfl, R, q⟩ := h
    obtain ⟨dx, hx⟩ := R.at_
    refine ⟨_, pss_cons (ps_expr (pe_m OX hr passX (pv 0) (pa_cons (pe_gi T.ANGLE_OPEN) pa_nil)))
      (pss_cons (ps_set (i := 2) sc_trow.nd rfl (Or.inl rfl) (pe_lst pa_nil))
      (pss_cons (ps_set (i := 3) sc_trow.nd rfl (Or.inl rfl) (pe_f OR hr pass0 (pa_cons (pe_mz OP hr pass0 (pv 0)) pa_nil)))
      (pss_cons (ps_while ownX (pt_cmpR op_gt (pv 3) pe_int (nomark _))
        (pss_cons (ps_expr (pe_bm PySem.F.plainAttrs_list PySem.F.slot_list_append PySem.F.type_list_append mt_append (pv 2) (pa_cons (pv 3) pa_nil)))
        (pss_cons (ps_expr (pe_mz OA hr pass0 (pv 0)))
        (pss_one (ps_set (i := 3) sc_trow.nd rfl (Or.inl rfl) (pe_f OR hr pass0 (pa_cons (pe_mz OP hr pass0 (pv 0)) pa_nil)))))))
      (pss_cons (ps_expr (pe_m OX hr passX (pv 0) (pa_cons (pe_gi T.ANGLE_CLOSE) pa_nil)))
      (pss_cons (ps_expr (pe_f OC hr passX (pa_cons (pe_and (pe_cmpR (op_neD hr.units) (pv 2) (pe_lst pa_nil) (nomark _)) (pe_and (pe_f OG hr pass0 (pa_cons (pv 2) pa_nil)) (pe_one (pe_not (pe_f OU hr pass0 (pa_cons (pv 2) pa_nil)))))) (pa_cons (pv 1) pa_nil))))
      (pss_one (ps_ret (pv 2)))))))), ?_⟩
    refine ⟨_, rfl, r, dx, _, rfl, hx, rfl, r, tl, t, p, Quire.LANGLE, rfl, R, ?_⟩
    unfold toldRowAt at q
    cases z : Quire.charAt Quire.LANGLE p (t.drop p) with
    | error e => rw [z] at q; exact q
    | ok v =>
      obtain ⟨_, p1, u⟩ := v
      obtain ⟨hu, _, _⟩ := char_drop z
      subst hu
      rw [z] at q
      dsimp only at q
      intro H1 k1 r1
      refine ⟨Nat.zero_le _, fun l hl => ?_⟩
      have k2 : Kb [r] H (upd H1 l (.lst [])) := k1.trans (Kb.new hl)
      have r2 := rd_new (u := .lst []) r1 hl
      have hl2 : upd H1 l (.lst []) l = some (.lst ((Quire.nums []).map cV)) := upd_same
      generalize upd H1 l (.lst []) = H2 at k2 r2 hl2
      have R2 := R.go k2 r2
      obtain ⟨dx2, hx2⟩ := r2
      refine ⟨_, rfl, r, dx2, _, rfl, hx2, rfl, r, tl, t, p1, rfl, R2, _, rfl, ?_⟩
      have hq0 : Quire.signsAt p1 (t.drop p1) = consR [] (Quire.signsAt p1 (t.drop p1)) := by
        cases Quire.signsAt p1 (t.drop p1) <;> rfl
      refine ⟨fun m σ H' => ∃ ws p', σ = [some (.ref r), some (.int (e0 : Nat)), some (.ref l), some (.int (posI rowL (pk t p') + 1))] ∧ m = t.length - p' ∧ Kb [r] H H' ∧ RdAt a H' r tl p' ∧ H' l = some (.lst ((Quire.nums ws).map cV)) ∧ ws.length ≤ p' ∧ p' ≤ t.length + 1 ∧ Quire.signsAt p1 (t.drop p1) = consR ws (Quire.signsAt p' (t.drop p')),
        ⟨_, [], p1, rfl, rfl, k2, ⟨dx2, hx2⟩, hl2, by simp, by have := (char_drop z).2; omega, hq0⟩, ?_⟩
      rintro m σ H3 ⟨ws, p', rfl, rfl, k3, r3, hl3, hw3, hp3, hq3⟩
      have R3 := R.go k3 r3
      obtain ⟨dx3, hx3⟩ := r3
      refine ⟨_, rfl, _, _, rfl, rfl, _, rfl, ?_⟩
      refine ite2 (fun e => ?_) fun e => ?_
      · obtain ⟨c, sg, hc, hs⟩ : ∃ c sg, t[p']? = some c ∧ Quire.signs.find? (fun s => s.byte.toNat == c) = some sg := by
          have hpos : 0 < posI rowL (pk t p') + 1 := of_decide_eq_true e
          cases z1 : t[p']? with
          | none => rw [pk_none z1, posI_end] at hpos; omega
          | some c =>
            rw [pk_some z1, row_pos] at hpos
            cases z2 : Quire.signs.find? (fun s => s.byte.toNat == c) with
            | none => rw [z2] at hpos; dsimp only at hpos; omega
            | some sg => exact ⟨c, sg, rfl, z2⟩
        have hv : posI rowL (pk t p') + 1 = (sg.num : Nat) := by
          rw [pk_some hc, row_pos, hs]
          show ((sg.num : Nat) : Int) - 1 + 1 = _
          omega
        have hp' : p' < t.length := (List.getElem?_eq_some_iff.mp hc).1
        rw [hv]
        refine ⟨_, fun _ _ h => h, ?_⟩
        have hlen := R3.len
        refine ⟨_, rfl, .inl ⟨rfl, _, SqL.of hl3⟩, _, rfl, l, _, _, rfl, rfl, hl3, ?_, ?_⟩
        · rw [List.length_map, nums_len]
          exact Nat.lt_of_le_of_lt (show _ ≤ 40000 by omega) (by decide)
        have nl : r ≠ l := ne_of hx3 hl3 (by intro z; cases z)
        have hl4 : upd H3 l (.lst ((Quire.nums ws).map cV ++ [V.int (sg.num : Nat)])) l = some (.lst ((Quire.nums (ws ++ [sg])).map cV)) := by
          rw [upd_same, nums_app, List.map_append]; rfl
        have hx4 : upd H3 l (.lst ((Quire.nums ws).map cV ++ [V.int (sg.num : Nat)])) r = some (.ins a.CR dx3 (rf tl p')) := by rw [upd_ne nl]; exact hx3
        have k4 : Kb [r] H (upd H3 l (.lst ((Quire.nums ws).map cV ++ [V.int (sg.num : Nat)]))) := fun b o hb n => by
          have nb : b ≠ l := fun e => by
            subst e
            have z := k1 b o hb n
            rw [hl] at z; cases z
          rw [upd_ne nb]; exact k3 b o hb n
        generalize upd H3 l (.lst ((Quire.nums ws).map cV ++ [V.int (sg.num : Nat)])) = H4 at hl4 hx4 k4
        refine ⟨_, rfl, r, dx3, _, rfl, hx4, rfl, r, tl, dx3, p', rfl, hx4, ?_⟩
        refine adv (a := a) (fun H' => _) fun H5 k5 r5 => ?_
        have R5 := R.go (k4.trans k5) r5
        have hl5 := k5 _ _ hl4 (by simpa using nl.symm)
        obtain ⟨dx5, hx5⟩ := r5
        refine ⟨_, rfl, r, dx5, _, rfl, hx5, rfl, r, tl, t, p' + 1, rfl, R5, _, rfl, ?_⟩
        refine ⟨t.length - (p' + 1), by omega, ws ++ [sg], p' + 1, rfl, rfl, k4.trans k5, ⟨dx5, hx5⟩, hl5, by simp; omega, by omega, ?_⟩
        rw [hq3, signs_step hc hs]
      · have hneg : ∀ c, t[p']? = some c → Quire.signs.find? (fun s => s.byte.toNat == c) = none := fun c hc => by
          have h1 : ¬ 0 < posI rowL (pk t p') + 1 := fun z => e (decide_eq_true z)
          rw [pk_some hc, row_pos] at h1
          cases z2 : Quire.signs.find? (fun s => s.byte.toNat == c) with
          | none => rfl
          | some sg =>
            rw [z2] at h1
            exfalso
            apply h1
            dsimp only
            cases sg <;> decide
        rw [hq3, signs_end hneg] at q
        refine ⟨_, rfl, r, dx3, _, rfl, hx3, rfl, r, tl, t, p', Quire.RANGLE, rfl, R3, ?_⟩
        cases z5 : Quire.charAt Quire.RANGLE p' (t.drop p') with
        | error e => rw [z5] at q; exact q.of k3 (by simp)
        | ok v =>
          obtain ⟨_, p5, u5⟩ := v
          rw [z5] at q
          have q : Rds a E [r] H r tl (if ws ≠ [] ∧ Quire.right ws = true ∧ Quire.counted ws = false then .ok (ws, p5, u5) else .error e0) (RowK Q) := by
            have q' : Rds a E [r] H r tl (if ws ++ [] ≠ [] ∧ Quire.right (ws ++ []) = true ∧ Quire.counted (ws ++ []) = false then .ok (ws ++ [], p5, u5) else .error e0) (RowK Q) := q
            rw [List.append_nil] at q'
            exact q'
          intro H6 k6 r6
          have k06 := k3.trans k6
          have nl : r ≠ l := ne_of hx3 hl3 (by intro z; cases z)
          have hl6 := k6 _ _ hl3 (by simpa using nl.symm)
          have bad : ∀ H7, Same H6 H7 → ¬ (ws ≠ [] ∧ Quire.right ws = true ∧ Quire.counted ws = false) → Flt a E [] H7 (e0 : Nat) := fun H7 s7 hb => by
            rw [if_neg hb] at q
            exact q.of (k06.trans s7.kb) (by simp)
          have good : ∀ H7, Same H6 H7 → ws ≠ [] ∧ Quire.right ws = true ∧ Quire.counted ws = false → Q (.ref l) H7 := fun H7 s7 hb => by
            rw [if_pos hb] at q
            exact q H7 (k06.trans s7.kb) (rd_same r6 s7) l (s7 _ _ hl6)
          refine ⟨_, rfl, Nat.zero_le _, fun c hc => ?_⟩
          have s7 : Same H6 (upd H6 c (.lst [])) := Same.new hc
          have hc7 : upd H6 c (.lst []) c = some (.lst (([] : List Nat).map cV)) := upd_same
          generalize upd H6 c (.lst []) = H7 at s7 hc7
          have hl7 := s7 _ _ hl6
          refine ⟨.list ((Quire.nums ws).map dN), .list (([] : List Nat).map dN), .lst (SqL.of hl7) (dp_nats _), .lst (SqL.of hc7) (dp_nats _), shaped_list _, shaped_list _, ?_⟩
          rw [PyData.eqv, eqv_nats]
          refine ⟨_, rfl, ?_⟩
          refine ite2 (fun e1 => ?_) fun e1 => ?_
          · have h1 : ws ≠ [] := by
              intro z; subst z; exact absurd e1 (by decide)
            refine ⟨_, rfl, l, Quire.nums ws, rfl, SqL.of hl7, fun H8 s8 => ⟨_, rfl, ?_⟩⟩
            rw [gOk_eq]
            refine ite2 (fun e2 => ?_) fun e2 => ?_
            · refine ⟨_, rfl, l, Quire.nums ws, rfl, SqL.of (s8 _ _ hl7), ?_, fun H9 s9 => ⟨_, rfl, _, rfl, _, _, rfl, fun e3 => ?_, fun e3 => bad H9 ((s7.trans s8).trans s9) fun z => ?_⟩⟩
              · have hr := e2
                unfold Quire.right at hr
                rw [Bool.and_eq_true, decide_eq_true_eq] at hr
                rw [nums_len]
                exact Nat.le_trans hr.1 (by decide)
              · rw [cntN_eq, Bool.not_eq_true'] at e3
                exact ⟨_, rfl, good H9 ((s7.trans s8).trans s9) ⟨h1, e2, e3⟩⟩
              · rw [cntN_eq, z.2.2] at e3; cases e3
            · refine ⟨_, rfl, _, _, rfl, (fun e3 => nomatch e3), fun e3 => bad H8 (s7.trans s8) fun z => e2 z.2.1⟩
          · have h1 : ws = [] := by
              cases ws with
              | nil => rfl
              | cons c r => exact absurd rfl e1
            refine ⟨_, rfl, _, _, rfl, (fun e3 => nomatch e3), fun e3 => bad H7 s7 fun z => z.1 h1⟩
end
theorem pk_is {t : List Nat} {p c : Nat} : pk t p = (c : Int) ↔ t[p]? = some c := by
  unfold pk
  cases z : t[p]? with
  | none => exact ⟨fun h => by dsimp only at h; omega, fun h => nomatch h⟩
  | some y => exact ⟨fun h => by dsimp only at h; congr 1; omega, fun h => by have := Option.some.inj h; subst this; rfl⟩
theorem note_drop {t : List Nat} {G G' : Quire.Gath} {last p l q : Nat} {u : List Nat} (h : noteM G last p (t.drop p) = .ok ((G', l), q, u)) : u = t.drop q ∧ p ≤ q := by
  have lf : ∀ f, leafNote G last f p (t.drop (p + 1)) = .ok ((G', l), q, u) → u = t.drop q ∧ p ≤ q := by
    intro f h
    unfold leafNote at h
    cases z : Quire.number Quire.digit (p + 1) (t.drop (p + 1)) with
    | error e => rw [z] at h; cases h
    | ok v =>
      obtain ⟨k, q1, u1⟩ := v
      rw [z] at h
      dsimp only at h
      split at h
      · injection h with h; injection h with _ h; injection h with h1 h2
        rw [← h2, ← h1]
        exact ⟨num_drop z, by have := number_le z; omega⟩
      · cases h
  unfold noteM at h
  have e : (t.drop p).drop 1 = t.drop (p + 1) := by rw [List.drop_drop]
  rw [e] at h
  split at h
  · exact lf _ h
  · split at h
    · exact lf _ h
    · unfold gapNote at h
      cases z : Quire.number Quire.digit p (t.drop p) with
      | error e => rw [z] at h; cases h
      | ok v =>
        obtain ⟨k, q1, u1⟩ := v
        have hu := num_drop z
        subst hu
        rw [z] at h
        dsimp only at h
        split at h
        · unfold gapPut at h
          cases z2 : Quire.charAt Quire.PLUS q1 (t.drop q1) with
          | error e => rw [z2] at h; cases h
          | ok v =>
            obtain ⟨_, q2, u2⟩ := v
            obtain ⟨hu, hq, _⟩ := char_drop z2
            subst hu
            rw [z2] at h
            dsimp only at h
            cases z3 : rowAt p q2 (t.drop q2) with
            | error e => rw [z3] at h; cases h
            | ok v =>
              obtain ⟨w, q3, u3⟩ := v
              rw [z3, gapRow] at h
              injection h with h; injection h with _ h; injection h with h1 h2
              obtain ⟨r1, r2, _⟩ := row_drop z3
              have := number_le z
              rw [← h2, ← h1]
              exact ⟨r1, by omega⟩
        · cases h
section
variable {P : Program} {w : World} {K : PySem.W.Frag} {mg : Str → Option Value} {base : Heap} {a : Adr}
def spGapNote (K : PySem.W.Frag) (a : Adr) : Sp := fun vs H Q E => ∃ (r tl : Addr) (t : List Nat) (p last : Nat) (x : GA) (G : Quire.Gath), vs = [.ref r, .ref x.g, .int ((last : Int) - 1)] ∧ RT K a H r tl t p ∧ GAt a H x G ∧
  Rds a E [r, x.st, x.gp] H r tl (gapNote G last p (t.drop p)) (NoteK a x Q)
theorem sc_gnote : FnScope ["reader", "gathering", "rank_before", "start", "k"] ["reader", "gathering", "rank_before"] (defScope s_read_gap_note) := ⟨rfl, rfl, rfl, by decide +kernel, rfl, by decide +kernel, by decide +kernel⟩
theorem ok_gnote (T : Txt K mg a) (OC : Ok P w K mg base (CXR P w) 3 "check" ["right", "place"] (spCheck a)) (ON : MOk P w K mg base (CXR P w) 4 a.CR "read_number" ["self", "digits"] (spNumber K a)) (OX : MOk P w K mg base (CXR P w) 4 a.CR "expect" ["self", "character"] (spExpect K a)) (OP : MOk P w K mg base CX0 1 a.CR "peek" ["self"] (spPeek K a))
    (OT : Ok P w K mg base (CXR P w) 5 "read_told_row" ["reader", "start"] (spTldRow K a)) (OU : Ok P w K mg base (CXR P w) 5 "read_counted_row" ["reader", "start"] (spCntRow K a))
    (d : Df K mg "read_gap_note" s_read_gap_note ["reader", "gathering", "rank_before"]) : Ok P w K mg base (CXR P w) 6 "read_gap_note" ["reader", "gathering", "rank_before"] (spGapNote K a) := by
  refine d.ok fun f fd F => ?_
  refine F.okX sc_gnote (fun vs H Q E h => ?_) (fun cdv A outer s H vs Q E hr h => ?_)
  · obtain ⟨x, _, _, _, _, _, _, rfl, _⟩ := h
    rfl
  · obtain ⟨r, tl, t, p, last, x, G, rfl, R, g, q⟩ := h
    obtain ⟨dx, hx⟩ := R.at_
    refine ⟨_, pss_cons (ps_set (i := 3) sc_gnote.nd rfl (Or.inl rfl) (pe_fld (pv 0) rfl))
      (pss_cons (ps_set (i := 4) sc_gnote.nd rfl (Or.inl rfl) (pe_m ON hr passX (pv 0) (pa_cons (pe_gr T.dg) pa_nil)))
      (pss_cons (ps_expr (pe_f OC hr passX (pa_cons (pe_cmpR op_le (pv 4) (pe_fld (pv 1) rfl) (nomark _)) (pa_cons (pv 3) pa_nil))))
      (pss_cons (ps_expr (pe_f OC hr passX (pa_cons (pe_cmpR op_gt (pe_op op_mul pe_int (pv 4)) (pv 2) (nomark _)) (pa_cons (pv 3) pa_nil))))
      (pss_cons (ps_expr (pe_m OX hr passX (pv 0) (pa_cons (pe_gi T.PLUS) pa_nil)))
      (pss_cons (ps_if (pt_cmpR op_eq (pe_mz OP hr pass0 (pv 0)) (pe_gi T.ANGLE_OPEN) (nomark _))
        (pss_one (ps_asg (pe_f OT hr passX (pa_cons (pv 0) (pa_cons (pv 3) pa_nil))) (pg_sub (pe_fld (pv 1) rfl) (pv 4) set_list)))
        (pss_one (ps_asg (pe_f OU hr passX (pa_cons (pv 0) (pa_cons (pv 3) pa_nil))) (pg_sub (pe_fld (pv 1) rfl) (pv 4) set_list))))
      (pss_one (ps_ret (pe_op op_mul pe_int (pv 4))))))))), ?_⟩
    refine ⟨_, rfl, r, a.CR, dx, _, _, rfl, hx, T.clR, T.nRp, rf_place, _, rfl, r, dx, _, rfl, hx, rfl, r, tl, a.dg, t, digitsL, Quire.digit, p, rfl, R, T.dgS, by decide, dig_dec, ?_⟩
    have ex : ∀ b, b ∈ [r] → b ∈ [r, x.st, x.gp] := by simp
    unfold gapNote at q
    cases z : Quire.number Quire.digit p (t.drop p) with
    | error e => rw [z] at q; exact q.of Kb.refl ex
    | ok v =>
      obtain ⟨k, p1, u⟩ := v
      have hu := num_drop z
      subst hu
      rw [z] at q
      dsimp only at q
      intro H2 k2 r2
      have k02 : Kb [r, x.st, x.gp] H H2 := k2.mono ex
      have g2 := g.rdr R.at_ k2
      obtain ⟨dg2, ho2⟩ := g2.obj
      have R2 := R.go k2 r2
      obtain ⟨dx2, hx2⟩ := r2
      have bad : ¬ (k ≤ G.size ∧ last ≤ 2 * k) → Flt a E [] H2 (p : Nat) := fun hb => by
        rw [if_neg hb] at q
        exact q.of k02 (by simp)
      refine ⟨_, rfl, _, rfl, x.g, a.CG, dg2, _, _, rfl, ho2, T.clG, T.nGz, gf_size, _, _, rfl, rfl, _, rfl, _, _, rfl, fun e2 => ?_, fun e2 => bad fun z => ?_⟩
      · have h2 : k ≤ G.size := by have := of_decide_eq_true e2; omega
        refine ⟨_, rfl, _, _, rfl, rfl, .inl ⟨by decide, by decide⟩, _, rfl, _, _, rfl, rfl, _, rfl, _, _, rfl, fun e3 => ?_, fun e3 => bad fun z => ?_⟩
        · have h3 : last ≤ 2 * k := by have := of_decide_eq_true e3; omega
          rw [if_pos ⟨h2, h3⟩] at q
          unfold gapPut at q
          refine ⟨_, rfl, r, dx2, _, rfl, hx2, rfl, r, tl, t, p1, Quire.PLUS, rfl, R2, ?_⟩
          cases z4 : Quire.charAt Quire.PLUS p1 (t.drop p1) with
          | error e => rw [z4] at q; exact q.of k02 ex
          | ok v =>
            obtain ⟨_, p4, u4⟩ := v
            obtain ⟨hu, hq4, _⟩ := char_drop z4
            subst hu
            rw [z4] at q
            dsimp only at q
            intro H4 k4 r4
            have k04 := k02.trans (k4.mono ex)
            have g4 := g2.rdr R2.at_ k4
            have R4 := R2.go k4 r4
            obtain ⟨dx4, hx4⟩ := r4
            have fin : ∀ (wd : Quire.Word) (p5 : Nat) (u5 : List Nat), rowAt p p4 (t.drop p4) = .ok (wd, p5, u5) → ∀ H5, Kb [r] H4 H5 → RdAt a H5 r tl p5 → ∀ b, H5 b = some (.lst ((Quire.nums wd).map cV)) →
                gSub (tFld K (tVar 1) "gaps") (tVar 4) rSetL (V.ref b) [some (.ref r), some (.ref x.g), some (.int ((last : Int) - 1)), some (.int (p : Nat)), some (.int (k : Nat))] H5
                  (fun σ H' => tRet (tOp (rI CMul fun i j => .int (i * j)) (tC (.int 2)) (tVar 4)) { nx := fun _ H' => Q .non H', rt := Q } σ H') := by
              intro wd p5 u5 hrow H5 k5 r5 b hb
              rw [hrow, gapRow] at q
              obtain ⟨_, _, hwl⟩ := row_drop hrow
              have g5 := g4.rdr R4.at_ k5
              obtain ⟨dg5, ho5⟩ := g5.obj
              have hgl : x.ga.length = G.size + 1 := by rw [g5.ga.len, g5.np]
              refine ⟨_, rfl, x.g, a.CG, dg5, _, _, rfl, ho5, T.clG, T.nGg, gf_gaps, _, rfl, x.gp, _, _, k, rfl, rfl, g5.gp, ixN_nat (by rw [List.length_map, hgl]; omega), ?_⟩
              rw [show (x.ga.map V.ref).set k (V.ref b) = (x.ga.set k b).map V.ref by rw [List.map_set]]
              have g6 := g5.setGp k hb hwl
              have k6 : Kb [r, x.st, x.gp] H5 (upd H5 x.gp (.lst ((x.ga.set k b).map V.ref))) := Kb.put (by simp)
              have r6 : RdAt a (upd H5 x.gp (.lst ((x.ga.set k b).map V.ref))) r tl p5 := by
                obtain ⟨dx5, hx5⟩ := r5
                exact ⟨dx5, by rw [upd_ne (ne_of hx5 g5.gp (by intro z; cases z))]; exact hx5⟩
              refine ⟨_, rfl, _, _, rfl, rfl, .inl ⟨by decide, by decide⟩, ?_⟩
              have z2 := q _ ((k04.trans (k5.mono ex)).trans k6) r6 _ g6
              have ek : ((2 * k + 1 : Nat) : Int) - 1 = 2 * (k : Int) := by omega
              dsimp only at z2
              rw [ek] at z2
              exact z2
            refine ⟨_, rfl, r, dx4, _, rfl, hx4, rfl, r, tl, t, p4, rfl, R4, rfl, _, rfl, ?_⟩
            by_cases hc : t[p4]? = some Quire.LANGLE
            · refine (if_pos (by rw [pk_some hc]; rfl)).mpr ?_
              have er : rowAt p p4 (t.drop p4) = toldRowAt p p4 (t.drop p4) := by unfold rowAt; rw [head_drop, if_pos hc]
              refine ⟨_, rfl, _, rfl, r, tl, t, p4, p, rfl, R4, ?_⟩
              rw [← er]
              cases z5 : rowAt p p4 (t.drop p4) with
              | error e => rw [z5, gapRow] at q; exact q.of k04 ex
              | ok v =>
                obtain ⟨wd, p5, u5⟩ := v
                intro H5 k5 r5 b hb
                exact fin wd p5 u5 z5 H5 k5 r5 b hb
            · refine (if_neg (by intro z; exact hc (pk_is.mp (by have z2 := V.int.inj (of_decide_eq_true z); exact z2)))).mpr ?_
              have er : rowAt p p4 (t.drop p4) = cntAt p p4 (t.drop p4) := by unfold rowAt; rw [head_drop, if_neg hc]
              refine ⟨_, rfl, _, rfl, r, tl, t, p4, p, rfl, R4, ?_⟩
              rw [← er]
              cases z5 : rowAt p p4 (t.drop p4) with
              | error e => rw [z5, gapRow] at q; exact q.of k04 ex
              | ok v =>
                obtain ⟨wd, p5, u5⟩ := v
                intro H5 k5 r5 b hb
                exact fin wd p5 u5 z5 H5 k5 r5 b hb
        · have := of_decide_eq_false e3; omega
      · have := of_decide_eq_false e2; omega
def spNote (K : PySem.W.Frag) (a : Adr) : Sp := fun vs H Q E => ∃ (r tl : Addr) (t : List Nat) (p last : Nat) (x : GA) (G : Quire.Gath), vs = [.ref r, .ref x.g, .int ((last : Int) - 1)] ∧ RT K a H r tl t p ∧ GAt a H x G ∧
  Rds a E [r, x.st, x.gp] H r tl (Quire.noteAt G last p (t.drop p)) (NoteK a x Q)
theorem sc_note : FnScope ["reader", "gathering", "rank_before", "character"] ["reader", "gathering", "rank_before"] (defScope s_read_note) := ⟨rfl, rfl, rfl, by decide +kernel, rfl, by decide +kernel, by decide +kernel⟩
theorem ok_note (T : Txt K mg a) (OP : MOk P w K mg base CX0 1 a.CR "peek" ["self"] (spPeek K a)) (OL : Ok P w K mg base (CXR P w) 5 "read_leaf_note" ["reader", "gathering", "rank_before", "state"] (spLeafNote K a)) (OG : Ok P w K mg base (CXR P w) 6 "read_gap_note" ["reader", "gathering", "rank_before"] (spGapNote K a))
    (d : Df K mg "read_note" s_read_note ["reader", "gathering", "rank_before"]) : Ok P w K mg base (CXR P w) 7 "read_note" ["reader", "gathering", "rank_before"] (spNote K a) := by
  refine d.ok fun f fd F => ?_
  refine F.okX sc_note (fun vs H Q E h => ?_) (fun cdv A outer s H vs Q E hr h => ?_)
  · obtain ⟨x, _, _, _, _, _, _, rfl, _⟩ := h
    rfl
  · obtain ⟨r, tl, t, p, last, x, G, rfl, R, g, q⟩ := h
    obtain ⟨dx, hx⟩ := R.at_
    refine ⟨_, pss_cons (ps_set (i := 3) sc_note.nd rfl (Or.inl rfl) (pe_mz OP hr pass0 (pv 0)))
      (pss_cons (ps_if (pt_cmpR op_eq (pv 3) (pe_gi T.MINUS) (nomark _)) (pss_one (ps_ret (pe_f OL hr passX (pa_cons (pv 0) (pa_cons (pv 1) (pa_cons (pv 2) (pa_cons (pe_gi T.LOST) pa_nil))))))) pss_nil)
      (pss_cons (ps_if (pt_cmpR op_eq (pv 3) (pe_gi T.DIVIDED) (nomark _)) (pss_one (ps_ret (pe_f OL hr passX (pa_cons (pv 0) (pa_cons (pv 1) (pa_cons (pv 2) (pa_cons (pe_gi T.CUT) pa_nil))))))) pss_nil)
      (pss_one (ps_ret (pe_f OG hr passX (pa_cons (pv 0) (pa_cons (pv 1) (pa_cons (pv 2) pa_nil)))))))), ?_⟩
    rw [note_eq] at q
    unfold noteM at q
    rw [head_drop, List.drop_drop] at q
    refine ⟨_, rfl, r, dx, _, rfl, hx, rfl, r, tl, t, p, rfl, R, _, rfl, rfl, _, rfl, ?_⟩
    by_cases h1 : t[p]? = some Quire.MINUS
    · rw [if_pos h1] at q
      refine (if_pos (by rw [pk_some h1]; rfl)).mpr ?_
      exact ⟨_, rfl, _, rfl, _, rfl, r, tl, t, p, last, x, G, .lost, rfl, R, g, q⟩
    · rw [if_neg h1] at q
      refine (if_neg (by intro z; exact h1 (pk_is.mp (by have z2 := V.int.inj (of_decide_eq_true z); exact z2)))).mpr ?_
      refine ⟨_, rfl, rfl, _, rfl, ?_⟩
      by_cases h2 : t[p]? = some Quire.OVER
      · rw [if_pos h2] at q
        refine (if_pos (by rw [pk_some h2]; rfl)).mpr ?_
        exact ⟨_, rfl, _, rfl, _, rfl, r, tl, t, p, last, x, G, .cut, rfl, R, g, q⟩
      · rw [if_neg h2] at q
        refine (if_neg (by intro z; exact h2 (pk_is.mp (by have z2 := V.int.inj (of_decide_eq_true z); exact z2)))).mpr ?_
        exact ⟨_, rfl, _, rfl, _, rfl, r, tl, t, p, last, x, G, rfl, R, g, q⟩
end
def aftNote (F : Nat) (h : Quire.Gath) (l q : Nat) : List Nat → Quire.Rd Quire.Gath
  | [] => .error q
  | c :: v => if c = Quire.RIGHT then .ok (h, q + 1, v) else if c ≠ Quire.COMMA then .error q else match Quire.charAt Quire.BLANK (q + 1) v with
    | .error e => .error e
    | .ok (_, q, u) => Quire.notesAt F h l q u
theorem notes_succ (F : Nat) (g : Quire.Gath) (last p : Nat) (t : List Nat) : Quire.notesAt (F + 1) g last p t = (match Quire.noteAt g last p t with
    | .error e => .error e
    | .ok ((h, l), q, u) => aftNote F h l q u) := by
  rw [Quire.notesAt]
  cases Quire.noteAt g last p t with
  | error e => rfl
  | ok v =>
    obtain ⟨⟨h, l⟩, q, u⟩ := v
    cases u <;> rfl
theorem aft_end {t : List Nat} {F : Nat} {h : Quire.Gath} {l q : Nat} (hc : t[q]? ≠ some Quire.COMMA) : aftNote F h l q (t.drop q) = (match Quire.charAt Quire.RIGHT q (t.drop q) with
    | .error e => .error e
    | .ok (_, q1, u1) => .ok (h, q1, u1)) := by
  cases z : t[q]? with
  | none => rw [drop_none z]; rfl
  | some c =>
    rw [drop_some z, aftNote, Quire.charAt]
    by_cases e : c = Quire.RIGHT
    · rw [if_pos e, if_pos e]
    · rw [if_neg e, if_neg e, if_pos]
      intro e2; subst e2; exact hc z
def notesFin (p : Nat) : Quire.Rd Quire.Gath → Quire.Rd Quire.Gath
  | .error e => .error e
  | .ok (h, y, z) => if Quire.PLACES < h.word.length ∨ Quire.hasLeaf h.word = false then .error p else .ok (h, y, z)
def notesItem (G : Quire.Gath) (p : Nat) (l : List Nat) : Quire.Rd Quire.Gath := match Quire.charAt Quire.LEFT p l with
  | .error e => .error e
  | .ok (_, q, u) => notesFin p (Quire.notesAt (u.length + 1) G 0 q u)
theorem hasLeaf_eq (w : Quire.Word) : decide (0 < ((w.filter Quire.Sign.leaf).length : Int)) = Quire.hasLeaf w := by
  unfold Quire.hasLeaf
  rw [Bool.eq_iff_iff, decide_eq_true_iff, List.any_eq_true]
  constructor
  · intro h
    have : 0 < (w.filter Quire.Sign.leaf).length := by omega
    obtain ⟨x, hx⟩ := List.exists_mem_of_length_pos this
    rw [List.mem_filter] at hx
    exact ⟨x, hx.1, hx.2⟩
  · rintro ⟨x, h1, h2⟩
    have : x ∈ w.filter Quire.Sign.leaf := List.mem_filter.mpr ⟨h1, h2⟩
    have := List.length_pos_of_mem this
    omega
section
variable {P : Program} {w : World} {K : PySem.W.Frag} {mg : Str → Option Value} {base : Heap} {a : Adr}
def spRNotes (K : PySem.W.Frag) (a : Adr) : Sp := fun vs H Q E => ∃ (r tl : Addr) (t : List Nat) (p : Nat) (x : GA) (G : Quire.Gath), vs = [.ref r, .ref x.g] ∧ RT K a H r tl t p ∧ GAt a H x G ∧
  Rds a E [r, x.st, x.gp] H r tl (notesItem G p (t.drop p)) fun G' _ H' => ∀ ga, GAt a H' { x with ga := ga } G' → Q .non H'
theorem sc_notes : FnScope ["reader", "gathering", "opening", "rank", "word"] ["reader", "gathering"] (defScope s_read_notes) := ⟨rfl, rfl, rfl, by decide +kernel, rfl, by decide +kernel, by decide +kernel⟩
theorem ok_notes (T : Txt K mg a) (OC : Ok P w K mg base (CXR P w) 3 "check" ["right", "place"] (spCheck a)) (OX : MOk P w K mg base (CXR P w) 4 a.CR "expect" ["self", "character"] (spExpect K a)) (OP : MOk P w K mg base CX0 1 a.CR "peek" ["self"] (spPeek K a)) (OA : MOk P w K mg base CX0 1 a.CR "advance" ["self"] (spAdvance a))
    (ON : Ok P w K mg base (CXR P w) 7 "read_note" ["reader", "gathering", "rank_before"] (spNote K a)) (OW : Ok P w K mg base CX0 4 "word_of" ["gathering"] (spWord a)) (OL : Ok P w K mg base CX0 2 "count_leaves" ["row"] (spCount K))
    (d : Df K mg "read_notes" s_read_notes ["reader", "gathering"]) : Ok P w K mg base (CXR P w) 8 "read_notes" ["reader", "gathering"] (spRNotes K a) := by
  refine d.ok fun f fd F => ?_
  refine F.okX sc_notes (fun vs H Q E h => ?_) (fun cdv A outer s H vs Q E hr h => ?_)
  · obtain ⟨x, _, _, _, _, _, rfl, _⟩ := h
    rfl
  · obtain ⟨r, tl, t, p, x, G, rfl, R, g, q⟩ := h
    obtain ⟨dx, hx⟩ := R.at_
    refine ⟨_, pss_cons (ps_set (i := 2) sc_notes.nd rfl (Or.inl rfl) (pe_fld (pv 0) rfl))
      (pss_cons (ps_expr (pe_m OX hr passX (pv 0) (pa_cons (pe_gi T.OPEN) pa_nil)))
      (pss_cons (ps_set (i := 3) sc_notes.nd rfl (Or.inl rfl) (pe_f ON hr passX (pa_cons (pv 0) (pa_cons (pv 1) (pa_cons (pe_un un_neg pe_int) pa_nil)))))
      (pss_cons (ps_while ownX (pt_cmpR op_eq (pe_mz OP hr pass0 (pv 0)) (pe_gi T.COMMA) (nomark _))
        (pss_cons (ps_expr (pe_mz OA hr pass0 (pv 0)))
        (pss_cons (ps_expr (pe_m OX hr passX (pv 0) (pa_cons (pe_gi T.BLANK) pa_nil)))
        (pss_one (ps_set (i := 3) sc_notes.nd rfl (Or.inl rfl) (pe_f ON hr passX (pa_cons (pv 0) (pa_cons (pv 1) (pa_cons (pv 3) pa_nil)))))))))
      (pss_cons (ps_expr (pe_m OX hr passX (pv 0) (pa_cons (pe_gi T.CLOSE) pa_nil)))
      (pss_cons (ps_set (i := 4) sc_notes.nd rfl (Or.inl rfl) (pe_f OW hr pass0 (pa_cons (pv 1) pa_nil)))
      (pss_one (ps_expr (pe_f OC hr passX (pa_cons (pe_and (pe_cmpR op_le (pe_callB call_len_seq (by rfl) T.len PySem.boot_len (pa_cons (pv 4) pa_nil)) (pe_gi T.MOST_PLACES) (nomark _)) (pe_one (pe_cmpR op_gt (pe_f OL hr pass0 (pa_cons (pv 4) pa_nil)) pe_int (nomark _)))) (pa_cons (pv 2) pa_nil)))))))))), ?_⟩
    have ex : ∀ b, b ∈ [r] → b ∈ [r, x.st, x.gp] := by simp
    refine ⟨_, rfl, r, a.CR, dx, _, _, rfl, hx, T.clR, T.nRp, rf_place, _, rfl, r, dx, _, rfl, hx, rfl, r, tl, t, p, Quire.LEFT, rfl, R, ?_⟩
    unfold notesItem at q
    cases z : Quire.charAt Quire.LEFT p (t.drop p) with
    | error e => rw [z] at q; exact q.of Kb.refl ex
    | ok v =>
      obtain ⟨_, p1, u⟩ := v
      obtain ⟨hu, hp1, hpt⟩ := char_drop z
      subst hu
      rw [z] at q
      dsimp only at q
      intro H1 k1 r1
      have k01 : Kb [r, x.st, x.gp] H H1 := k1.mono ex
      have R1 := R.go k1 r1
      have g1 := g.rdr R.at_ k1
      rw [notes_succ, List.length_drop] at q
      refine ⟨_, rfl, _, rfl, _, rfl, r, tl, t, p1, 0, x, G, rfl, R1, g1, ?_⟩
      cases z1 : Quire.noteAt G 0 p1 (t.drop p1) with
      | error e => rw [z1] at q; exact q.of k01 (by simp)
      | ok v =>
        obtain ⟨⟨G2, l2⟩, p2, u2⟩ := v
        have hd2 := z1
        rw [note_eq] at hd2
        obtain ⟨hu2, hp2⟩ := note_drop hd2
        subst hu2
        rw [z1] at q
        dsimp only at q
        intro H2 k2 r2 ga2 g2
        have k02 := k01.trans k2
        refine ⟨fun m σ H' => ∃ (F : Nat) (G' : Quire.Gath) (l p' : Nat) (ga : List Addr), m = t.length - p' ∧ σ = [some (.ref r), some (.ref x.g), some (.int (p : Nat)), some (.int ((l : Int) - 1)), none] ∧ Kb [r, x.st, x.gp] H H' ∧ RdAt a H' r tl p' ∧ GAt a H' { x with ga := ga } G' ∧ t.length - p' ≤ F ∧
            Rds a E [r, x.st, x.gp] H r tl (notesFin p (aftNote F G' l p' (t.drop p'))) fun G' _ H' => ∀ ga, GAt a H' { x with ga := ga } G' → Q .non H',
          ⟨_, t.length - p1, G2, l2, p2, ga2, rfl, rfl, k02, r2, g2, by omega, q⟩, ?_⟩
        rintro m σ H3 ⟨F3, G3, l3, p3, ga3, rfl, rfl, k03, r3, g3, hF3, q3⟩
        have nfz : ∀ c ∈ [r, x.st, x.gp], ∀ o u, H c ≠ some (.frz o u) := by
          intro c hc o u zz
          simp only [List.mem_cons, List.not_mem_nil, or_false] at hc
          rcases hc with rfl | rfl | rfl
          · rw [hx] at zz; cases zz
          · rw [g.st] at zz; cases zz
          · rw [g.gp] at zz; cases zz
        have R3 : RT K a H3 r tl t p3 := ⟨r3, R.txt.kb k03 nfz, R.len⟩
        obtain ⟨dx3, hx3⟩ := r3
        refine ⟨_, rfl, r, dx3, _, rfl, hx3, rfl, r, tl, t, p3, rfl, R3, rfl, _, rfl, ?_⟩
        by_cases hc : t[p3]? = some Quire.COMMA
        · refine (if_pos (by rw [pk_some hc]; rfl)).mpr ?_
          have hp3 : p3 < t.length := (List.getElem?_eq_some_iff.mp hc).1
          rw [drop_some hc, aftNote, if_neg (by decide), if_neg (by simp)] at q3
          refine ⟨_, fun _ _ h => h, ?_⟩
          refine ⟨_, rfl, r, dx3, _, rfl, hx3, rfl, r, tl, dx3, p3, rfl, hx3, ?_⟩
          refine adv (a := a) (fun H' => _) fun H4 k4 r4 => ?_
          have g4 := g3.rdr R3.at_ k4
          have R4 := R3.go k4 r4
          have k04 := k03.trans (k4.mono ex)
          obtain ⟨dx4, hx4⟩ := r4
          refine ⟨_, rfl, r, dx4, _, rfl, hx4, rfl, r, tl, t, p3 + 1, Quire.BLANK, rfl, R4, ?_⟩
          cases z4 : Quire.charAt Quire.BLANK (p3 + 1) (t.drop (p3 + 1)) with
          | error e => rw [z4] at q3; exact q3.of k04 ex
          | ok v =>
            obtain ⟨_, p5, u5⟩ := v
            obtain ⟨hu5, hp5, hpt5⟩ := char_drop z4
            subst hu5
            rw [z4] at q3
            dsimp only at q3
            intro H5 k5 r5
            have g5 := g4.rdr R4.at_ k5
            have R5 := R4.go k5 r5
            have k05 := k04.trans (k5.mono ex)
            obtain ⟨F', rfl⟩ : ∃ F', F3 = F' + 1 := ⟨F3 - 1, by omega⟩
            rw [notes_succ] at q3
            refine ⟨_, rfl, _, rfl, _, rfl, r, tl, t, p5, l3, { x with ga := ga3 }, G3, rfl, R5, g5, ?_⟩
            cases z6 : Quire.noteAt G3 l3 p5 (t.drop p5) with
            | error e => rw [z6] at q3; exact q3.of k05 (by simp)
            | ok v =>
              obtain ⟨⟨G6, l6⟩, p6, u6⟩ := v
              have hd6 := z6
              rw [note_eq] at hd6
              obtain ⟨hu6, hp6⟩ := note_drop hd6
              subst hu6
              rw [z6] at q3
              dsimp only at q3
              intro H6 k6 r6 ga6 g6
              exact ⟨t.length - p6, by omega, F', G6, l6, p6, ga6, rfl, rfl, k05.trans k6, r6, g6, by omega, q3⟩
        · refine (if_neg (by intro z; exact hc (pk_is.mp (by have z2 := V.int.inj (of_decide_eq_true z); exact z2)))).mpr ?_
          rw [aft_end hc] at q3
          refine ⟨_, rfl, r, dx3, _, rfl, hx3, rfl, r, tl, t, p3, Quire.RIGHT, rfl, R3, ?_⟩
          cases z4 : Quire.charAt Quire.RIGHT p3 (t.drop p3) with
          | error e => rw [z4] at q3; exact q3.of k03 ex
          | ok v =>
            obtain ⟨_, p5, u5⟩ := v
            rw [z4, notesFin] at q3
            intro H5 k5 r5
            have g5 := g3.rdr R3.at_ k5
            have k05 := k03.trans (k5.mono ex)
            refine ⟨_, rfl, { x with ga := ga3 }, G3, rfl, g5, fun H6 l s6 _ hl => ?_⟩
            have g6 := g5.same s6
            have k06 := k05.trans s6.kb
            have hwl := g5.word_len
            refine ⟨_, rfl, l, _, rfl, .inl (SqL.of hl), _, _, rfl, rfl, _, rfl, ?_⟩
            rw [List.length_map, nums_len]
            refine ite2 (fun e => ?_) fun e => ?_
            · have h1 : G3.word.length ≤ 21 := by have := of_decide_eq_true e; omega
              refine ⟨_, rfl, l, Quire.nums G3.word, rfl, SqL.of hl, by rw [nums_len]; omega, fun H7 s7 => ⟨_, _, rfl, rfl, _, rfl, _, _, rfl, fun e2 => ?_, fun e2 => ?_⟩⟩
              · rw [leafN_eq, hasLeaf_eq] at e2
                rw [if_neg (by rintro (z | z); exact absurd z (by unfold Quire.PLACES; omega); rw [e2] at z; cases z)] at q3
                exact q3 H7 (k06.trans s7.kb) (rd_same (rd_same r5 s6) s7) ga3 (g6.same s7)
              · rw [leafN_eq, hasLeaf_eq] at e2
                rw [if_pos (.inr e2)] at q3
                exact q3.of (k06.trans s7.kb) (by simp)
            · have h1 : ¬ G3.word.length ≤ 21 := fun z => e (decide_eq_true (by omega))
              rw [if_pos (.inl (by unfold Quire.PLACES; omega))] at q3
              refine ⟨_, rfl, _, _, rfl, (fun e3 => nomatch e3), fun _ => ?_⟩
              exact q3.of k06 (by simp)
end
def lastF (m : Quire.Make) (A : Quire.Make) : Bool := match m.getLast?, A with
  | some x, y :: _ => Quire.follows x y
  | _, _ => false
def notesR : Quire.Rd Quire.Gath → Quire.Rd Quire.Make
  | .error e => .error e
  | .ok (h, y, z) => .ok ([h], y, z)
def itemNotes (n r : Nat) (v : List Nat) : List Quire.Sig → Quire.Rd Quire.Make
  | [s] => notesR (notesItem (Quire.regular s n) r v)
  | _ => .error r
def itemRest (m : Quire.Make) (p : Nat) (l : List Quire.Sig) (n r : Nat) (v : List Nat) : Quire.Rd Quire.Make :=
  if v.head? = some Quire.LEFT then itemNotes n r v l else if lastF m (l.map fun x => Quire.regular x n) = true then .error p else .ok (l.map fun x => Quire.regular x n, r, v)
def itemM (m : Quire.Make) (p : Nat) (t : List Nat) : Quire.Rd Quire.Make := match sigsAt (m.map Quire.Gath.sig) p t with
  | .error e => .error e
  | .ok (l, q, u) => match sizeAt q u with
    | .error e => .error e
    | .ok (n, r, v) => itemRest m p l n r v
structure Shp (G : Quire.Gath) : Prop where
  nf : G.fates.length = G.size
  np : G.puts.length = G.size + 1
theorem plain_fate {G : Quire.Gath} {k : Nat} {f : Quire.Fate} (hk : k < G.fates.length) (hf : f ≠ .kept) : ({ G with fates := G.fates.set k f } : Quire.Gath).plain = false := by
  unfold Quire.Gath.plain
  rw [Bool.and_eq_false_iff]
  left
  rw [Bool.eq_false_iff]
  intro h
  rw [List.all_eq_true] at h
  have := h f (List.mem_set hk f)
  exact hf (eq_of_beq this)
theorem plain_put {G : Quire.Gath} {k : Nat} {w : Quire.Word} (hk : k < G.puts.length) (hw : w ≠ []) : ({ G with puts := G.puts.set k w } : Quire.Gath).plain = false := by
  unfold Quire.Gath.plain
  rw [Bool.and_eq_false_iff]
  right
  rw [Bool.eq_false_iff]
  intro h
  rw [List.all_eq_true] at h
  have := h w (List.mem_set hk w)
  exact hw (List.isEmpty_iff.mp this)
theorem row_ne {e p q : Nat} {l u : List Nat} {w : Quire.Word} (h : rowAt e p l = .ok (w, q, u)) : w ≠ [] := by
  unfold rowAt at h
  split at h
  · unfold toldRowAt at h
    cases z : Quire.charAt Quire.LANGLE p l with
    | error x => rw [z] at h; cases h
    | ok v =>
      obtain ⟨_, q1, u1⟩ := v
      rw [z] at h
      dsimp only at h
      cases z2 : Quire.signsAt q1 u1 with
      | error x => rw [z2] at h; cases h
      | ok v =>
        obtain ⟨w2, q2, u2⟩ := v
        rw [z2, toldFin] at h
        split at h
        · rename_i hc
          injection h with h; injection h with h0 h
          rw [← h0]; exact hc.1
        · cases h
  · unfold cntAt at h
    cases z : Quire.number Quire.digit p l with
    | error x => rw [z] at h; cases h
    | ok v =>
      obtain ⟨n, q1, u1⟩ := v
      rw [z] at h
      dsimp only at h
      split at h
      · rename_i hc
        injection h with h; injection h with h0 h
        rw [← h0]
        intro e2
        have := congrArg List.length e2
        simp at this
        omega
      · cases h
theorem note_shape {t : List Nat} {G G' : Quire.Gath} {last p l q : Nat} {u : List Nat} (S : Shp G) (h : Quire.noteAt G last p (t.drop p) = .ok ((G', l), q, u)) : Shp G' ∧ G'.plain = false := by
  rw [note_eq] at h
  have lf : ∀ f, f ≠ .kept → ∀ l0, leafNote G last f p l0 = .ok ((G', l), q, u) → Shp G' ∧ G'.plain = false := by
    intro f hf l0 h
    unfold leafNote at h
    cases z : Quire.number Quire.digit (p + 1) l0 with
    | error e => rw [z] at h; cases h
    | ok v =>
      obtain ⟨k, q1, u1⟩ := v
      rw [z] at h
      dsimp only at h
      split at h
      · rename_i hc
        injection h with h; injection h with h0 h; injection h0 with h1 h2
        rw [← h1]
        have := S.nf
        exact ⟨⟨by rw [List.length_set]; exact S.nf, S.np⟩, plain_fate (by omega) hf⟩
      · cases h
  unfold noteM at h
  split at h
  · exact lf _ (by decide) _ h
  · split at h
    · exact lf _ (by decide) _ h
    · unfold gapNote at h
      cases z : Quire.number Quire.digit p (t.drop p) with
      | error e => rw [z] at h; cases h
      | ok v =>
        obtain ⟨k, q1, u1⟩ := v
        rw [z] at h
        dsimp only at h
        split at h
        · rename_i hc
          unfold gapPut at h
          cases z2 : Quire.charAt Quire.PLUS q1 u1 with
          | error e => rw [z2] at h; cases h
          | ok v =>
            obtain ⟨_, q2, u2⟩ := v
            rw [z2] at h
            dsimp only at h
            cases z3 : rowAt p q2 u2 with
            | error e => rw [z3] at h; cases h
            | ok v =>
              obtain ⟨w, q3, u3⟩ := v
              rw [z3, gapRow] at h
              injection h with h; injection h with h0 h; injection h0 with h1 h2
              rw [← h1]
              have := S.np
              exact ⟨⟨S.nf, by rw [List.length_set]; exact S.np⟩, plain_put (by omega) (row_ne z3)⟩
        · cases h
theorem notes_shape {t : List Nat} : ∀ (F : Nat) (G : Quire.Gath) (last p : Nat) {G' : Quire.Gath} {q : Nat} {u : List Nat}, Shp G → Quire.notesAt F G last p (t.drop p) = .ok (G', q, u) → Shp G' ∧ G'.plain = false ∧ u = t.drop q ∧ p ≤ q
  | 0, G, last, p, G', q, u, S, h => by cases h
  | F + 1, G, last, p, G', q, u, S, h => by
    rw [notes_succ] at h
    cases z : Quire.noteAt G last p (t.drop p) with
    | error e => rw [z] at h; cases h
    | ok v =>
      obtain ⟨⟨G2, l2⟩, q2, u2⟩ := v
      obtain ⟨S2, pl⟩ := note_shape S z
      have hd := z
      rw [note_eq] at hd
      obtain ⟨hu2, hp2⟩ := note_drop hd
      subst hu2
      rw [z] at h
      dsimp only at h
      cases z2 : t[q2]? with
      | none => rw [drop_none z2] at h; cases h
      | some c =>
        rw [drop_some z2, aftNote] at h
        by_cases h1 : c = Quire.RIGHT
        · rw [if_pos h1] at h
          injection h with h; injection h with h0 h; injection h with h2 h3
          rw [← h0, ← h2, ← h3]
          exact ⟨S2, pl, rfl, by omega⟩
        · rw [if_neg h1] at h
          by_cases h2 : c ≠ Quire.COMMA
          · rw [if_pos h2] at h; cases h
          · rw [if_neg h2] at h
            cases z3 : Quire.charAt Quire.BLANK (q2 + 1) (t.drop (q2 + 1)) with
            | error e => rw [z3] at h; cases h
            | ok v =>
              obtain ⟨_, q3, u3⟩ := v
              obtain ⟨hu3, hq3, _⟩ := char_drop z3
              subst hu3
              rw [z3] at h
              dsimp only at h
              obtain ⟨a1, a2, a3, a4⟩ := notes_shape F G2 l2 q3 S2 h
              exact ⟨a1, a2, a3, by omega⟩
theorem reg_shape (s : Quire.Sig) (n : Nat) : Shp (Quire.regular s n) := ⟨by simp [Quire.regular], by simp [Quire.regular]⟩
theorem notesItem_shape {t : List Nat} {G G' : Quire.Gath} {p q : Nat} {u : List Nat} (S : Shp G) (h : notesItem G p (t.drop p) = .ok (G', q, u)) : G'.plain = false ∧ u = t.drop q ∧ p ≤ q ∧ G'.word.length ≤ 21 ∧ Quire.hasLeaf G'.word = true := by
  unfold notesItem at h
  cases z : Quire.charAt Quire.LEFT p (t.drop p) with
  | error e => rw [z] at h; cases h
  | ok v =>
    obtain ⟨_, q1, u1⟩ := v
    obtain ⟨hu, hq, _⟩ := char_drop z
    subst hu
    rw [z] at h
    dsimp only at h
    cases z2 : Quire.notesAt ((t.drop q1).length + 1) G 0 q1 (t.drop q1) with
    | error e => rw [z2] at h; cases h
    | ok v =>
      obtain ⟨G2, q2, u2⟩ := v
      obtain ⟨_, pl, hu2, hq2⟩ := notes_shape _ _ _ _ S z2
      rw [z2, notesFin] at h
      split at h
      · cases h
      · rename_i hc
        injection h with h; injection h with h0 h; injection h with h1 h2
        rw [← h0, ← h1, ← h2]
        refine ⟨pl, hu2, by omega, ?_, ?_⟩
        · have : ¬ Quire.PLACES < G2.word.length := fun z => hc (.inl z)
          unfold Quire.PLACES at this; omega
        · cases z : Quire.hasLeaf G2.word with
          | true => rfl
          | false => exact absurd (.inr z) hc
theorem sigs_info {ss : List Quire.Sig} {t : List Nat} {p q : Nat} {l : List Quire.Sig} {u : List Nat} (h : sigsAt ss p (t.drop p) = .ok (l, q, u)) : u = t.drop q ∧ p ≤ q ∧ ss.length + l.length ≤ 48 ∧ l ≠ [] ∧ (∀ x ∈ l, x.times ≤ 99) ∧ (∀ x ∈ l, ss.contains x = false) ∧ l.Nodup := by
  unfold sigsAt at h
  cases z : Quire.sigAt p (t.drop p) with
  | error e => rw [z] at h; cases h
  | ok v =>
    obtain ⟨s, q1, u1⟩ := v
    obtain ⟨hu, ht1, ht2, _⟩ := sig_drop z
    subst hu
    have hq1 : p ≤ q1 := by
      rw [sigAt_eq] at z
      split at z
      · cases z
      · rename_i n q2 r hn
        cases r with
        | nil => cases z
        | cons c u =>
          dsimp only at z
          split at z
          · cases z
          · split at z
            · cases z
            · injection z with z; injection z with _ z; injection z with z1 z2
              have : p ≤ q2 := by
                split at hn
                · have := number_le hn; omega
                · injection hn with hn; injection hn with _ hn; injection hn with h1 _; omega
              omega
    rw [z] at h
    dsimp only at h
    split at h
    · cases h
    · rename_i hc
      have hfree : ss.contains s = false := by
        cases e : ss.contains s with
        | false => rfl
        | true => exact absurd (.inl e) hc
      have hlt : ¬ 48 ≤ ss.length := fun e => hc (.inr e)
      cases z2 : t[q1]? with
      | none =>
        rw [drop_none z2, sigs2] at h
        injection h with h; injection h with h0 h; injection h with h1 h2
        rw [← h0, ← h1, ← h2]
        refine ⟨(drop_none z2).symm, hq1, by simp; omega, by simp, by simpa using ht2, by simpa using hfree, by simp⟩
      | some c =>
        rw [drop_some z2, sigs2] at h
        by_cases hd : c = Quire.DASH
        · rw [if_pos hd] at h
          cases z3 : Quire.sigAt (q1 + 1) (t.drop (q1 + 1)) with
          | error e => rw [z3] at h; cases h
          | ok v =>
            obtain ⟨y, q2, u2⟩ := v
            obtain ⟨hu2, _, _, _⟩ := sig_drop z3
            have hq2 : q1 + 1 ≤ q2 := by
              rw [sigAt_eq] at z3
              split at z3
              · cases z3
              · rename_i n q3 r hn
                cases r with
                | nil => cases z3
                | cons c u =>
                  dsimp only at z3
                  split at z3
                  · cases z3
                  · split at z3
                    · cases z3
                    · injection z3 with z3; injection z3 with _ z3; injection z3 with z31 z32
                      have : q1 + 1 ≤ q3 := by
                        split at hn
                        · have := number_le hn; omega
                        · injection hn with hn; injection hn with _ hn; injection hn with h1 _; omega
                      omega
            rw [z3] at h
            dsimp only at h
            cases z4 : Mq.betw ss s y with
            | none => rw [z4] at h; cases h
            | some l2 =>
              rw [z4] at h
              injection h with h; injection h with h0 h; injection h with h1 h2
              rw [← h0, ← h1, ← h2]
              unfold Mq.betw at z4
              cases z5 : (List.range Quire.GATHERINGS).find? fun (n : Nat) => decide (1 ≤ n) && (decide (ss.length + n + 1 ≤ Quire.GATHERINGS) && ((s.chain n).length == n + 1 && (s.chain n).getLast? == some y)) with
              | none => rw [z5] at z4; cases z4
              | some n =>
                rw [z5] at z4
                have hp := List.find?_some z5
                simp only [Bool.and_eq_true, decide_eq_true_eq, beq_iff_eq] at hp
                obtain ⟨p1, p2, p3, p4⟩ := hp
                have z4 : (if (s.chain n).any (fun x => ss.contains x) = true then none else some (s.chain n)) = some l2 := z4
                split at z4
                · cases z4
                · rename_i hany
                  have e : s.chain n = l2 := Option.some.inj z4
                  rw [← e]
                  refine ⟨hu2, by omega, by rw [p3]; unfold Quire.GATHERINGS at p2; omega, Mq.chain_ne s n, Mq.chain_times n s ht2, fun x hx => ?_, ?_⟩
                  · cases e2 : ss.contains x with
                    | false => rfl
                    | true => exact absurd (List.any_eq_true.mpr ⟨x, hx, e2⟩) hany
                  · refine List.pairwise_iff_getElem.mpr fun i j hi hj hij e3 => ?_
                    have k1 := Mq.chain_key n i s _ (List.getElem?_eq_getElem hi)
                    have k2 := Mq.chain_key n j s _ (List.getElem?_eq_getElem hj)
                    rw [e3] at k1
                    omega
        · rw [if_neg hd] at h
          injection h with h; injection h with h0 h; injection h with h1 h2
          rw [← h0, ← h1, ← h2]
          refine ⟨(drop_some z2).symm, hq1, by simp; omega, by simp, by simpa using ht2, by simpa using hfree, by simp⟩
theorem size_info {t : List Nat} {p n q : Nat} {u : List Nat} (h : sizeAt p (t.drop p) = .ok (n, q, u)) : u = t.drop q ∧ p ≤ q ∧ 1 ≤ n ∧ n ≤ 20 ∧ Quire.sizeOk n = true := by
  unfold sizeAt at h
  cases z : Quire.number Quire.raisedDigit p (t.drop p) with
  | error e => rw [z] at h; cases h
  | ok v =>
    obtain ⟨m, q1, u1⟩ := v
    rw [z] at h
    dsimp only at h
    split at h
    · cases h
    · rename_i hc
      injection h with h; injection h with h0 h; injection h with h1 h2
      rw [← h0, ← h1, ← h2]
      have hs : Quire.sizeOk m = true := by
        cases e : Quire.sizeOk m with
        | true => rfl
        | false => exact absurd e hc
      refine ⟨num_drop z, by have := number_le z; omega, ?_, ?_, hs⟩
      · unfold Quire.sizeOk at hs
        simp only [Bool.or_eq_true, Bool.and_eq_true, beq_iff_eq, decide_eq_true_eq] at hs
        omega
      · unfold Quire.sizeOk at hs
        simp only [Bool.or_eq_true, Bool.and_eq_true, beq_iff_eq, decide_eq_true_eq] at hs
        omega
def itemTail (m : Quire.Make) (p : Nat) (s : Quire.Sig) (l : List Quire.Sig) (q : Nat) (u : List Nat) : Quire.Rd Quire.Make :=
  match Quire.number Quire.raisedDigit q u with
      | .error e => .error e
      | .ok (n, r, v) => if Quire.sizeOk n = false then .error q else
        let g := Quire.regular s n
        match (match l, v with
          | [_], c :: w => if c = Quire.LEFT then (match Quire.notesAt (w.length + 1) g 0 (r + 1) w with
              | .error e => .error e
              | .ok (h, y, z) => if Quire.PLACES < h.word.length ∨ Quire.hasLeaf h.word = false then .error r else .ok ([h], y, z))
            else .ok ([g], r, v)
          | _, c :: _ => if c = Quire.LEFT then .error r else .ok (l.map fun (x : Quire.Sig) => Quire.regular x n, r, v)
          | _, [] => .ok (l.map fun (x : Quire.Sig) => Quire.regular x n, r, v) : Quire.Rd Quire.Make) with
        | .error e => .error e
        | .ok (a, r, v) => match m.getLast?, a with
          | some x, y :: _ => if Quire.follows x y = true then .error p else .ok (a, r, v)
          | _, _ => .ok (a, r, v)
theorem fin_eq {m A : Quire.Make} {p r : Nat} {v : List Nat} : (match m.getLast?, A with
          | some x, y :: _ => if Quire.follows x y = true then .error p else .ok (A, r, v)
          | _, _ => .ok (A, r, v) : Quire.Rd Quire.Make) = if lastF m A = true then .error p else .ok (A, r, v) := by
  unfold lastF
  cases m.getLast? with
  | none => cases A <;> rfl
  | some x => cases A <;> rfl
theorem tail_eq {m : Quire.Make} {t : List Nat} {p q : Nat} {s : Quire.Sig} {l : List Quire.Sig} (hl : ∀ x, l = [x] → x = s) (hne : l ≠ []) : itemTail m p s l q (t.drop q) = (match sizeAt q (t.drop q) with
    | .error e => .error e
    | .ok (n, r, v) => itemRest m p l n r v) := by
  unfold itemTail sizeAt
  cases z : Quire.number Quire.raisedDigit q (t.drop q) with
  | error e => rfl
  | ok v =>
    obtain ⟨n, r, v⟩ := v
    have hv := num_drop z
    subst hv
    dsimp only
    by_cases hs : Quire.sizeOk n = false
    · rw [if_pos hs, if_pos hs]
    · rw [if_neg hs, if_neg hs]
      dsimp only
      unfold itemRest
      rw [head_drop]
      cases z1 : t[r]? with
      | none =>
        rw [drop_none z1, if_neg (by simp)]
        match l, hl, hne with
        | [x], hl, _ => exact fin_eq
        | x :: y :: l, hl, _ => exact fin_eq
      | some c =>
        rw [drop_some z1]
        by_cases hc : c = Quire.LEFT
        · subst hc
          rw [if_pos rfl]
          match l, hl, hne with
          | [x], hl, _ =>
            have := hl x rfl
            subst this
            dsimp only
            rw [if_pos rfl]
            unfold itemNotes notesItem
            rw [Quire.charAt, if_pos rfl]
            dsimp only
            cases z2 : Quire.notesAt ((t.drop (r + 1)).length + 1) (Quire.regular x n) 0 (r + 1) (t.drop (r + 1)) with
            | error e => rfl
            | ok v =>
              obtain ⟨h, y, z3⟩ := v
              obtain ⟨_, pl, _, _⟩ := notes_shape _ _ _ _ (reg_shape x n) z2
              dsimp only
              rw [notesFin]
              by_cases hf : Quire.PLACES < h.word.length ∨ Quire.hasLeaf h.word = false
              · rw [if_pos hf, if_pos hf]
                rfl
              · rw [if_neg hf, if_neg hf]
                show (match m.getLast?, [h] with
                  | some x, y2 :: _ => if Quire.follows x y2 = true then .error p else .ok ([h], y, z3)
                  | _, _ => .ok ([h], y, z3) : Quire.Rd Quire.Make) = .ok ([h], y, z3)
                cases m.getLast? with
                | none => rfl
                | some x =>
                  show (if Quire.follows x h = true then _ else _) = _
                  rw [if_neg]
                  unfold Quire.follows
                  rw [pl]
                  simp
          | x :: y :: l, hl, _ =>
            dsimp only
            rw [if_pos rfl]
            rfl
        · rw [if_neg (by simpa using hc)]
          match l, hl, hne with
          | [x], hl, _ =>
            have := hl x rfl
            subst this
            dsimp only
            rw [if_neg hc]
            exact fin_eq
          | x :: y :: l, hl, _ =>
            dsimp only
            rw [if_neg hc]
            exact fin_eq
theorem betw_long {ss : List Quire.Sig} {s z : Quire.Sig} {l : List Quire.Sig} (h : Mq.betw ss s z = some l) : 2 ≤ l.length := by
  unfold Mq.betw at h
  cases z5 : (List.range Quire.GATHERINGS).find? fun (n : Nat) => decide (1 ≤ n) && (decide (ss.length + n + 1 ≤ Quire.GATHERINGS) && ((s.chain n).length == n + 1 && (s.chain n).getLast? == some z)) with
  | none => rw [z5] at h; cases h
  | some n =>
    rw [z5] at h
    have hp := List.find?_some z5
    simp only [Bool.and_eq_true, decide_eq_true_eq, beq_iff_eq] at hp
    have h : (if (s.chain n).any (fun x => ss.contains x) = true then none else some (s.chain n)) = some l := h
    split at h
    · cases h
    · have e := Option.some.inj h
      rw [← e, hp.2.2.1]
      omega
theorem item_eq {m : Quire.Make} {t : List Nat} {p : Nat} : Quire.itemAt m p (t.drop p) = itemM m p (t.drop p) := by
  unfold Quire.itemAt itemM sigsAt
  cases z : Quire.sigAt p (t.drop p) with
  | error e => rfl
  | ok v =>
    obtain ⟨s, q, u⟩ := v
    obtain ⟨hu, _⟩ := sig_drop z
    subst hu
    dsimp only
    have e1 : (Quire.taken m s = true ∨ Quire.GATHERINGS ≤ m.length) ↔ ((m.map Quire.Gath.sig).contains s = true ∨ 48 ≤ (m.map Quire.Gath.sig).length) := by
      rw [List.length_map]; exact Iff.rfl
    by_cases hc : (m.map Quire.Gath.sig).contains s = true ∨ 48 ≤ (m.map Quire.Gath.sig).length
    · rw [if_pos (e1.mpr hc), if_pos hc]
    · rw [if_neg (fun z => hc (e1.mp z)), if_neg hc]
      cases z2 : t[q]? with
      | none =>
        rw [drop_none z2, sigs2]
        dsimp only
        rw [← drop_none z2]
        exact tail_eq (by intro x hx; exact ((List.cons.inj hx).1).symm) (by simp)
      | some c =>
        rw [drop_some z2, sigs2]
        dsimp only
        by_cases hd : c = Quire.DASH
        · rw [if_pos hd, if_pos hd]
          cases z3 : Quire.sigAt (q + 1) (t.drop (q + 1)) with
          | error e => rfl
          | ok v =>
            obtain ⟨y, q2, u2⟩ := v
            obtain ⟨hu2, _⟩ := sig_drop z3
            subst hu2
            dsimp only
            rw [Mq.betw_eq]
            cases z4 : Mq.betw (m.map Quire.Gath.sig) s y with
            | none => rfl
            | some l =>
              dsimp only
              have := betw_long z4
              exact tail_eq (by intro x hx; rw [hx] at this; simp at this) (by intro e; rw [e] at this; simp at this)
        · rw [if_neg hd, if_neg hd]
          dsimp only
          rw [← drop_some z2]
          exact tail_eq (by intro x hx; exact ((List.cons.inj hx).1).symm) (by simp)
theorem item_info {m : Quire.Make} {t : List Nat} {p q : Nat} {A : Quire.Make} {u : List Nat} (h : itemM m p (t.drop p) = .ok (A, q, u)) : u = t.drop q ∧ p ≤ q ∧ m.length + A.length ≤ 48 ∧ A ≠ [] := by
  unfold itemM at h
  cases z : sigsAt (m.map Quire.Gath.sig) p (t.drop p) with
  | error e => rw [z] at h; cases h
  | ok v =>
    obtain ⟨l, q1, u1⟩ := v
    obtain ⟨hu, hp1, hl, hne, _⟩ := sigs_info z
    subst hu
    rw [List.length_map] at hl
    rw [z] at h
    dsimp only at h
    cases z2 : sizeAt q1 (t.drop q1) with
    | error e => rw [z2] at h; cases h
    | ok v =>
      obtain ⟨n, r, v⟩ := v
      obtain ⟨hu2, hp2, _⟩ := size_info z2
      subst hu2
      rw [z2] at h
      dsimp only at h
      unfold itemRest at h
      split at h
      · match l, h, hl with
        | [s], h, hl =>
          rw [itemNotes] at h
          cases z3 : notesItem (Quire.regular s n) r (t.drop r) with
          | error e => rw [z3] at h; cases h
          | ok v =>
            obtain ⟨G, q3, u3⟩ := v
            obtain ⟨_, hu3, hq3, _⟩ := notesItem_shape (reg_shape s n) z3
            rw [z3, notesR] at h
            injection h with h; injection h with h0 h; injection h with h1 h2
            rw [← h0, ← h1, ← h2]
            exact ⟨hu3, by omega, by simpa using hl, by simp⟩
        | [], h, _ => cases h
        | x :: y :: l, h, _ => cases h
      · split at h
        · cases h
        · injection h with h; injection h with h0 h; injection h with h1 h2
          rw [← h0, ← h1, ← h2]
          exact ⟨rfl, by omega, by rw [List.length_map]; exact hl, by simpa using hne⟩
def MAll (a : Adr) (H : Hp) : List GA → Quire.Make → Prop
  | [], [] => True
  | x :: xs, G :: m => GAt a H x G ∧ MAll a H xs m
  | _, _ => False
theorem MAll.len {a : Adr} {H : Hp} : ∀ {xs : List GA} {m : Quire.Make}, MAll a H xs m → xs.length = m.length
  | [], [], _ => rfl
  | _ :: _, _ :: _, h => by simp [MAll.len h.2]
  | [], _ :: _, h => h.elim
  | _ :: _, [], h => h.elim
theorem MAll.keep {a : Adr} {H H' : Hp} : ∀ {xs : List GA} {m : Quire.Make}, (∀ x G, x ∈ xs → GAt a H x G → GAt a H' x G) → MAll a H xs m → MAll a H' xs m
  | [], [], _, _ => trivial
  | x :: _, _ :: _, k, h => ⟨k _ _ (List.mem_cons_self ..) h.1, MAll.keep (fun b w m => k b w (List.mem_cons_of_mem _ m)) h.2⟩
  | [], _ :: _, _, h => h.elim
  | _ :: _, [], _, h => h.elim
theorem MAll.app {a : Adr} {H : Hp} : ∀ {xs ys : List GA} {m n : Quire.Make}, MAll a H xs m → MAll a H ys n → MAll a H (xs ++ ys) (m ++ n)
  | [], _, [], _, _, h => h
  | _ :: _, _, _ :: _, _, h, h2 => ⟨h.1, MAll.app h.2 h2⟩
  | [], _, _ :: _, _, h, _ => h.elim
  | _ :: _, _, [], _, h, _ => h.elim
theorem MAll.get {a : Adr} {H : Hp} : ∀ {xs : List GA} {m : Quire.Make} {i : Nat} {G : Quire.Gath}, MAll a H xs m → m[i]? = some G → ∃ x, xs[i]? = some x ∧ GAt a H x G
  | [], [], i, s, _, e => by simp at e
  | x :: _, _ :: _, 0, s, h, e => by simp at e; subst e; exact ⟨x, rfl, h.1⟩
  | _ :: _, _ :: _, i + 1, s, h, e => by
    obtain ⟨y, h1, h2⟩ := MAll.get (i := i) h.2 (by simpa using e)
    exact ⟨y, by simpa using h1, h2⟩
  | [], _ :: _, _, _, h, _ => h.elim
  | _ :: _, [], _, _, h, _ => h.elim
theorem MAll.of_mem {a : Adr} {H : Hp} : ∀ {xs : List GA} {m : Quire.Make} {x : GA}, MAll a H xs m → x ∈ xs → ∃ G, G ∈ m ∧ GAt a H x G
  | x :: _, G :: _, y, h, m => by
    rcases List.mem_cons.mp m with e | m
    · rw [e]; exact ⟨G, List.mem_cons_self .., h.1⟩
    · obtain ⟨G', h1, h2⟩ := MAll.of_mem h.2 m
      exact ⟨G', List.mem_cons_of_mem _ h1, h2⟩
  | [], [], _, _, m => absurd m (by simp)
  | [], _ :: _, _, h, _ => h.elim
  | _ :: _, [], _, h, _ => h.elim
theorem MAll.same {a : Adr} {H H' : Hp} (k : Same H H') {xs : List GA} {m : Quire.Make} (h : MAll a H xs m) : MAll a H' xs m := h.keep fun x G _ g => g.same k
theorem MAll.rdr {a : Adr} {H H' : Hp} {r tl : Addr} {p : Nat} {xs : List GA} {m : Quire.Make} (h : MAll a H xs m) (R : RdAt a H r tl p) (k : Kb [r] H H') : MAll a H' xs m := h.keep fun x G _ g => g.rdr R k
def ownOf (xs : List GA) : List Addr := xs.flatMap fun x => [x.st, x.gp]
theorem MAll.own {a : Adr} {H : Hp} {xs : List GA} {m : Quire.Make} (h : MAll a H xs m) {b : Addr} (hb : b ∈ ownOf xs) : ∃ vs, H b = some (.lst vs) := by
  obtain ⟨x, hx, hb⟩ := List.mem_flatMap.mp hb
  obtain ⟨G, _, g⟩ := h.of_mem hx
  simp only [List.mem_cons, List.not_mem_nil, or_false] at hb
  rcases hb with rfl | rfl
  · exact ⟨_, g.st⟩
  · exact ⟨_, g.gp⟩
def refs (xs : List GA) : List V := xs.map fun x => V.ref x.g
theorem MAll.sigs {a : Adr} {H : Hp} : ∀ {xs : List GA} {m : Quire.Make}, MAll a H xs m → SgAll H (xs.map (·.sg)) (m.map Quire.Gath.sig)
  | [], [], _ => trivial
  | _ :: _, _ :: _, h => ⟨h.1.sig, MAll.sigs h.2⟩
  | [], _ :: _, h => h.elim
  | _ :: _, [], h => h.elim
theorem pe_fldK {X : Cx} {K : PySem.W.Frag} {e : Expr} {f : Str} {pos : Pos} {ta : TE} (hk : X.K = K) (he : PE X e ta) (hb : attributeBase e f X.env (eval e X.env) = eval e X.env) : PE X (.Attribute e f pos) (tFld K ta f) := by
  subst hk
  exact pe_fld he hb
def adsOf (x : GA) : List Addr := x.g :: x.sg :: x.st :: x.gp :: x.ga
theorem GAt.kb {a : Adr} {H H' : Hp} {S : List Addr} {x : GA} {G : Quire.Gath} (h : GAt a H x G) (k : Kb S H H') (n : ∀ c ∈ S, c ∉ adsOf x) : GAt a H' x G := by
  have nn : ∀ c, c ∈ adsOf x → c ∉ S := fun c hc hs => n c hs hc
  obtain ⟨dx, e⟩ := h.obj
  refine ⟨⟨dx, k _ _ e (nn _ (by simp [adsOf]))⟩, k _ _ h.sig (nn _ (by simp [adsOf])), k _ _ h.st (nn _ (by simp [adsOf])), k _ _ h.gp (nn _ (by simp [adsOf])), h.ga.keep fun b w m hb => k _ _ hb (nn _ (by simp [adsOf, m])), h.nf, h.np, h.sz, h.pl, h.tm⟩
section
variable {P : Program} {w : World} {K : PySem.W.Frag} {mg : Str → Option Value} {base : Heap} {a : Adr}
def ItemK (a : Adr) (H : Hp) (Q : VK) : Quire.Make → Nat → Hp → Prop := fun A _ H' => ∀ o ys, H o = none → H' o = some (.lst (refs ys)) → MAll a H' ys A → (ownOf ys).Nodup → (∀ b ∈ ownOf ys, H b = none) → Q (.ref o) H'
def spItem (K : PySem.W.Frag) (a : Adr) : Sp := fun vs H Q E => ∃ (r tl L : Addr) (t : List Nat) (p : Nat) (xs : List GA) (m : Quire.Make), vs = [.ref r, .ref L] ∧ RT K a H r tl t p ∧ H L = some (.lst (refs xs)) ∧ MAll a H xs m ∧ m.length ≤ 48 ∧
  Rds a E [r] H r tl (Quire.itemAt m p (t.drop p)) (ItemK a H Q)
theorem sc_item : FnScope ["reader", "before", "start", "signatures", "size", "own", "gathering", "signature"] ["reader", "before"] (defScope s_read_item) := ⟨rfl, rfl, rfl, by decide +kernel, rfl, by decide +kernel, by decide +kernel⟩
theorem ok_item (T : Txt K mg a) (OC : Ok P w K mg base (CXR P w) 3 "check" ["right", "place"] (spCheck a)) (OP : MOk P w K mg base CX0 1 a.CR "peek" ["self"] (spPeek K a)) (OS : Ok P w K mg base (CXR P w) 6 "read_signatures" ["reader", "taken"] (spReadSigs K a))
    (OZ : Ok P w K mg base (CXR P w) 5 "read_size" ["reader"] (spReadSize K a)) (OI : IOk P w K mg base CX0 1 a.CG "Gathering" ["self", "signature", "size"] (spGInit a)) (ON : Ok P w K mg base (CXR P w) 8 "read_notes" ["reader", "gathering"] (spRNotes K a)) (OO : Ok P w K mg base CX0 2 "are_one_item" ["before", "behind"] (spOne a))
    (d : Df K mg "read_item" s_read_item ["reader", "before"]) : Ok P w K mg base (CXR P w) 9 "read_item" ["reader", "before"] (spItem K a) := by
  refine d.ok fun f fd F => ?_
  refine F.okX sc_item (fun vs H Q E h => ?_) (fun cdv A outer s H vs Q E hr h => ?_)
  · obtain ⟨x, _, _, _, _, _, _, rfl, _⟩ := h
    rfl
  · obtain ⟨r, tl, L, t, p, xs, m, rfl, R, hL, hM, hm, q⟩ := h
    obtain ⟨dx, hx⟩ := R.at_
    refine ⟨_, pss_cons (ps_set (i := 2) sc_item.nd rfl (Or.inl rfl) (pe_fld (pv 0) rfl))
      (pss_cons (ps_set (i := 3) sc_item.nd rfl (Or.inl rfl) (pe_f OS hr passX (pa_cons (pv 0) (pa_cons (pe_lc (own := [("gathering", 6)]) rfl sc_item.nd (pi_list (pv 1)) (blkOk_by (by rfl))
        (fun _ _ _ _ _ => pg_name (i := 6) sc_item.nd rfl (Or.inl rfl)) (fun _ _ _ _ _ => pts_nil) (fun _ _ _ _ _ => pe_fldK (K := K) rfl (pv 6) rfl)) pa_nil))))
      (pss_cons (ps_set (i := 4) sc_item.nd rfl (Or.inr rfl) (pe_f OZ hr passX (pa_cons (pv 0) pa_nil)))
      (pss_cons (ps_setLc (i := 5) (own := [("signature", 7)]) rfl sc_item.nd rfl rfl (sw_true rfl rfl rfl rfl) (pi_list (pv 3)) (blkOk_by (by rfl))
        (fun _ _ _ _ _ => pg_name (i := 7) sc_item.nd rfl (Or.inl rfl)) (fun _ _ _ _ _ => pts_nil) (fun _ _ _ _ _ => pe_mk OI hr pass0 (pa_cons (pv 7) (pa_cons (pv 4) pa_nil))))
      (pss_cons (ps_if (pt_cmpR op_eq (pe_mz OP hr pass0 (pv 0)) (pe_gi T.OPEN) (nomark _))
        (pss_cons (ps_expr (pe_f OC hr passX (pa_cons (pe_cmpR op_eq (pe_callB call_len_seq (by rfl) T.len PySem.boot_len (pa_cons (pv 5) pa_nil)) pe_int (nomark _)) (pa_cons (pe_fld (pv 0) rfl) pa_nil))))
          (pss_one (ps_expr (pe_f ON hr passX (pa_cons (pv 0) (pa_cons (pe_ix ix_list (pv 5) pe_int (fun _ _ => rfl)) pa_nil))))))
        (pss_one (ps_expr (pe_f OC hr passX (pa_cons (pe_or (pe_cmpR (op_eqL0 hr.units) (pv 1) (pe_lst pa_nil) (nomark _)) (pe_one (pe_not (pe_f OO hr pass0 (pa_cons (pe_ix ix_list (pv 1) (pe_un un_neg pe_int) (fun _ _ => rfl)) (pa_cons (pe_ix ix_list (pv 5) pe_int (fun _ _ => rfl)) pa_nil)))))) (pa_cons (pv 2) pa_nil))))))
      (pss_one (ps_ret (pv 5))))))), ?_⟩
    refine ⟨_, rfl, r, a.CR, dx, _, _, rfl, hx, T.clR, T.nRp, rf_place, _, rfl, _, rfl, L, rfl, ⟨_, SqL.of hL⟩, fun D hD => ?_⟩
    refine lc_list (K := K) (a := L) (xs := refs xs) (fun i H' => Same H H' ∧ H' D = some (.lst (((xs.take i).map (·.sg)).map V.ref))) ⟨Same.new hD, upd_same⟩ (fun i H' _ ⟨s1, _⟩ => SqL.of (s1 _ _ hL)) ?_ ?_
    · rintro i y H' hi ⟨s1, h1⟩
      have hil : i < xs.length := by have := (List.getElem?_eq_some_iff.mp hi).1; simpa [refs] using this
      have him : i < m.length := by rw [← hM.len]; exact hil
      obtain ⟨x, hx1, gx⟩ := hM.get (List.getElem?_eq_getElem him)
      have ey : y = V.ref x.g := by
        unfold refs at hi
        rw [List.getElem?_map, hx1] at hi
        exact (Option.some.inj hi).symm
      subst ey
      obtain ⟨dgx, ho⟩ := gx.obj
      refine ⟨rfl, ?_⟩
      unfold tYes
      refine iteT ?_
      refine ⟨_, rfl, x.g, a.CG, dgx, _, _, rfl, s1 _ _ ho, T.clG, T.nGs, gf_sig, _, h1, ?_, fun b o hb => ?_, ?_⟩
      · simp only [List.length_map, List.length_take]
        exact Nat.lt_of_lt_of_le (show _ < 1000 by omega) (by decide)
      · rw [upd_ne (ne_of_none hb hD)]; exact s1 _ _ hb
      · rw [upd_same, List.take_succ, hx1, List.map_append, List.map_append]; rfl
    rintro H1 ⟨s1, h1⟩
    rw [show (refs xs).length = xs.length by simp [refs], List.take_length] at h1
    have R1 := R.same s1
    refine ⟨r, tl, D, t, p, xs.map (·.sg), m.map Quire.Gath.sig, rfl, R1, h1, (hM.same s1).sigs, ?_⟩
    rw [item_eq] at q
    unfold itemM at q
    have ex0 : ∀ b, b ∈ [r] → b ∈ [r] := fun _ z => z
    cases z : sigsAt (m.map Quire.Gath.sig) p (t.drop p) with
    | error e => rw [z] at q; exact q.ofS s1
    | ok v =>
      obtain ⟨l, p1, u⟩ := v
      obtain ⟨hu, hp1, hl48, hlne, hlt, _, _⟩ := sigs_info z
      subst hu
      rw [List.length_map] at hl48
      rw [z] at q
      dsimp only at q
      intro H2 k2 r2 o ads ho ha
      have R2 := R1.go k2 r2
      have k02 : Kb [r] H H2 := (s1.kb (S := [r])).trans k2
      refine ⟨_, rfl, r, tl, t, p1, rfl, R2, ?_⟩
      cases z2 : sizeAt p1 (t.drop p1) with
      | error e => rw [z2] at q; exact q.of k02 ex0
      | ok v =>
        obtain ⟨n, p2, u2⟩ := v
        obtain ⟨hu2, hp2, hn1, hn20, _⟩ := size_info z2
        subst hu2
        rw [z2] at q
        dsimp only at q
        intro H3 k3 r3
        have R3 := R2.go k3 r3
        have k03 := k02.trans k3
        have ho3 := kr R2.at_ k3 ho (by intro _ _ _ z; cases z)
        have ha3 := kr_sgs R2.at_ k3 ha
        have hal := ha3.len
        obtain ⟨dx3, hx3⟩ := r3
        refine ⟨_, rfl, o, rfl, ⟨_, SqL.of ho3⟩, fun D5 hD5 => ?_⟩
        refine lc_list (K := K) (a := o) (xs := ads.map V.ref) (fun i H' => Same H3 H' ∧ ∃ ys, H' D5 = some (.lst (refs ys)) ∧ MAll a H' ys ((l.take i).map fun x => Quire.regular x n) ∧ (ownOf ys).Nodup ∧ (∀ b ∈ ownOf ys, H3 b = none) ∧ ∀ y ∈ ys, D5 ∉ adsOf y)
          ⟨Same.new hD5, [], upd_same, trivial, by simp [ownOf], by simp [ownOf], by simp⟩ (fun i H' _ ⟨s4, _⟩ => SqL.of (s4 _ _ ho3)) ?_ ?_
        · rintro i y H5 hi ⟨s5, ys, h5, hM5, hnd, hfr, hD⟩
          have hil : i < ads.length := by have := (List.getElem?_eq_some_iff.mp hi).1; simpa using this
          have hill : i < l.length := by omega
          have hsi : l[i]? = some l[i] := List.getElem?_eq_getElem hill
          obtain ⟨sa, hsa, hsa3⟩ := ha3.get hsi
          have ey : y = V.ref sa := by
            rw [List.getElem?_map, hsa] at hi
            exact (Option.some.inj hi).symm
          subst ey
          have hyl : ys.length = i := by rw [hM5.len, List.length_map, List.length_take]; omega
          refine ⟨rfl, ?_⟩
          unfold tYes
          refine iteT ?_
          refine ⟨_, rfl, _, rfl, fun x dx' nx ndx ne => ?_⟩
          have hsa5 := s5 _ _ hsa3
          have sm : Same H5 (upd (upd H5 dx' (.own x)) x (.ins a.CG dx' [])) := fun b ob hb => by
            rw [upd_ne (ne_of_none hb nx), upd_ne (ne_of_none hb ndx)]; exact hb
          refine ⟨x, dx', sa, n, l[i], rfl, upd_same, sm _ _ hsa5, hn20, hlt _ (List.getElem_mem hill), fun H6 y e1 e2 k6 f1 f2 f3 g6 => ⟨rfl, ?_⟩⟩
          have s6 : Same H5 H6 := fun b ob hb => k6 _ _ (sm _ _ hb) (by simpa using ne_of_none hb nx)
          have hd6 := s6 _ _ h5
          have nD : D5 ∉ adsOf y := by
            unfold adsOf
            simp only [List.mem_cons, not_or]
            refine ⟨?_, ?_, ?_, ?_, ?_⟩
            · rw [e1]; exact ne_of_none h5 nx
            · rw [e2]; exact ne_of h5 hsa5 (by intro z; cases z)
            · exact ne_of_none (sm _ _ h5) f1
            · exact ne_of_none (sm _ _ h5) f2
            · intro hb; exact ne_of_none (sm _ _ h5) (f3 _ hb) rfl
          have none5 : ∀ b, upd (upd H5 dx' (.own x)) x (.ins a.CG dx' []) b = none → H5 b = none := fun b hb => by
            cases e : H5 b with
            | none => rfl
            | some ob => rw [sm b ob e] at hb; cases hb
          refine ⟨_, hd6, ?_, fun b ob hb => ?_, ys ++ [y], ?_, ?_, ?_, ?_, ?_⟩
          · simp only [refs, List.length_map, hyl]
            exact Nat.lt_of_lt_of_le (show i < 1000 by omega) (by decide)
          · rw [upd_ne (ne_of_none hb hD5)]; exact s6 _ _ (s5 _ _ hb)
          · rw [upd_same]; unfold refs; rw [List.map_append, ← e1]; rfl
          · rw [List.take_succ, hsi, List.map_append]
            have kD : Kb [D5] H6 (upd H6 D5 (.lst (refs ys ++ [V.ref x]))) := Kb.put (by simp)
            refine MAll.app ((hM5.same s6).keep fun c G hc g => g.kb kD (by intro c' hc' z; have : c' = D5 := (by simpa using hc'); subst this; exact hD c hc z)) ⟨g6.kb kD (by intro c' hc' z; have : c' = D5 := (by simpa using hc'); subst this; exact nD z), trivial⟩
          · unfold ownOf
            rw [List.flatMap_append]
            refine List.nodup_append.mpr ⟨hnd, ?_, ?_⟩
            · simp [g6.st_ne.2.2.1]
            · intro b hb c hc e
              subst e
              obtain ⟨vs, hv⟩ := hM5.own hb
              simp only [List.flatMap_cons, List.flatMap_nil, List.append_nil, List.mem_cons, List.not_mem_nil, or_false] at hc
              rcases hc with rfl | rfl
              · rw [none5 _ f1] at hv; cases hv
              · rw [none5 _ f2] at hv; cases hv
          · intro b hb
            unfold ownOf at hb
            rw [List.flatMap_append] at hb
            rcases List.mem_append.mp hb with hb | hb
            · exact hfr b hb
            · simp only [List.flatMap_cons, List.flatMap_nil, List.append_nil, List.mem_cons, List.not_mem_nil, or_false] at hb
              rcases hb with rfl | rfl
              · exact s5.free (none5 _ f1)
              · exact s5.free (none5 _ f2)
          · intro c hc
            rcases List.mem_append.mp hc with hc | hc
            · exact hD c hc
            · have : c = y := by simpa using hc
              rw [this]; exact nD
        · rintro H5 ⟨s5, ys, h5, hM5, hnd, hfr, hD⟩
          rw [List.length_map, hal, List.take_length] at hM5
          have R5 := R3.same s5
          have k05 := k03.trans (s5.kb (S := [r]))
          obtain ⟨dx5, hx5⟩ := R5.at_
          have none0 : ∀ b ∈ ownOf ys, H b = none := fun b hb => kb_none k03 (hfr b hb) (by
            intro z
            have z : b = r := by simpa using z
            have := hfr b hb
            rw [z, hx3] at this
            cases this)
          have hD0 : H D5 = none := kb_none k03 hD5 (by intro z; have z : D5 = r := (by simpa using z); rw [z, hx3] at hD5; cases hD5)
          have hyl : ys.length = l.length := by rw [hM5.len, List.length_map]
          refine ⟨_, rfl, r, dx5, _, rfl, hx5, rfl, r, tl, t, p2, rfl, R5, rfl, _, rfl, ?_⟩
          unfold itemRest at q
          rw [head_drop] at q
          by_cases hc : t[p2]? = some Quire.LEFT
          · rw [if_pos hc] at q
            refine (if_pos (by rw [pk_some hc]; rfl)).mpr ?_
            refine ⟨_, rfl, D5, _, rfl, .inl (SqL.of h5), rfl, _, rfl, r, a.CR, dx5, _, _, rfl, hx5, T.clR, T.nRp, rf_place, _, _, rfl, fun e => ?_, fun e => ?_⟩
            · have hl1 : l.length = 1 := by
                have z := V.int.inj (of_decide_eq_true e)
                simp only [refs, List.length_map] at z
                omega
              obtain ⟨s0, rfl⟩ : ∃ s0, l = [s0] := List.length_eq_one_iff.mp hl1
              obtain ⟨y, rfl⟩ : ∃ y, ys = [y] := List.length_eq_one_iff.mp (by rw [hyl]; rfl)
              have g5 : GAt a H5 y (Quire.regular s0 n) := hM5.1
              rw [itemNotes] at q
              refine ⟨_, rfl, _, rfl, D5, _, _, _, rfl, rfl, SqL.of h5, atI_nat (j := 0) rfl, r, tl, t, p2, y, Quire.regular s0 n, rfl, R5, g5, ?_⟩
              have hown : ∀ b, b ∈ [r, y.st, y.gp] → b ∈ [r] ∨ H b = none := by
                intro b hb
                simp only [List.mem_cons, List.not_mem_nil, or_false] at hb
                rcases hb with rfl | rfl | rfl
                · exact .inl (by simp)
                · exact .inr (none0 _ (by simp [ownOf]))
                · exact .inr (none0 _ (by simp [ownOf]))
              have ex : ∀ b, b ∈ [r] → b ∈ [r, y.st, y.gp] := by simp
              cases z3 : notesItem (Quire.regular s0 n) p2 (t.drop p2) with
              | error e =>
                rw [z3, notesR] at q
                intro H' d' k' hd'
                exact q H' d' (((k05.mono ex).trans k').drop hown) hd'
              | ok v =>
                obtain ⟨G6, p6, u6⟩ := v
                rw [z3, notesR] at q
                intro H6 k6 r6 ga g6
                have k06 : Kb [r] H H6 := ((k05.mono ex).trans k6).drop hown
                have hD1 := hD y (by simp)
                have h6 : H6 D5 = some (.lst (refs [y])) := k6 _ _ h5 (by
                  simp only [List.mem_cons, List.not_mem_nil, or_false, not_or]
                  refine ⟨(ne_of hx5 h5 (by intro z; cases z)).symm, ?_, ?_⟩
                  · intro e; exact hD1 (by rw [e]; simp [adsOf])
                  · intro e; exact hD1 (by rw [e]; simp [adsOf]))
                exact ⟨_, rfl, q H6 k06 r6 D5 [{ y with ga := ga }] hD0 h6 ⟨g6, trivial⟩ hnd none0⟩
            · have hl1 : l.length ≠ 1 := by
                intro z
                have z2 := of_decide_eq_false e
                apply z2
                simp only [refs, List.length_map, hyl, z]
                rfl
              match l, hlne, hl1, q with
              | [s0], _, hl1, _ => exact absurd rfl hl1
              | s0 :: s1 :: l, _, _, q =>
                rw [itemNotes] at q
                · exact q.of k05 (by simp)
                · intro s2 e2; cases e2
          · rw [if_neg hc] at q
            refine (if_neg (by intro z; exact hc (pk_is.mp (by have z2 := V.int.inj (of_decide_eq_true z); exact z2)))).mpr ?_
            have hL5 : H5 L = some (.lst (refs xs)) := s5 _ _ (kr R2.at_ k3 (kr R1.at_ k2 (s1 _ _ hL) (by intro _ _ _ z; cases z)) (by intro _ _ _ z; cases z))
            have hMx5 : MAll a H5 xs m := (((hM.same s1).rdr R1.at_ k2).rdr R2.at_ k3).same s5
            have good : ∀ H7, Same H5 H7 → lastF m (l.map fun x => Quire.regular x n) = false → Q (.ref D5) H7 := fun H7 s7 e => by
              rw [if_neg (by rw [e]; decide)] at q
              exact q H7 (k05.trans s7.kb) (rd_same R5.at_ s7) D5 ys hD0 (s7 _ _ h5) (hM5.same s7) hnd none0
            have bad : ∀ H7, Same H5 H7 → lastF m (l.map fun x => Quire.regular x n) = true → Flt a E [] H7 (p : Nat) := fun H7 s7 e => by
              rw [if_pos e] at q
              exact q.of (k05.trans s7.kb) (by simp)
            refine ⟨_, rfl, Nat.zero_le _, fun c hc => ?_⟩
            have s6 : Same H5 (upd H5 c (.lst [])) := Same.new hc
            have hc6 : upd H5 c (.lst []) c = some (.lst []) := upd_same
            generalize upd H5 c (.lst []) = H6 at s6 hc6
            refine ⟨L, c, refs xs, rfl, rfl, SqL.of (s6 _ _ hL5), SqL.of hc6, _, rfl, ?_⟩
            by_cases hxs : xs = []
            · subst hxs
              have hm0 : m = [] := List.length_eq_zero_iff.mp (by rw [← hM.len]; rfl)
              refine (if_pos (by rfl)).mpr ?_
              refine ⟨_, rfl, _, _, rfl, fun _ => ⟨_, rfl, good H6 s6 ?_⟩, (fun e => nomatch e)⟩
              rw [hm0]; rfl
            · refine (if_neg (by simpa [refs] using hxs)).mpr ?_
              have hpos : 0 < xs.length := List.length_pos_iff.mpr hxs
              have hml := hM.len
              have hlast : m[m.length - 1]? = some m[m.length - 1] := List.getElem?_eq_getElem (by omega)
              obtain ⟨xl, hxl, gxl⟩ := (hMx5.same s6).get hlast
              have hat : atI (refs xs) (-1) = some (V.ref xl.g) := by
                unfold atI ixN refs
                rw [List.length_map, if_neg (by omega), if_pos (by omega)]
                show (xs.map fun x => V.ref x.g)[(-1 + ((xs.length : Nat) : Int)).toNat]? = _
                rw [show (-1 + ((xs.length : Nat) : Int)).toNat = m.length - 1 by omega, List.getElem?_map, hxl]
                rfl
              have hgl : m.getLast? = some m[m.length - 1] := by rw [List.getLast?_eq_getElem?, hlast]
              obtain ⟨s0, l', rfl⟩ : ∃ s0 l', l = s0 :: l' := List.exists_cons_of_ne_nil hlne
              obtain ⟨y0, ys', rfl⟩ : ∃ y0 ys', ys = y0 :: ys' := List.exists_cons_of_ne_nil (by intro e; rw [e] at hyl; simp at hyl)
              have g0 : GAt a H6 y0 (Quire.regular s0 n) := hM5.1.same s6
              have elf : lastF m ((s0 :: l').map fun x => Quire.regular x n) = Quire.follows m[m.length - 1] (Quire.regular s0 n) := by
                unfold lastF
                rw [hgl]
                rfl
              refine ⟨_, rfl, _, rfl, L, _, _, _, rfl, rfl, SqL.of (s6 _ _ hL5), hat, _, rfl, D5, _, _, _, rfl, rfl, SqL.of (s6 _ _ h5), atI_nat (j := 0) rfl, xl, y0, _, _, rfl, gxl, g0, fun H7 s7 => ⟨_, rfl, _, rfl, _, _, rfl, fun e => ⟨_, rfl, good H7 (s6.trans s7) ?_⟩, fun e => bad H7 (s6.trans s7) ?_⟩⟩
              · rw [elf]; simpa using e
              · rw [elf]; simpa using e
end
end Pg
end
section
namespace L2
open PySem PySem.Spec PyProof.Rows
structure RoomH (k : Nat) (A : Around) : Prop where
  dp : A.depth + 3 * k + 5 < recursionLimit
  un : A.units + 16 * k + 200 < cLine
theorem Room.h {k : Nat} {A : Around} (r : Room k A) : RoomH k A := ⟨r.dp, r.un⟩
theorem RoomH.mono {j k : Nat} {A : Around} (r : RoomH k A) (h : j ≤ k) : RoomH j A := ⟨by have := r.dp; omega, by have := r.un; omega⟩
theorem RoomH.deeper {k : Nat} {A : Around} (r : RoomH (k + 1) A) (env : Env) : RoomH k (A.deeper env) :=
  ⟨by have := r.dp; show A.depth + 1 + 3 * k + 5 < _; omega, by have := r.un; show A.units + 3 + 16 * k + 200 < _; omega⟩
theorem RoomH.make {k : Nat} {A : Around} (r : RoomH (k + 1) A) (C : Addr) (us : List Value) (kw : List (Str × Value)) : RoomH k (A.under (.builtin "type.__call__" ⟨.ref C :: us, kw⟩)) :=
  ⟨by have := r.dp; rw [make_depth]; omega, by have := r.un; rw [make_units]; omega⟩
theorem RoomH.depth {k : Nat} {A : Around} (r : RoomH k A) : A.depth < recursionLimit := by have := r.dp; omega
theorem RoomH.mark {k : Nat} {A : Around} (r : RoomH k A) (v : Option Value) : RoomH k (A.mark v) := ⟨r.dp, r.un⟩
structure FnOkH (P : Program) (w : World) (K : PySem.W.Frag) (mg : Str → Option Value) (base : Heap) (CX : CXT) (k : Nat) (f : Addr) (fd : FuncData) (ps : List Str) (sp : Sp) : Prop where
  len : ∀ vs H Q E, sp vs H Q E → vs.length = ps.length
  run : ∀ (A : Around) (outer : List Env) (s : Shared) (H : Hp) (args : Args) (us : List Value) (vs : List V) (Q : VK) (E : XK), RoomH k A → Env0 P w K mg base A outer s H → BindsTo s fd args (ps.zip us) → Vals vs us → sp vs H Q E →
    codeAny (model P w) A (.call (.ref f) args) (CR CX outer P w H s Q E) s
theorem FnOkH.ok {P : Program} {w : World} {K : PySem.W.Frag} {mg : Str → Option Value} {base : Heap} {CX : CXT} {k : Nat} {f : Addr} {fd : FuncData} {ps : List Str} {sp : Sp} (F : FnOkH P w K mg base CX k f fd ps sp) : FnOk P w K mg base CX k f fd ps sp :=
  ⟨F.len, fun A outer s H args us vs Q E hr => F.run A outer s H args us vs Q E hr.h⟩
abbrev cxOfH (CX : CXT) (P : Program) (w : World) (K : PySem.W.Frag) (mg : Str → Option Value) (base : Heap) (N : List Str) (qual : Str) (scope : Scope) (f : Addr) (cd : Value) (A : Around) (outer : List Env) (s : Shared) (H : Hp) (E : XK) : Cx :=
  { cxOf CX P w K mg base N qual scope f cd A outer s H E with calm := false }
theorem fn_ofH {CX : CXT} {P : Program} {w : World} {K : PySem.W.Frag} {mg : Str → Option Value} {base : Heap} {k : Nat} {f : Addr} {name qual : Str} {params : Arguments} {body : List Stmt} {scope : Scope} {dV kV doc pm cdv ct oc : Value} {an od : Option Addr}
    {osl : Array (Option Value)} {N ps : List Str} {sp : Sp} (lk : K.lookup f = some ⟨oc, od, .func (PySem.W.fnOf name qual params body scope dV kV doc pm an cdv ct), osl⟩) (hcd : PySem.W.codeIn K cdv qual = true) (S : FnScope N ps scope)
    (len : ∀ vs H Q E, sp vs H Q E → vs.length = ps.length)
    (hbody : ∀ (A : Around) (outer : List Env) (s : Shared) (H : Hp) (vs : List V) (Q : VK) (E : XK), RoomH k (A.deeper (envOfC qual scope s.heap.objs.size f cdv)) → sp vs H Q E →
      ∃ t, PSs (cxOfH CX P w K mg base N qual scope f cdv A outer s H E) body t ∧ t { nx := fun _ H' => Q .non H', rt := Q } (start N vs) H) :
    FnOkH P w K mg base CX (k + 1) f (PySem.W.fnOf name qual params body scope dV kV doc pm an cdv ct) ps sp := by
  refine ⟨len, fun A outer s H args us vs Q E hr e0 hb r hsp => ?_⟩
  have hl := len _ _ _ _ hsp
  have KX : K.In s.heap := e0.mod.kin.keeps fun b o e => (e0.bs b o e).1
  have lim : s.heap.NoLimit := e0.mod.nolimit.keeps fun b o e => (e0.bs b o e).1
  have hkind : ∀ y ∈ ps.zip us, scope.names.lookup y.1 = some .local ∨ (scope.names.lookup y.1 = some .cell ∧ ((cellsFrom (s.heap.objs.size + 1) scope.names []).lookup y.1).isSome = true) := fun ⟨n, v⟩ hy => by
    rcases S.par n (List.of_mem_zip hy).1 with q | q
    · exact .inl q
    · exact .inr ⟨q, PySem.W.cellsFrom_some _ _ _ (.inl q)⟩
  refine codeAny_call_function hr.depth (KX _ _ lk) rfl S.co S.gen rfl (PySem.W.codeRec_of KX hcd) (hb _ _ _ _ ?_)
  refine wpAny_newFunctionEnv_cells S.kind hkind fun env he s1 x => ?_
  subst he
  refine ⟨lim.keeps x.toInCall.keep, codeAny_func ?_⟩
  obtain ⟨t, ht, hq⟩ := hbody A outer s H vs Q E (hr.deeper _) hsp
  have e1 : Env0 P w K mg base { A with handled := none } outer s H := ⟨e0.frames, e0.mod, e0.bs, e0.bsz, e0.funs, e0.frf, e0.hok, e0.bare⟩
  have J0 : Inv (cxOf CX P w K mg base N qual scope f cdv { A with handled := none } outer s H E) [] (start N vs) H s1 := inv_start S rfl e1 hl r x
  have I : Inv (cxOfH CX P w K mg base N qual scope f cdv A outer s H E) [] (start N vs) H s1 :=
    ⟨⟨J0.ok.mod, J0.ok.kind, J0.ok.glob, J0.ok.blt, J0.ok.above, J0.ok.inj, J0.ok.has, J0.ok.cab, (fun z => nomatch z), Around.frames_deeper e0.frames, J0.ok.stk, J0.ok.exf, J0.ok.bs, J0.ok.bsz, J0.ok.noex, J0.ok.exfs, J0.ok.funs, J0.ok.frf⟩,
      J0.os, J0.bare, J0.base, J0.loc, J0.cell, J0.free, J0.freeC, J0.pin, J0.hok, J0.len⟩
  refine wpAny_mono (ht [] s1 (start N vs) H _ I hq) (fun fl s' hs => ?_) fun e s' hs => hs
  have fin : ∀ {σ' : St} {H' : Hp} {v : V} {u : Value}, Inv (cxOfH CX P w K mg base N qual scope f cdv A outer s H E) [] σ' H' s' → RelV v u → Q v H' → CE outer P w H s Q u s' :=
    fun {σ' H' v u} J rv q => ⟨v, H', J.os, J.bare, J.base, J.hok, rv, q⟩
  cases fl with
  | ret u =>
    obtain ⟨v, σ', H', J, rv, q⟩ := hs
    exact fin J rv q
  | next =>
    obtain ⟨σ', H', J, q⟩ := hs
    exact fin (v := V.non) (u := Value.none) J rfl q
  | brk =>
    obtain ⟨_, _, _, q⟩ := hs
    exact False.elim q
  | cont =>
    obtain ⟨_, _, _, q⟩ := hs
    exact False.elim q
section
variable {P : Program} {w : World} {K : PySem.W.Frag} {mg : Str → Option Value} {base : Heap}
theorem Fun.okH {x qual : Str} {st : Stmt} {f : Addr} {fd : FuncData} {N ps : List Str} {k : Nat} {sp : Sp} (F : Fun K x qual st f fd) (S : FnScope N ps (defScope st)) (len : ∀ vs H Q E, sp vs H Q E → vs.length = ps.length)
    (hbody : ∀ (cdv : Value) (A : Around) (outer : List Env) (s : Shared) (H : Hp) (vs : List V) (Q : VK) (E : XK), RoomH k (A.deeper (envOfC qual (defScope st) s.heap.objs.size f cdv)) → sp vs H Q E →
      ∃ t, PSs (cxOfH CX0 P w K mg base N qual (defScope st) f cdv A outer s H E).nox (defBody st) t ∧ t { nx := fun _ H' => Q .non H', rt := Q } (start N vs) H) : FnOkH P w K mg base CX0 (k + 1) f fd ps sp := by
  obtain ⟨oc, od, kV, doc, pm, an, cdv, ct, osl, rfl, lk, hcd⟩ := F.ex
  refine fn_ofH lk hcd S len fun A outer s H vs Q E hr hsp => ?_
  obtain ⟨t, h, q⟩ := hbody cdv A outer s H vs Q E hr hsp
  exact ⟨t, h.nox, q⟩
end
structure IOkH (P : Program) (w : World) (K : PySem.W.Frag) (mg : Str → Option Value) (base : Heap) (CX : CXT) (k : Nat) (C : Addr) (x : Str) (ps : List Str) (sp : Sp) : Prop where
  ex : ∃ f fd, FnOkH P w K mg base CX k f fd ps sp ∧ Binds K fd ps [] ∧ Mk K C f ∧ mg x = some (.ref C)
theorem IOkH.ok {P : Program} {w : World} {K : PySem.W.Frag} {mg : Str → Option Value} {base : Heap} {CX : CXT} {k : Nat} {C : Addr} {x : Str} {ps : List Str} {sp : Sp} (O : IOkH P w K mg base CX k C x ps sp) : IOk P w K mg base CX k C x ps sp := by
  obtain ⟨f, fd, F, b, m, e⟩ := O.ex
  exact ⟨f, fd, F.ok, b, m, e⟩
section
variable {X : Cx} {CX : CXT} {k n : Nat} {f C : Addr} {fd : FuncData} {ps : List Str} {sp : Sp} {dvs : List V} {ds : List Value} {E : XK} {x m : Str} {p pos apos : Pos} {e o : Expr} {es : List Expr} {ta : TE} {t : TA}
theorem run_makeH {pins : List (Addr × Obj)} {σ : St} {H : Hp} {s : Shared} {Q : VK} {us : List Value} {vs : List V} (M : Mk X.K C f) (F : FnOkH X.prog X.w X.K X.mg X.base CX k f fd ps sp) (hr : RoomH (k + 1) X.A) (hb : Binds X.K fd ps ds) (hd : Vals dvs ds)
    (hx : Passes CX X E) (I : Inv X pins σ H s) (r : Vals vs us)
    (h : ∀ x dx, H x = none → H dx = none → dx ≠ x → sp (.ref x :: (vs ++ dvs)) (upd (upd H dx (.own x)) x (.ins C dx [])) (fun v H2 => v = .non ∧ Q (.ref x) H2) E) :
    wpAny (model X.prog X.w) X.A (call (.ref C) us) (EP X pins σ Q) X.xe s := by
  have hq := h (s.heap.objs.size + 1) s.heap.objs.size (I.hok.fresh (Nat.le_succ _)) (I.hok.fresh (Nat.le_refl _)) (Nat.ne_of_lt (Nat.lt_succ_self _))
  have I2 := Inv.made (C := C) I
  have r2 : Vals (V.ref (s.heap.objs.size + 1) :: (vs ++ dvs)) (Value.ref (s.heap.objs.size + 1) :: (us ++ ds)) := .cons rfl (r.append hd)
  have hl : (Value.ref (s.heap.objs.size + 1) :: us ++ ds).length = ps.length := by
    have e := r2.length
    rw [F.len _ _ _ _ hq] at e
    exact e.symm
  refine wpAny_call (make_map (f := f) I.kIn M.makes M.init (beq_iff_eq.mp M.fn) (codeAny_mono (F.run _ X.stack _ _ ⟨Value.ref (s.heap.objs.size + 1) :: us, []⟩ (Value.ref (s.heap.objs.size + 1) :: (us ++ ds)) _ _ E (hr.make C us [])
    (I2.env0.make C us []) (hb _ (Value.ref (s.heap.objs.size + 1) :: us) I2.kIn hl) r2 hq) fun r s' hq' => ?_))
  cases r with
  | error e => exact hx pins σ _ _ e s' I2 hq'
  | ok fl =>
    cases fl with
    | ret u =>
      obtain ⟨v, H', I3, rv, ev, q3⟩ := I2.after hq'
      subst ev
      exact ⟨rv, ⟨V.ref (s.heap.objs.size + 1), H', I3, rfl, q3⟩⟩
    | next => exact False.elim hq'
    | brk => exact False.elim hq'
    | cont => exact False.elim hq'
theorem pe_mkH (O : IOkH X.prog X.w X.K X.mg X.base CX k C x ps sp) (hr : RoomH n X.A) (hx : Passes CX X E) (ha : PA X (e :: es) t) (hg : Gl X x := by rfl) (hk : k + 1 ≤ n := by decide) (hdb : (x == ("__debug__" : Str)) = false := by decide)
    (he : starEach (e :: es) X.env = (false, eval e X.env) :: starEach es X.env := by rfl) (hpl : (backTo pos (starEach es X.env)).any (·.1) = false := by rfl) :
    PE X (.Call (.Name x p) (e :: es) [] pos) (tMake C sp [] E t) := by
  obtain ⟨f, fd, F, b, M, hm⟩ := O.ex
  intro pins s σ H Q I h
  refine wpAny_Call_Name_kw (ld_glob I hg hm ?_ hdb)
  refine PySem.W.callWith_K (h₀ := X.base) I.ok.mod.kin M.kp (thn (ha pos pins s σ H _ I h) fun us s1 ⟨vs, H1, I1, r, q⟩ => ⟨I1.kIn, ?_⟩) he hpl
  exact run_makeH M F (hr.mono hk) b .nil hx I1 r q
end
end L2
end
section
namespace Pg
open PySem PySem.Spec PyProof.Rows L2
def aftItem (F : Nat) (m : Quire.Make) (q : Nat) : List Nat → Except Nat Quire.Make
  | [] => .ok m
  | c :: v => if c = Quire.BLANK then Quire.itemsAt F m (q + 1) v else .error q
theorem items_succ (F : Nat) (m : Quire.Make) (p : Nat) (t : List Nat) : Quire.itemsAt (F + 1) m p t = (match Quire.itemAt m p t with
    | .error e => .error e
    | .ok (A, q, u) => aftItem F (m ++ A) q u) := by
  rw [Quire.itemsAt]
  cases Quire.itemAt m p t with
  | error e => rfl
  | ok v =>
    obtain ⟨A, q, u⟩ := v
    cases u <;> rfl
theorem list_ne {a : Adr} {H : Hp} {y : GA} {G : Quire.Gath} {L : Addr} {xs : List GA} {m : Quire.Make} (g : GAt a H y G) (hL : H L = some (.lst (refs xs))) (hM : MAll a H xs m) (hne : xs ≠ []) : L ∉ adsOf y := by
  obtain ⟨x0, xs', rfl⟩ := List.exists_cons_of_ne_nil hne
  obtain ⟨G0, _, g0⟩ := hM.of_mem (List.mem_cons_self ..)
  obtain ⟨dx0, ho0⟩ := g0.obj
  obtain ⟨dx, ho⟩ := g.obj
  have lne : ∀ vs : List V, H L ≠ some (.lst vs) ∨ vs = refs (x0 :: xs') := fun vs => by
    by_cases e : H L = some (.lst vs)
    · right; rw [hL] at e; exact (HO.lst.inj (Option.some.inj e)).symm
    · exact .inl e
  unfold adsOf
  simp only [List.mem_cons, not_or]
  refine ⟨ne_of hL ho (by intro z; cases z), ne_of hL g.sig (by intro z; cases z), ne_of hL g.st ?_, ne_of hL g.gp ?_, fun hb => ?_⟩
  · intro z
    have z := (List.cons.inj (HO.lst.inj z)).1
    cases z
  · intro z
    have z := HO.lst.inj z
    have hl : y.ga.length = G.size + 1 := by rw [g.ga.len, g.np]
    cases hg : y.ga with
    | nil => rw [hg] at hl; simp at hl
    | cons c r =>
      rw [hg] at z
      have e : V.ref x0.g = V.ref c := (List.cons.inj z).1
      have e := V.ref.inj e
      obtain ⟨w, hw⟩ := g.ga.mem (b := c) (by rw [hg]; simp)
      rw [← e, ho0] at hw
      cases hw
  · obtain ⟨w, hw⟩ := g.ga.mem hb
    rw [hL] at hw
    have z := HO.lst.inj (Option.some.inj hw)
    cases w with
    | nil => cases z
    | cons s r => have := (List.cons.inj z).1; cases this
section
variable {P : Program} {w : World} {K : PySem.W.Frag} {mg : Str → Option Value} {base : Heap} {a : Adr}
def spFormula (K : PySem.W.Frag) (a : Adr) : Sp := fun vs H Q E => ∃ (tl : Addr) (t : List Nat), vs = [.ref tl] ∧ Fz K H tl (t.map cV) ∧ t.length ≤ 32768 ∧ match Quire.read t with
  | .error e => Flt a E [] H (e : Nat)
  | .ok m => ∀ H' L xs, Same H H' → H' L = some (.lst (refs xs)) → MAll a H' xs m → (ownOf xs).Nodup → (∀ b ∈ ownOf xs, H b = none) → m.length ≤ 48 → Q (.ref L) H'
theorem sc_formula : FnScope ["text", "reader", "gatherings"] ["text"] (defScope s_read_formula) := ⟨rfl, rfl, rfl, by decide +kernel, rfl, by decide +kernel, by decide +kernel⟩
theorem ok_formula (T : Txt K mg a) (ORI : IOk P w K mg base CX0 1 a.CR "Reader" ["self", "text"] (spRInit a)) (OI : Ok P w K mg base (CXR P w) 9 "read_item" ["reader", "before"] (spItem K a)) (OP : MOk P w K mg base CX0 1 a.CR "peek" ["self"] (spPeek K a)) (OX : MOk P w K mg base (CXR P w) 4 a.CR "expect" ["self", "character"] (spExpect K a))
    (d : Df K mg "read_formula" s_read_formula ["text"]) : Ok P w K mg base (CXR P w) 10 "read_formula" ["text"] (spFormula K a) := by
  refine d.ok fun f fd F => ?_
  refine F.okX sc_formula (fun vs H Q E h => ?_) (fun cdv A outer s H vs Q E hr h => ?_)
  · obtain ⟨x, _, rfl, _⟩ := h
    rfl
  · obtain ⟨tl, t, rfl, hF, hlen, q⟩ := h
    refine ⟨_, pss_cons (ps_set (i := 1) sc_formula.nd rfl (Or.inl rfl) (pe_mk ORI hr pass0 (pa_cons (pv 0) pa_nil)))
      (pss_cons (ps_set (i := 2) sc_formula.nd rfl (Or.inl rfl) (pe_f OI hr passX (pa_cons (pv 1) (pa_cons (pe_lst pa_nil) pa_nil))))
      (pss_cons (ps_while ownX (pt_cmpR op_ne (pe_mz OP hr pass0 (pv 1)) (pe_gi T.END) (nomark _))
        (pss_cons (ps_expr (pe_m OX hr passX (pv 1) (pa_cons (pe_gi T.BLANK) pa_nil)))
        (pss_one (ps_expr (pe_bm PySem.F.plainAttrs_list PySem.F.slot_list_extend PySem.F.type_list_extend mt_extend (pv 2) (pa_cons (pe_f OI hr passX (pa_cons (pv 1) (pa_cons (pv 2) pa_nil))) pa_nil))))))
      (pss_one (ps_ret (pv 2))))), ?_⟩
    refine ⟨_, rfl, fun r dx nx ndx ne => ⟨r, dx, tl, rfl, upd_same, rfl, ?_⟩⟩
    rw [upd_upd]
    have s1 : Same H (upd (upd H dx (.own r)) r (.ins a.CR dx (rf tl 0))) := fun b o hb => by
      rw [upd_ne (ne_of_none hb nx), upd_ne (ne_of_none hb ndx)]; exact hb
    have r1 : RdAt a (upd (upd H dx (.own r)) r (.ins a.CR dx (rf tl 0))) r tl 0 := ⟨dx, upd_same⟩
    generalize upd (upd H dx (.own r)) r (.ins a.CR dx (rf tl 0)) = H1 at s1 r1
    have R1 : RT K a H1 r tl t 0 := ⟨r1, hF.same s1, hlen⟩
    refine ⟨_, rfl, Nat.zero_le _, fun L0 hL0 => ?_⟩
    have s2 : Same H1 (upd H1 L0 (.lst [])) := Same.new hL0
    have hL2 : upd H1 L0 (.lst []) L0 = some (.lst (refs [])) := upd_same
    generalize upd H1 L0 (.lst []) = H2 at s2 hL2
    have R2 := R1.same s2
    have s02 := s1.trans s2
    have hr0 : ∀ b, b ∈ [r] → b ∈ ([] : List Addr) ∨ H b = none := by
      intro b hb
      have : b = r := by simpa using hb
      rw [this]; exact .inr nx
    have e0 : Quire.read t = Quire.itemsAt (t.length + 1) [] 0 (t.drop 0) := rfl
    rw [e0, items_succ] at q
    refine ⟨r, tl, L0, t, 0, [], [], rfl, R2, hL2, trivial, by simp, ?_⟩
    have flt : ∀ (e : Nat) H', Kb [r] H H' → Flt a E [] H e → Flt a E [] H' e := fun e H' k h => h.of (k.drop hr0) (by simp)
    cases z : Quire.itemAt [] 0 (t.drop 0) with
    | error e =>
      rw [z] at q
      intro H' d' k' hd'
      exact q H' d' (((s02.kb (S := [r])).trans k').drop hr0) hd'
    | ok v =>
      obtain ⟨A1, p1, u1⟩ := v
      have hi := z
      rw [item_eq] at hi
      obtain ⟨hu1, hp1, hl1, hne1⟩ := item_info hi
      subst hu1
      rw [z] at q
      dsimp only at q
      intro H3 k3 r3 L ys hLn hL hM hnd hfr
      have k03 : Kb [r] H H3 := (s02.kb (S := [r])).trans k3
      refine ⟨fun mm σ H' => ∃ (F : Nat) (m : Quire.Make) (p : Nat) (xs : List GA), mm = t.length - p ∧ σ = [some (.ref tl), some (.ref r), some (.ref L)] ∧ Kb [r] H H' ∧ RdAt a H' r tl p ∧ H' L = some (.lst (refs xs)) ∧ MAll a H' xs m ∧ (ownOf xs).Nodup ∧ (∀ b ∈ ownOf xs, H b = none) ∧ m.length ≤ 48 ∧ m ≠ [] ∧ H L = none ∧ t.length - p ≤ F ∧
          (match aftItem F m p (t.drop p) with
            | .error e => Flt a E [] H (e : Nat)
            | .ok m => ∀ H' L xs, Same H H' → H' L = some (.lst (refs xs)) → MAll a H' xs m → (ownOf xs).Nodup → (∀ b ∈ ownOf xs, H b = none) → m.length ≤ 48 → Q (.ref L) H'),
        ⟨_, t.length, A1, p1, ys, rfl, rfl, k03, r3, hL, hM, hnd, fun b hb => s02.free (hfr b hb), by simpa using hl1, hne1, s02.free hLn, by omega, q⟩, ?_⟩
      rintro mm σ H4 ⟨F4, m, p, xs, rfl, rfl, k04, r4, hL4, hM4, hnd4, hfr4, hm4, hmne, hLn4, hF4, q4⟩
      have R4 : RT K a H4 r tl t p := ⟨r4, hF.kb k04 (by intro c hc o u zz; have hc : c = r := (by simpa using hc); rw [hc, nx] at zz; cases zz), hlen⟩
      obtain ⟨dx4, hx4⟩ := r4
      refine ⟨_, rfl, r, dx4, _, rfl, hx4, rfl, r, tl, t, p, rfl, R4, rfl, _, rfl, ?_⟩
      have hxne : xs ≠ [] := by
        intro e; subst e
        exact hmne (List.length_eq_zero_iff.mp hM4.len.symm)
      cases z4 : t[p]? with
      | none =>
        rw [drop_none z4, aftItem] at q4
        refine (if_neg (by rw [pk_none z4]; decide)).mpr ?_
        exact ⟨_, rfl, q4 H4 L xs (k04.drop hr0).same hL4 hM4 hnd4 hfr4 hm4⟩
      | some c =>
        have hpt : p < t.length := (List.getElem?_eq_some_iff.mp z4).1
        rw [drop_some z4, aftItem] at q4
        refine (if_pos (by rw [pk_some z4]; simp)).mpr ?_
        refine ⟨_, fun _ _ h => h, ?_⟩
        refine ⟨_, rfl, r, dx4, _, rfl, hx4, rfl, r, tl, t, p, Quire.BLANK, rfl, R4, ?_⟩
        rw [drop_some z4, Quire.charAt]
        by_cases hb : c = Quire.BLANK
        · rw [if_pos hb] at q4 ⊢
          intro H5 k5 r5
          have R5 := R4.go k5 r5
          have hL5 := kr R4.at_ k5 hL4 (by intro _ _ _ z; cases z)
          have hM5 := hM4.rdr R4.at_ k5
          have k05 := k04.trans k5
          obtain ⟨F', rfl⟩ : ∃ F', F4 = F' + 1 := ⟨F4 - 1, by omega⟩
          rw [items_succ] at q4
          refine ⟨_, rfl, .inl ⟨rfl, _, SqL.of hL5⟩, _, rfl, _, rfl, r, tl, L, t, p + 1, xs, m, rfl, R5, hL5, hM5, hm4, ?_⟩
          cases z6 : Quire.itemAt m (p + 1) (t.drop (p + 1)) with
          | error e =>
            rw [z6] at q4
            intro H' d' k' hd'
            exact q4 H' d' ((k05.trans k').drop hr0) hd'
          | ok v =>
            obtain ⟨A6, p6, u6⟩ := v
            have hi6 := z6
            rw [item_eq] at hi6
            obtain ⟨hu6, hp6, hl6, hne6⟩ := item_info hi6
            subst hu6
            rw [z6] at q4
            dsimp only at q4
            intro H6 k6 r6 o ys hon ho hM6 hnd6 hfr6
            have k06 := k05.trans k6
            have hL6 := kr R5.at_ k6 hL5 (by intro _ _ _ z; cases z)
            have hMx6 := hM5.rdr R5.at_ k6
            have hyl := hM6.len
            have hxl := hMx6.len
            refine ⟨L, o, _, _, rfl, rfl, hL6, ho, ?_, ?_⟩
            · simp only [refs, List.length_map]
              exact Nat.le_trans (show _ ≤ 1000 by omega) (by decide)
            · have kL : Kb [L] H6 (upd H6 L (.lst (refs xs ++ refs ys))) := Kb.put (by simp)
              have hfree : ∀ b ∈ ownOf ys, H b = none := fun b hb => kb_none k05 (hfr6 b hb) (by
                intro z
                have z : b = r := by simpa using z
                have := hfr6 b hb
                obtain ⟨dx5, hx5⟩ := R5.at_
                rw [z, hx5] at this
                cases this)
              refine ⟨t.length - p6, by omega, F', m ++ A6, p6, xs ++ ys, rfl, rfl, fun b ob hb n => ?_, ?_, ?_, ?_, ?_, ?_, ?_, ?_, hLn4, by omega, q4⟩
              · rw [upd_ne (ne_of_none hb hLn4)]; exact k06 _ _ hb n
              · obtain ⟨dx6, hx6⟩ := r6
                exact ⟨dx6, by rw [upd_ne (ne_of hx6 hL6 (by intro z; cases z))]; exact hx6⟩
              · rw [upd_same]; unfold refs; rw [List.map_append]
              · refine MAll.app (hMx6.keep fun c G _ g => g.kb kL ?_) (hM6.keep fun c G _ g => g.kb kL ?_)
                · intro c' hc' zz
                  have : c' = L := by simpa using hc'
                  subst this
                  exact list_ne g hL6 hMx6 hxne zz
                · intro c' hc' zz
                  have : c' = L := by simpa using hc'
                  subst this
                  exact list_ne g hL6 hMx6 hxne zz
              · unfold ownOf
                rw [List.flatMap_append]
                refine List.nodup_append.mpr ⟨hnd4, hnd6, fun b hb1 c hc e => ?_⟩
                subst e
                obtain ⟨vs, hv⟩ := hM5.own hb1
                rw [hfr6 b hc] at hv; cases hv
              · intro b hb
                unfold ownOf at hb
                rw [List.flatMap_append] at hb
                rcases List.mem_append.mp hb with hb | hb
                · exact hfr4 b hb
                · exact hfree b hb
              · rw [List.length_append]; exact hl6
              · simp [hmne]
        · rw [if_neg hb] at q4 ⊢
          intro H' d' k' hd'
          exact q4 H' d' ((k04.trans k').drop hr0) hd'
end
def bf (L : Addr) (rv pl : Int) : List (Str × V) := [("gatherings", .ref L), ("refusal", .int rv), ("place", .int pl)]
theorem bf_g {L : Addr} {rv pl : Int} : (bf L rv pl).lookup ("gatherings" : Str) = some (.ref L) := rfl
theorem bf_r {L : Addr} {rv pl : Int} : (bf L rv pl).lookup ("refusal" : Str) = some (.int rv) := rfl
def BkIs (a : Adr) (H H' : Hp) (t : List Nat) (L : Addr) (rv pl : Int) : Prop := if 16384 < t.length then rv = -2 else match Quire.read t with
  | .error e => rv = -6 ∧ pl = (e : Nat)
  | .ok m => rv = 0 ∧ ∃ xs, H' L = some (.lst (refs xs)) ∧ MAll a H' xs m ∧ (ownOf xs).Nodup ∧ (∀ b ∈ ownOf xs, H b = none) ∧ m.length ≤ 48
section
variable {P : Program} {w : World} {K : PySem.W.Frag} {mg : Str → Option Value} {base : Heap} {a : Adr}
def spBInit (a : Adr) : Sp := fun vs H Q _ => ∃ (x dx L : Addr) (rv pl : Int), vs = [.ref x, .ref L, .int rv, .int pl] ∧ H x = some (.ins a.CB dx []) ∧ Q .non (upd H x (.ins a.CB dx (bf L rv pl)))
theorem sc_binit : FnScope ["self", "gatherings", "refusal", "place"] ["self", "gatherings", "refusal", "place"] (defScope s_Book_init) := ⟨rfl, rfl, rfl, by decide +kernel, rfl, by decide +kernel, by decide +kernel⟩
theorem ok_binit (T : Txt K mg a) (d : Di K mg a.CB "Book" "Book.__init__" s_Book_init ["self", "gatherings", "refusal", "place"]) : IOkH P w K mg base CX0 1 a.CB "Book" ["self", "gatherings", "refusal", "place"] (spBInit a) := by
  obtain ⟨f, fd, F, b, m, e⟩ := d.ex
  refine ⟨f, fd, ?_, b, m, e⟩
  refine F.okH sc_binit (fun vs H Q E h => ?_) (fun cdv A outer s H vs Q E hr h => ?_)
  · obtain ⟨x, _, _, _, _, rfl, _⟩ := h
    rfl
  · obtain ⟨x, dx, L, rv, pl, rfl, hx, q⟩ := h
    refine ⟨_, pss_cons (ps_fld (pv 0) (pv 1) rfl) (pss_cons (ps_fld (pv 0) (pv 2) rfl) (pss_one (ps_fld (pv 0) (pv 3) rfl))), ?_⟩
    refine ⟨_, rfl, _, rfl, x, a.CB, dx, _, rfl, hx, T.clB, T.nBg, (by show 0 < 1000; decide), ?_⟩
    refine ⟨_, rfl, _, rfl, x, a.CB, dx, _, rfl, upd_same, T.clB, T.nBr, (by show 1 < 1000; decide), ?_⟩
    refine ⟨_, rfl, _, rfl, x, a.CB, dx, _, rfl, upd_same, T.clB, T.nBp, (by show 2 < 1000; decide), ?_⟩
    rw [upd_upd, upd_upd]
    exact q
def spBook (K : PySem.W.Frag) (a : Adr) : Sp := fun vs H Q _ => ∃ (tl : Addr) (t : List Nat), vs = [.ref tl] ∧ Fz K H tl (t.map cV) ∧ t.length ≤ 32768 ∧
  ∀ H' b dx L rv pl, Same H H' → H' b = some (.ins a.CB dx (bf L rv pl)) → BkIs a H H' t L rv pl → Q (.ref b) H'
theorem sc_book : FnScope ["text", "gatherings", "fault"] ["text"] (defScope s_read_book) := ⟨rfl, rfl, rfl, by decide +kernel, rfl, by decide +kernel, by decide +kernel⟩
theorem ok_book (T : Txt K mg a) (OB : IOkH P w K mg base CX0 1 a.CB "Book" ["self", "gatherings", "refusal", "place"] (spBInit a)) (OF : Ok P w K mg base (CXR P w) 10 "read_formula" ["text"] (spFormula K a))
    (d : Df K mg "read_book" s_read_book ["text"]) : Ok P w K mg base CX0 11 "read_book" ["text"] (spBook K a) := by
  refine d.ok fun f fd F => ?_
  refine F.ok sc_book (fun vs H Q E h => ?_) (fun cdv A outer s H vs Q E hr h => ?_)
  · obtain ⟨x, _, rfl, _⟩ := h
    rfl
  · obtain ⟨tl, t, rfl, hF, hlen, q⟩ := h
    refine ⟨_, pss_cons (ps_if (pt_cmpR op_gt (pe_callB call_len_seq (by rfl) T.len PySem.boot_len (pa_cons (pv 0) pa_nil)) (pe_gi T.MOST_CHARACTERS) (nomark _))
        (pss_one (ps_ret (pe_mk OB.ok hr pass0 (pa_cons (pe_lst pa_nil) (pa_cons (pe_gi T.TOO_LONG) (pa_cons (pe_un un_neg pe_int) pa_nil)))))) pss_nil)
      (pss_cons (ps_try (i := 2) rfl rfl rfl rfl T.xF rfl T.mF sc_book.nd rfl rfl
        (fun E pn xe ht => pss_one (ps_set (i := 1) sc_book.nd rfl (Or.inl rfl) (pe_f OF hr (ht.passes rfl) (pa_cons (pv 0) pa_nil))))
        (fun pn x d oe h1 h2 h3 h4 => pss_one (ps_ret (pe_mkH OB (hr.h.mark _) pass0 (pa_cons (pe_lst pa_nil) (pa_cons (pe_gi T.NO_FORMULA) (pa_cons (pe_xfld T.xF T.xFp h1 h2 h3 h4 (pv 2)) pa_nil)))))))
      (pss_one (ps_ret (pe_mk OB.ok hr pass0 (pa_cons (pv 1) (pa_cons (pe_gi T.ACCEPTED) (pa_cons (pe_un un_neg pe_int) pa_nil))))))), ?_⟩
    refine ⟨_, rfl, tl, _, rfl, .inl hF.sq, _, _, rfl, rfl, _, rfl, ?_⟩
    rw [show (t.map cV).length = t.length from List.length_map ..]
    have made : ∀ (H1 : Hp) (x dx L : Addr) (rv pl : Int), Same H H1 → H1 x = none → H1 dx = none → dx ≠ x → (∀ H', Same H1 H' → BkIs a H H' t L rv pl) →
        Q (.ref x) (upd (upd (upd H1 dx (.own x)) x (.ins a.CB dx [])) x (.ins a.CB dx (bf L rv pl))) := by
      intro H1 x dx L rv pl s1 nx ndx ne hk
      have s2 : Same H1 (upd (upd (upd H1 dx (.own x)) x (.ins a.CB dx [])) x (.ins a.CB dx (bf L rv pl))) := fun b ob hb => by
        rw [upd_ne (ne_of_none hb nx), upd_ne (ne_of_none hb nx), upd_ne (ne_of_none hb ndx)]; exact hb
      exact q _ x dx L rv pl (s1.trans s2) upd_same (hk _ s2)
    refine ite2 (fun e => ?_) fun e => ?_
    · have h1 : 16384 < t.length := by have := of_decide_eq_true e; omega
      refine ⟨Nat.zero_le _, fun l hl => ?_⟩
      refine ⟨_, rfl, fun x dx nx ndx ne => ⟨x, dx, l, -2, -1, rfl, upd_same, rfl, ?_⟩⟩
      refine made _ x dx l (-2) (-1) (Same.new hl) nx ndx ne fun H' _ => ?_
      unfold BkIs
      rw [if_pos h1]
    · have h1 : ¬ 16384 < t.length := fun z => e (decide_eq_true (by omega))
      refine ⟨_, rfl, tl, t, rfl, hF, hlen, ?_⟩
      cases z : Quire.read t with
      | error e =>
        intro H1 d k1 hd
        refine ⟨rfl, d, rfl, fun σ' x hl hi => ?_⟩
        refine ⟨Nat.zero_le _, fun l hll => ?_⟩
        refine ⟨_, hi, rfl, _, _, by rw [upd_ne (ne_of_none hd hll)]; exact hd, rfl, fun x dx nx ndx ne => ⟨x, dx, l, -6, (e : Nat), rfl, upd_same, rfl, ?_⟩⟩
        refine made _ x dx l (-6) (e : Nat) (k1.same.trans (Same.new hll)) nx ndx ne fun H' _ => ?_
        unfold BkIs
        rw [if_neg h1, z]
        exact ⟨rfl, rfl⟩
      | ok m =>
        intro H1 L xs s1 hL hM hnd hfr hm
        refine ⟨_, rfl, _, rfl, fun x dx nx ndx ne => ⟨x, dx, L, 0, -1, rfl, upd_same, rfl, ?_⟩⟩
        refine made _ x dx L 0 (-1) s1 nx ndx ne fun H' s2 => ?_
        unfold BkIs
        rw [if_neg h1, z]
        exact ⟨rfl, xs, s2 _ _ hL, hM.same s2, hnd, hfr, hm⟩
end
open PySem.W (nsIn findIn isFn codeIn keepIn makesIn typeIn fnOf mg_of mg_none_of)
section
variable {K : PySem.W.Frag} {h : Heap} {mg : Str → Option Value}
theorem df_mk {x : Str} {st : Stmt} {ps : List Str} {f : Addr} {oc : Value} {od an : Option Addr} {osl : Array (Option Value)} {kV doc pm cdv ct : Value} (X : K.In h) (G : h.Ns mainGlobals mg) (a1 : nsIn K mainGlobals x = some (some (.ref f)))
    (l : K.lookup f = some ⟨oc, od, .func (fnOf x x (defArgs st) (defBody st) (defScope st) .none kV doc pm an cdv ct), osl⟩) (c : codeIn K cdv x = true) (k : keepIn K (.ref f) = true)
    (b : ∀ (kV doc pm : Value) (an : Option Addr) (cdv ct : Value) (us : List Value), us.length = ps.length → bindArgs (fnOf x x (defArgs st) (defBody st) (defScope st) .none kV doc pm an cdv ct) ⟨us, []⟩ = pure (ps.zip us)) : Df K mg x st ps :=
  ⟨f, _, fun_mk l c k, (fun_mk l c k).binds b, mg_of X G a1⟩
theorem dm_mk {C : Addr} {x q : Str} {st : Stmt} {ps : List Str} {f : Addr} {oc : Value} {od an : Option Addr} {osl : Array (Option Value)} {kV doc pm cdv ct : Value} (a1 : findIn K (.ref C) x = some (some (.ref f))) (i : isFn K (.ref f) = true)
    (l : K.lookup f = some ⟨oc, od, .func (fnOf x q (defArgs st) (defBody st) (defScope st) .none kV doc pm an cdv ct), osl⟩) (c : codeIn K cdv q = true) (k : keepIn K (.ref f) = true)
    (b : ∀ (kV doc pm : Value) (an : Option Addr) (cdv ct : Value) (us : List Value), us.length = ps.length → bindArgs (fnOf x q (defArgs st) (defBody st) (defScope st) .none kV doc pm an cdv ct) ⟨us, []⟩ = pure (ps.zip us)) : Dm K C x q st ps :=
  ⟨f, _, fun_mk l c k, (fun_mk l c k).binds b, ⟨a1, i, k⟩⟩
theorem di_mk {C : Addr} {x q : Str} {st : Stmt} {ps : List Str} {f : Addr} {oc : Value} {od an : Option Addr} {osl : Array (Option Value)} {kV doc pm cdv ct : Value} (X : K.In h) (G : h.Ns mainGlobals mg) (aC : nsIn K mainGlobals x = some (some (.ref C)))
    (a1 : findIn K (.ref C) "__init__" = some (some (.ref f))) (i : isFn K (.ref f) = true)
    (l : K.lookup f = some ⟨oc, od, .func (fnOf "__init__" q (defArgs st) (defBody st) (defScope st) .none kV doc pm an cdv ct), osl⟩) (c : codeIn K cdv q = true) (k : keepIn K (.ref f) = true) (mk : makesIn K C = true) (kc : keepIn K (.ref C) = true)
    (b : ∀ (kV doc pm : Value) (an : Option Addr) (cdv ct : Value) (us : List Value), us.length = ps.length → bindArgs (fnOf "__init__" q (defArgs st) (defBody st) (defScope st) .none kV doc pm an cdv ct) ⟨us, []⟩ = pure (ps.zip us)) : Di K mg C x q st ps :=
  ⟨f, _, fun_mk l c k, (fun_mk l c k).binds b, ⟨mk, a1, i, kc⟩, mg_of X G aC⟩
theorem dx_mk {q : Str} {st : Stmt} {ps : List Str} {f : Addr} {oc : Value} {od an : Option Addr} {osl : Array (Option Value)} {kV doc pm cdv ct : Value}
    (l : K.lookup f = some ⟨oc, od, .func (fnOf "__init__" q (defArgs st) (defBody st) (defScope st) .none kV doc pm an cdv ct), osl⟩) (c : codeIn K cdv q = true) (k : keepIn K (.ref f) = true)
    (b : ∀ (kV doc pm : Value) (an : Option Addr) (cdv ct : Value) (us : List Value), us.length = ps.length → bindArgs (fnOf "__init__" q (defArgs st) (defBody st) (defScope st) .none kV doc pm an cdv ct) ⟨us, []⟩ = pure (ps.zip us)) : Dx K f q st ps :=
  ⟨_, fun_mk l c k, (fun_mk l c k).binds b⟩
theorem gi_mk {x : Str} {n : Int} {t : Tok} (X : K.In h) (G : h.Ns mainGlobals mg) (e : nsIn K mainGlobals x = some (some (.int n t))) : ∃ t, mg x = some (.int n t) := ⟨t, mg_of X G e⟩
theorem gs_mk {x : Str} {n : Str} {t : Tok} (X : K.In h) (G : h.Ns mainGlobals mg) (e : nsIn K mainGlobals x = some (some (.str n t))) : ∃ t, mg x = some (.str n t) := ⟨t, mg_of X G e⟩
theorem gt_mk {a : Addr} {xs : List V} {od : Option Addr} {its : Array Value} {n : Nat} {sl : Array (Option Value)} (l : K.lookup a = some ⟨.type "tuple", od, .seq its n, sl⟩) (hv : Vals xs its.toList) (hs : its.size ≤ sizeLine) : ∀ H, SqT K H a xs :=
  fun H => .inr ⟨_, its, n, l, rfl, rfl, hs, hv⟩
theorem cls_mk {C : Addr} (pg : PySem.W.plainGet K C Str.empty = true) (hd : PySem.W.hasDictIn K C = true) (po : PySem.W.plainOver K C = true) (sa : findIn K (.ref C) "__setattr__" = some (some (.builtin "object.__setattr__"))) : Cls K C := ⟨pg, hd, po, sa⟩
theorem xcls_mk {C N f : Addr} {nm q : Str} {bs : List Value} {sn : List Str} {sub : List Value} {ab : Bool} {col : Option Bool} {dd : Option Addr} {k0 k1 k2 k3 k5 : Option Value} {oc foc : Value} {od fod : Option Addr} {es : Array DictEntry} {n : Nat} {sl fsl : Array (Option Value)} {fdt : Data}
    (o : K.lookup C = some (excClassObj nm q C N bs excMro true sn sub ab col dd k0 k1 k2 k3 k5 "Exception.__new__")) (ln : K.lookup N = some ⟨oc, od, .dict es n, sl⟩) (ha : (es.toList.all fun e => match e.key with | .str _ _ => true | _ => false) = true)
    (i : nsIn K N "__init__" = some (some (.ref f))) (sa : nsIn K N "__setattr__" = some none) (ga : nsIn K N "__getattribute__" = some none) (gh : nsIn K N "__getattr__" = some none) (fn : isFn K (.ref f) = true) (lf : K.lookup f = some ⟨foc, fod, fdt, fsl⟩) (hfc : foc = .type "function") (kp : keepIn K (.ref C) = true)
    (fs : findIn K (.ref C) "__setattr__" = some (some (.builtin "object.__setattr__"))) : XCls K C N f :=
  ⟨⟨nm, q, bs, sn, sub, ab, col, dd, k0, k1, k2, k3, k5, o⟩, ⟨oc, od, es, n, sl, ln, ha⟩, i, sa, ga, gh, eq_of_beq fn, ⟨_, lf, hfc⟩, kp, fs⟩
theorem xno_place {N : Addr} (e : nsIn K N "place" = some none) : XNo K N "place" := ⟨e, by rw [typeLookup_type, builtinLookup_eq_fast]; kernel_rfl⟩
end
theorem fin_mk {P : Program} {w : World} {K : PySem.W.Frag} {h : Heap} {mg : Str → Option Value} {kk : Nat} {sp : Sp} {fa : Addr} {x : Str} {st : Stmt} {ps : List Str} {f : Addr} {oc : Value} {od an : Option Addr} {osl : Array (Option Value)} {kV doc pm cdv ct : Value} (X : K.In h) (G : h.Ns mainGlobals mg) (hmg : mg x = some (.ref fa))
    (H : ∀ (base : Heap) (f : Addr) (fd : FuncData), Fun K x x st f fd → FnOk P w K mg base CX0 kk f fd ps sp)
    (b : ∀ (kV doc pm : Value) (an : Option Addr) (cdv ct : Value) (us : List Value), us.length = ps.length → bindArgs (fnOf x x (defArgs st) (defBody st) (defScope st) .none kV doc pm an cdv ct) ⟨us, []⟩ = pure (ps.zip us))
    (a1 : nsIn K mainGlobals x = some (some (.ref f))) (l : K.lookup f = some ⟨oc, od, .func (fnOf x x (defArgs st) (defBody st) (defScope st) .none kV doc pm an cdv ct), osl⟩) (c : codeIn K cdv x = true) (k : keepIn K (.ref f) = true) :
    ∃ fd : FuncData, (∀ (s : Shared) (us : List Value), us.length = ps.length → BindsTo s fd ⟨us, []⟩ (ps.zip us)) ∧ ∀ base : Heap, K.In base → base.Ns mainGlobals mg → FnOk P w K mg base CX0 kk fa fd ps sp := by
  have e := hmg.symm.trans (mg_of X G a1)
  cases e
  exact ⟨_, fun s us hu => .of_eq (b _ _ _ _ _ _ us hu), fun base _ _ => H base _ _ (fun_mk l c k)⟩
theorem fz_of {K : PySem.W.Frag} {H : Hp} {b : Addr} {xs : List V} (hO : OnlyF H) (h : SqL K H b xs) : Fz K H b xs := by
  rcases h with (h | ⟨o, h⟩) | h
  · rcases hO b with z | ⟨o, u, z⟩
    · rw [h] at z; cases z
    · rw [h] at z; cases z
  · exact .inl ⟨o, h⟩
  · exact .inr (.inr h)
theorem ints_nats : ∀ ns : List Int, (∀ n ∈ ns, 0 ≤ n) → ns.map V.int = (ns.map Int.toNat).map cV
  | [], _ => rfl
  | n :: r, h => by
    rw [List.map_cons, List.map_cons, List.map_cons, ints_nats r fun m hm => h m (List.mem_cons_of_mem _ hm)]
    congr 1
    show V.int n = V.int ((n.toNat : Nat) : Int)
    rw [Int.toNat_of_nonneg (h n (List.mem_cons_self ..))]
structure Cl (K : PySem.W.Frag) (mg : Str → Option Value) (a : Adr) : Prop where
  clR : Cls K a.CR
  nRt : NoAttr K a.CR "text"
  nRp : NoAttr K a.CR "place"
  clG : Cls K a.CG
  nGs : NoAttr K a.CG "signature"
  nGz : NoAttr K a.CG "size"
  nGt : NoAttr K a.CG "states"
  nGg : NoAttr K a.CG "gaps"
  clB : Cls K a.CB
  nBg : NoAttr K a.CB "gatherings"
  nBr : NoAttr K a.CB "refusal"
  nBp : NoAttr K a.CB "place"
  xF : XCls K a.CF a.NF a.fF
  xFp : XNo K a.NF "place"
  mF : mg "Fault" = some (.ref a.CF)
  dg : mg "DIGITS" = some (.ref a.dg)
  dgS : ∀ H, SqT K H a.dg (digitsL.map cV)
  rd : mg "RAISED_DIGITS" = some (.ref a.rd)
  rdS : ∀ H, SqT K H a.rd (raisedL.map cV)
  rs : mg "ROW_SIGNS" = some (.ref a.rs)
  rsS : ∀ H, SqT K H a.rs (rowL.map cV)
  os : mg "OTHER_SIGNATURE_SIGNS" = some (.ref a.os)
  osS : ∀ H, SqT K H a.os (otherL.map cV)
  ginit : Di K mg a.CG "Gathering" "Gathering.__init__" s_Gathering_init ["self", "signature", "size"]
  finit : Dx K a.fF "Fault.__init__" s_Fault_init ["self", "place"]
  rinit : Di K mg a.CR "Reader" "Reader.__init__" s_Reader_init ["self", "text"]
  peek : Dm K a.CR "peek" "Reader.peek" s_Reader_peek ["self"]
  advance : Dm K a.CR "advance" "Reader.advance" s_Reader_advance ["self"]
  expect : Dm K a.CR "expect" "Reader.expect" s_Reader_expect ["self", "character"]
  read_number : Dm K a.CR "read_number" "Reader.read_number" s_Reader_read_number ["self", "digits"]
  binit : Di K mg a.CB "Book" "Book.__init__" s_Book_init ["self", "gatherings", "refusal", "place"]
theorem cl_mk {K : PySem.W.Frag} {h : Heap} {mg : Str → Option Value} {CR CG CB CF NF fF dg rd rs os : Addr} {nm q : Str} {bs : List Value} {sn : List Str} {sub : List Value} {ab : Bool} {col : Option Bool} {dd : Option Addr} {k0 k1 k2 k3 k5 : Option Value} (X : K.In h) (G : h.Ns mainGlobals mg)
    (aR : nsIn K mainGlobals "Reader" = some (some (.ref CR))) (aG : nsIn K mainGlobals "Gathering" = some (some (.ref CG))) (aB : nsIn K mainGlobals "Book" = some (some (.ref CB))) (aF : nsIn K mainGlobals "Fault" = some (some (.ref CF)))
    (oF : K.lookup CF = some (excClassObj nm q CF NF bs excMro true sn sub ab col dd k0 k1 k2 k3 k5 "Exception.__new__")) (iF : nsIn K NF "__init__" = some (some (.ref fF)))
    (adg : nsIn K mainGlobals "DIGITS" = some (some (.ref dg))) (ard : nsIn K mainGlobals "RAISED_DIGITS" = some (some (.ref rd))) (ars : nsIn K mainGlobals "ROW_SIGNS" = some (some (.ref rs))) (aos : nsIn K mainGlobals "OTHER_SIGNATURE_SIGNS" = some (some (.ref os)))
    (clR : Cls K CR) (nRt : NoAttr K CR "text") (nRp : NoAttr K CR "place") (clG : Cls K CG) (nGs : NoAttr K CG "signature") (nGz : NoAttr K CG "size") (nGt : NoAttr K CG "states") (nGg : NoAttr K CG "gaps") (clB : Cls K CB) (nBg : NoAttr K CB "gatherings") (nBr : NoAttr K CB "refusal") (nBp : NoAttr K CB "place")
    (xF : XCls K CF NF fF) (xFp : XNo K NF "place") (sdg : ∀ H, SqT K H dg (digitsL.map cV)) (srd : ∀ H, SqT K H rd (raisedL.map cV)) (srs : ∀ H, SqT K H rs (rowL.map cV)) (sos : ∀ H, SqT K H os (otherL.map cV))
    (ginit : Di K mg CG "Gathering" "Gathering.__init__" s_Gathering_init ["self", "signature", "size"]) (finit : Dx K fF "Fault.__init__" s_Fault_init ["self", "place"]) (rinit : Di K mg CR "Reader" "Reader.__init__" s_Reader_init ["self", "text"])
    (peek : Dm K CR "peek" "Reader.peek" s_Reader_peek ["self"]) (advance : Dm K CR "advance" "Reader.advance" s_Reader_advance ["self"]) (expect : Dm K CR "expect" "Reader.expect" s_Reader_expect ["self", "character"])
    (read_number : Dm K CR "read_number" "Reader.read_number" s_Reader_read_number ["self", "digits"]) (binit : Di K mg CB "Book" "Book.__init__" s_Book_init ["self", "gatherings", "refusal", "place"]) : ∃ a, Cl K mg a :=
  ⟨⟨CR, CG, CB, CF, NF, fF, dg, rd, rs, os⟩, clR, nRt, nRp, clG, nGs, nGz, nGt, nGg, clB, nBg, nBr, nBp, xF, xFp, mg_of X G aF, mg_of X G adg, sdg, mg_of X G ard, srd, mg_of X G ars, srs, mg_of X G aos, sos, ginit, finit, rinit, peek, advance, expect, read_number, binit⟩
structure Rdg (K : PySem.W.Frag) (mg : Str → Option Value) (a : Adr) : Prop where
  may_be_partners : Df K mg "may_be_partners" s_may_be_partners ["before", "behind"]
  is_gathering : Df K mg "is_gathering" s_is_gathering ["row"]
  is_leaf : Df K mg "is_leaf" s_is_leaf ["sign"]
  count_leaves : Df K mg "count_leaves" s_count_leaves ["row"]
  leaves_alone : Df K mg "leaves_alone" s_leaves_alone ["count"]
  is_counted : Df K mg "is_counted" s_is_counted ["row"]
  ginit : Di K mg a.CG "Gathering" "Gathering.__init__" s_Gathering_init ["self", "signature", "size"]
  signature_behind : Df K mg "signature_behind" s_signature_behind ["signature"]
  is_size : Df K mg "is_size" s_is_size ["number"]
  has_notes : Df K mg "has_notes" s_has_notes ["gathering"]
  are_one_item : Df K mg "are_one_item" s_are_one_item ["before", "behind"]
  partner_of : Df K mg "partner_of" s_partner_of ["gathering", "k"]
  partner_state : Df K mg "partner_state" s_partner_state ["gathering", "k"]
  may_be_cut : Df K mg "may_be_cut" s_may_be_cut ["gathering", "k"]
  leaf_row : Df K mg "leaf_row" s_leaf_row ["gathering", "k"]
  word_of : Df K mg "word_of" s_word_of ["gathering"]
  position : Df K mg "position" s_position ["characters", "character"]
  signature_sign : Df K mg "signature_sign" s_signature_sign ["character"]
  row_sign : Df K mg "row_sign" s_row_sign ["character"]
  finit : Dx K a.fF "Fault.__init__" s_Fault_init ["self", "place"]
  check : Df K mg "check" s_check ["right", "place"]
  rinit : Di K mg a.CR "Reader" "Reader.__init__" s_Reader_init ["self", "text"]
  peek : Dm K a.CR "peek" "Reader.peek" s_Reader_peek ["self"]
  advance : Dm K a.CR "advance" "Reader.advance" s_Reader_advance ["self"]
  expect : Dm K a.CR "expect" "Reader.expect" s_Reader_expect ["self", "character"]
  read_number : Dm K a.CR "read_number" "Reader.read_number" s_Reader_read_number ["self", "digits"]
  read_notes : Df K mg "read_notes" s_read_notes ["reader", "gathering"]
  read_note : Df K mg "read_note" s_read_note ["reader", "gathering", "rank_before"]
  read_leaf_note : Df K mg "read_leaf_note" s_read_leaf_note ["reader", "gathering", "rank_before", "state"]
  may_become : Df K mg "may_become" s_may_become ["gathering", "k", "state"]
  read_gap_note : Df K mg "read_gap_note" s_read_gap_note ["reader", "gathering", "rank_before"]
  read_counted_row : Df K mg "read_counted_row" s_read_counted_row ["reader", "start"]
  read_told_row : Df K mg "read_told_row" s_read_told_row ["reader", "start"]
  read_formula : Df K mg "read_formula" s_read_formula ["text"]
  read_item : Df K mg "read_item" s_read_item ["reader", "before"]
  read_signatures : Df K mg "read_signatures" s_read_signatures ["reader", "taken"]
  signatures_from : Df K mg "signatures_from" s_signatures_from ["first", "last", "taken", "start"]
  is_free : Df K mg "is_free" s_is_free ["signature", "taken"]
  read_signature : Df K mg "read_signature" s_read_signature ["reader"]
  read_size : Df K mg "read_size" s_read_size ["reader"]
  binit : Di K mg a.CB "Book" "Book.__init__" s_Book_init ["self", "gatherings", "refusal", "place"]
  read_book : Df K mg "read_book" s_read_book ["text"]
section
variable {P : Program} {w : World} {K : PySem.W.Frag} {mg : Str → Option Value} {base : Heap} {a : Adr}
theorem book_of (T : Txt K mg a) (d : Rdg K mg a) : Ok P w K mg base CX0 11 "read_book" ["text"] (spBook K a) := by
  have oPos : Ok P w K mg base CX0 1 "position" _ _ := ok_position T d.position
  have oPart : Ok P w K mg base CX0 1 "may_be_partners" _ _ := ok_partners T d.may_be_partners
  have oLeaf : Ok P w K mg base CX0 1 "is_leaf" _ _ := ok_leaf T d.is_leaf
  have oCount : Ok P w K mg base CX0 2 "count_leaves" _ _ := ok_count T oLeaf d.count_leaves
  have oAlone : Ok P w K mg base CX0 1 "leaves_alone" _ _ := ok_alone T d.leaves_alone
  have oCnt : Ok P w K mg base CX0 2 "is_counted" _ _ := ok_counted T oAlone d.is_counted
  have oIsG : Ok P w K mg base CX0 2 "is_gathering" _ _ := ok_isG T oPart d.is_gathering
  have oFault : XOk P w K mg base 1 a.fF _ _ := ok_fault T d.finit
  have oCheck : Ok P w K mg base (CXR P w) 3 "check" _ _ := ok_check T oFault d.check
  have oRI : IOk P w K mg base CX0 1 a.CR "Reader" _ _ := ok_rinit T d.rinit
  have oPeek : MOk P w K mg base CX0 1 a.CR "peek" _ _ := ok_peek T d.peek
  have oAdv : MOk P w K mg base CX0 1 a.CR "advance" _ _ := ok_advance T d.advance
  have oExp : MOk P w K mg base (CXR P w) 4 a.CR "expect" _ _ := ok_expect T oCheck oPeek oAdv d.expect
  have oNum : MOk P w K mg base (CXR P w) 4 a.CR "read_number" _ _ := ok_number T oCheck oPeek oAdv oPos d.read_number
  have oSgn : Ok P w K mg base CX0 2 "signature_sign" _ _ := ok_sgn T oPos d.signature_sign
  have oRow : Ok P w K mg base CX0 2 "row_sign" _ _ := ok_row T oPos d.row_sign
  have oSz : Ok P w K mg base CX0 1 "is_size" _ _ := ok_size T d.is_size
  have oRSz : Ok P w K mg base (CXR P w) 5 "read_size" _ _ := ok_rsize T oCheck oNum oSz d.read_size
  have oRSig : Ok P w K mg base (CXR P w) 5 "read_signature" _ _ := ok_rsig T oCheck oNum oPos oPeek oAdv oSgn d.read_signature
  have oBeh : Ok P w K mg base CX0 1 "signature_behind" _ _ := ok_behind T d.signature_behind
  have oFree : Ok P w K mg base CX0 1 "is_free" _ _ := ok_free T d.is_free
  have oFrom : Ok P w K mg base (CXR P w) 4 "signatures_from" _ _ := ok_from T oCheck oBeh oFree d.signatures_from
  have oSigs : Ok P w K mg base (CXR P w) 6 "read_signatures" _ _ := ok_rsigs T oCheck oRSig oFree oPeek oAdv oFrom d.read_signatures
  have oGI : IOk P w K mg base CX0 1 a.CG "Gathering" _ _ := ok_ginit T d.ginit
  have oPof : Ok P w K mg base CX0 1 "partner_of" _ _ := ok_pof T d.partner_of
  have oPst : Ok P w K mg base CX0 2 "partner_state" _ _ := ok_pstate T oPof d.partner_state
  have oMc : Ok P w K mg base CX0 3 "may_be_cut" _ _ := ok_mcut T oPst d.may_be_cut
  have oLr : Ok P w K mg base CX0 3 "leaf_row" _ _ := ok_lrow T oPst d.leaf_row
  have oWord : Ok P w K mg base CX0 4 "word_of" _ _ := ok_word T oLr d.word_of
  have oHn : Ok P w K mg base CX0 1 "has_notes" _ _ := ok_hnotes T d.has_notes
  have oOne : Ok P w K mg base CX0 2 "are_one_item" _ _ := ok_one T oHn oBeh d.are_one_item
  have oMay : Ok P w K mg base CX0 4 "may_become" _ _ := ok_may T oPst oMc d.may_become
  have oLn : Ok P w K mg base (CXR P w) 5 "read_leaf_note" _ _ := ok_lnote T oCheck oAdv oNum oMay d.read_leaf_note
  have oCr : Ok P w K mg base (CXR P w) 5 "read_counted_row" _ _ := ok_crow T oCheck oNum oAlone d.read_counted_row
  have oTr : Ok P w K mg base (CXR P w) 5 "read_told_row" _ _ := ok_trow T oCheck oExp oPeek oAdv oRow oIsG oCnt d.read_told_row
  have oGn : Ok P w K mg base (CXR P w) 6 "read_gap_note" _ _ := ok_gnote T oCheck oNum oExp oPeek oTr oCr d.read_gap_note
  have oNote : Ok P w K mg base (CXR P w) 7 "read_note" _ _ := ok_note T oPeek oLn oGn d.read_note
  have oNotes : Ok P w K mg base (CXR P w) 8 "read_notes" _ _ := ok_notes T oCheck oExp oPeek oAdv oNote oWord oCount d.read_notes
  have oItem : Ok P w K mg base (CXR P w) 9 "read_item" _ _ := ok_item T oCheck oPeek oSigs oRSz oGI oNotes oOne d.read_item
  have oFm : Ok P w K mg base (CXR P w) 10 "read_formula" _ _ := ok_formula T oRI oItem oPeek oExp d.read_formula
  exact ok_book T (ok_binit T d.binit) oFm d.read_book
theorem leaf_of (T : Txt K mg a) (d : Rdg K mg a) : Ok P w K mg base CX0 1 "is_leaf" ["sign"] spLeaf := ok_leaf T d.is_leaf
theorem count_of (T : Txt K mg a) (d : Rdg K mg a) : Ok P w K mg base CX0 2 "count_leaves" ["row"] (spCount K) := ok_count T (leaf_of T d) d.count_leaves
theorem pstate_of (T : Txt K mg a) (d : Rdg K mg a) : Ok P w K mg base CX0 2 "partner_state" ["gathering", "k"] (spPState a) := ok_pstate T (ok_pof T d.partner_of) d.partner_state
theorem word_of_ (T : Txt K mg a) (d : Rdg K mg a) : Ok P w K mg base CX0 4 "word_of" ["gathering"] (spWord a) := ok_word T (ok_lrow T (pstate_of T d) d.leaf_row) d.word_of
theorem hnotes_of (T : Txt K mg a) (d : Rdg K mg a) : Ok P w K mg base CX0 1 "has_notes" ["gathering"] (spNotes a) := ok_hnotes T d.has_notes
theorem one_of (T : Txt K mg a) (d : Rdg K mg a) : Ok P w K mg base CX0 2 "are_one_item" ["before", "behind"] (spOne a) := ok_one T (hnotes_of T d) (ok_behind T d.signature_behind) d.are_one_item
theorem counted_of (T : Txt K mg a) (d : Rdg K mg a) : Ok P w K mg base CX0 2 "is_counted" ["row"] (spCounted K) := ok_counted T (ok_alone T d.leaves_alone) d.is_counted
theorem mcut_of (T : Txt K mg a) (d : Rdg K mg a) : Ok P w K mg base CX0 3 "may_be_cut" ["gathering", "k"] (spMayCut a) := ok_mcut T (pstate_of T d) d.may_be_cut
end
end Pg
end
section
namespace L2
open PySem PySem.Spec PyProof.Rows
section
variable {X : Cx}
theorem vals_at : ∀ {xs : List V} {us : List Value}, xs.length = us.length → (∀ (j : Nat) (u : Value), us[j]? = some u → ∃ x, xs[j]? = some x ∧ RelV x u) → Vals xs us
  | [], [], _, _ => .nil
  | x :: r, u :: t, hl, h => by
    obtain ⟨y, e, hy⟩ := h 0 u rfl
    have e : x = y := by simpa using e
    subst e
    exact .cons hy (vals_at (by simpa using hl) fun j u hj => by
      obtain ⟨z, hz, hr⟩ := h (j + 1) u (by simpa using hj)
      exact ⟨z, by simpa using hz, hr⟩)
  | [], _ :: _, hl, _ => by cases hl
  | _ :: _, [], hl, _ => by cases hl
def tLR (ta : TA) : TE := fun σ H Q => ta σ H fun vs H1 => ∃ n : Nat, vs = [.int (n : Nat)] ∧ n ≤ 1000000 ∧ ∀ l, H1 l = none → Q (.ref l) (upd H1 l (.lst ((List.range n).map fun (i : Nat) => V.int (i : Nat))))
theorem pe_listRange {a : Expr} {ta : TA} {p p2 pos pos2 : Pos} (hc : X.calm = true) (hgl : Gl X "list") (hml : X.mg "list" = none) (hg : Gl X "range") (hm : X.mg "range" = none) (ha : PA X [a] ta)
    (hs : starEach [a] X.env = [(false, eval a X.env)] := by rfl) (hs2 : starEach [.Call (.Name "range" p2) [a] [] pos2] X.env = [(false, eval (.Call (.Name "range" p2) [a] [] pos2) X.env)] := by rfl) :
    PE X (.Call (.Name "list" p) [.Call (.Name "range" p2) [a] [] pos2] [] pos) (tLR ta) := by
  intro pins s σ H Q I h
  refine wpAny_Call_Name_kw (ld_blt I hgl hml boot_list ?_ (by decide) (by decide))
  refine PyProof.Rows.callWith_type1 ?_ hs2 rfl
  rw [hs2]
  show wpAny _ _ (spliced ((false, eval (.Call (.Name "range" p2) [a] [] pos2) X.env) :: backTo pos [])) _ _ s
  refine Calls.spliced_cons ?_
  refine Call_ (ld_blt I hg hm boot_range (PyProof.Rows.callWith_type1 (thn (ha pos2 pins s σ H _ I h) fun us s1 ⟨vs, H1, I1, r1, q1⟩ => ?_) hs rfl))
  obtain ⟨n, e, hn, q⟩ := q1
  subst e
  cases r1 with
  | cons r rr =>
    cases rr
    obtain ⟨t, rfl⟩ := r
    refine call_range_1 ?_
    refine Calls.spliced_nil ?_
    have I2 : Inv X pins σ H1 { s1 with heap := s1.heap.push { cls := .type "range", data := .fields #[.int 0 s1.toks, .int ((n : Nat) : Int) t, .int 1 (s1.toks + 1)] }, toks := s1.toks + 1 + 1 } := I1.kept fun b o e => Heap.get?_push_of_some _ e
    refine call_list_range (n := n) (I2.ok.hd hc) (IsRange.new ..) (small_one (by omega) (by omega) (by omega) (by omega)) (by rw [rangeSize_one]; split <;> omega) (by omega) fun h' tk acc c' kp hS hacc => ?_
    have hv : Vals ((List.range n).map fun (i : Nat) => V.int (i : Nat)) acc.toList := vals_at (by simp [hacc.1]) fun j u hj => by
      have hj' : acc[j]? = some u := by simpa using hj
      obtain ⟨tk, rfl⟩ := hacc.2 j u hj'
      have hjn : j < n := by
        have := (Array.getElem?_eq_some_iff.mp hj').1
        rw [hacc.1] at this; exact this
      exact ⟨V.int (j : Nat), by rw [List.getElem?_map, List.getElem?_range hjn]; rfl, tk, by simp⟩
    exact ⟨.ref _, _, I2.laid (t' := tk) kp (Nat.le_refl _) (show ObjOk X.prog X.w _ h' _ (.lst ((List.range n).map fun (i : Nat) => V.int (i : Nat))) from ⟨by rw [List.length_map, List.length_range]; exact Nat.le_trans hn (by decide), acc.toList, c', hv, by simpa using hS⟩), rfl, q _ (I2.hok.fresh (Nat.le_refl _))⟩
end
end L2
end
section
namespace L2
open PySem PySem.Spec PyProof.Rows
section
variable {X : Cx}
def rIns0 : V → List V → Hp → VK → Prop := fun x vs H Q => ∃ l xs y, x = .ref l ∧ vs = [.int 0, y] ∧ H l = some (.lst xs) ∧ xs.length < sizeLine ∧ Q .non (upd H l (.lst (y :: xs)))
theorem mt_insert0 : MtM X "list.insert" rIns0 := by
  intro pins s σ H x vs v us Q I rx rv h
  obtain ⟨l, xs, y, rfl, rfl, hH, hz, q⟩ := h
  cases rx
  cases rv with
  | cons r0 rv =>
    cases rv with
    | cons r1 rv =>
      cases rv
      obtain ⟨t, rfl⟩ := r0
      obtain ⟨z, its, n, r, hl, e⟩ := I.lstM hH
      refine call_meets PySem.F.slot_list_insert ⟨_, e, rfl⟩ PySem.F.entry_list_insert (PySem.F.args_list_insert_3 _ _ _) (PySem.AutoSeq1.list_insert_list_int_val_1 l its.toArray n 0 t _ (by decide) (by rw [List.size_toArray]; omega)) ⟨e, ?_⟩
      refine ⟨.non, _, I.lset (its' := _ :: its) hH e ?_ (.cons r1 r) ?_, rfl, q⟩
      · simp
      · rw [List.length_cons]; omega
def tCut (t u : TS) : TS := fun D σ H => ∃ R : St → Hp → Prop, t { D with nx := R } σ H ∧ ∀ σ' H', R σ' H' → u D σ' H'
theorem pss_cut {st : Stmt} {rest : List Stmt} {t u : TS} (h1 : PS X st t) (h2 : PSs X rest u) : PSs X (st :: rest) (tCut t u) := by
  intro pins s σ H D I h
  obtain ⟨R, h, k⟩ := h
  refine wpAny_execs_cons (thn (h1 pins s σ H { D with nx := R } I h) fun f s1 q => ?_)
  cases f with
  | next =>
    obtain ⟨σ', H', I', q⟩ := q
    exact h2 pins s1 σ' H' D I' (k σ' H' q)
  | ret v => exact q
  | brk => exact q
  | cont => exact q
end
end L2
end
section
namespace Pg
theorem digs1 {n : Nat} (h : n < 10) : Quire.digits 20 n = [n] := by rw [Quire.digits, if_pos h]
theorem digs2 {n : Nat} (h : 10 ≤ n) (h2 : n < 100) : Quire.digits 20 n = [n / 10, n % 10] := by
  rw [Quire.digits, if_neg (by omega), Quire.digits, if_pos (by omega)]; rfl
theorem join_snoc (x t : List Nat) : ∀ l : List (List Nat), Quire.joinWith x (l ++ [t]) = if l = [] then t else Quire.joinWith x l ++ (x ++ t)
  | [] => rfl
  | [u] => rfl
  | u :: v :: r => by
    have ih := join_snoc x t (v :: r)
    rw [if_neg (by simp)] at ih ⊢
    show u ++ (x ++ Quire.joinWith x (v :: r ++ [t])) = (u ++ (x ++ Quire.joinWith x (v :: r))) ++ (x ++ t)
    rw [ih]; simp only [List.append_assoc]
theorem join_take {x : List Nat} {l : List (List Nat)} {k : Nat} {t : List Nat} (h : l[k]? = some t) : Quire.joinWith x (l.take (k + 1)) = (if 0 < k then Quire.joinWith x (l.take k) ++ x else Quire.joinWith x (l.take k)) ++ t := by
  rw [List.take_succ, h]
  show Quire.joinWith x (l.take k ++ [t]) = _
  rw [join_snoc]
  have hk : k < l.length := (List.getElem?_eq_some_iff.mp h).1
  by_cases h0 : 0 < k
  · rw [if_neg (by intro z; have := congrArg List.length z; rw [List.length_take, List.length_nil] at this; omega), if_pos h0]; simp only [List.append_assoc]
  · have : k = 0 := by omega
    subst this
    rfl
theorem join_len (x : List Nat) (c : Nat) : ∀ l : List (List Nat), (∀ t ∈ l, t.length + x.length ≤ c) → (Quire.joinWith x l).length ≤ l.length * c
  | [], _ => by simp [Quire.joinWith]
  | [t], h => by
    have := h t (List.mem_cons_self ..)
    show t.length ≤ _
    simp only [List.length_singleton]; omega
  | t :: u :: r, h => by
    have h1 := h t (List.mem_cons_self ..)
    have ih := join_len x c (u :: r) fun y hy => h y (List.mem_cons_of_mem _ hy)
    show (t ++ (x ++ Quire.joinWith x (u :: r))).length ≤ _
    rw [List.length_append, List.length_append, List.length_cons (a := t), Nat.add_mul]
    omega
def runN : Quire.Gath → Quire.Make → Nat
  | _, [] => 0
  | g, h :: r => if Quire.follows g h = true then runN h r + 1 else 0
theorem runN_le : ∀ (g : Quire.Gath) (r : Quire.Make), runN g r ≤ r.length
  | _, [] => Nat.le_refl _
  | g, h :: r => by
    unfold runN
    have := runN_le h r
    split
    · rw [List.length_cons]; omega
    · omega
theorem items_run : ∀ (r : Quire.Make) (g : Quire.Gath), Quire.items (g :: r) = (g :: r.take (runN g r)) :: Quire.items (r.drop (runN g r))
  | [], g => rfl
  | h :: r, g => by
    have ih := items_run r h
    rw [Quire.items, ih]
    dsimp only
    by_cases e : Quire.follows g h = true
    · have e2 : runN g (h :: r) = runN h r + 1 := by rw [runN, if_pos e]
      rw [if_pos e, e2, List.take_succ_cons, List.drop_succ_cons]
    · have e2 : runN g (h :: r) = 0 := by rw [runN, if_neg e]
      rw [if_neg e, e2, List.take_zero, List.drop_zero, ih]
def leafNotes (g : Quire.Gath) : Nat → List (List Nat)
  | 0 => []
  | k + 1 => g.leafNote k
def notesN (g : Quire.Gath) : Nat → List (List Nat)
  | 0 => []
  | k + 1 => notesN g k ++ (leafNotes g k ++ g.gapNote k)
theorem notesN_eq (g : Quire.Gath) : ∀ n, notesN g (n + 1) = g.gapNote 0 ++ (List.range n).flatMap fun k => g.leafNote k ++ g.gapNote (k + 1)
  | 0 => by simp [notesN, leafNotes]
  | n + 1 => by
    rw [notesN, notesN_eq g n, List.range_succ, List.flatMap_append, List.append_assoc]
    simp [leafNotes]
theorem notes_eq (g : Quire.Gath) : g.notes = notesN g (g.size + 1) := (notesN_eq g g.size).symm
theorem notes_plain {g : Quire.Gath} (nf : g.fates.length = g.size) (np : g.puts.length = g.size + 1) : g.notes.isEmpty = g.plain := by
  rw [Bool.eq_iff_iff]
  have h1 : g.notes.isEmpty = true ↔ (g.put 0).isEmpty = true ∧ ∀ k, k < g.size → g.fate k = .kept ∧ (g.put (k + 1)).isEmpty = true := by
    unfold Quire.Gath.notes
    rw [List.isEmpty_iff, List.append_eq_nil_iff, List.flatMap_eq_nil_iff]
    have gp : ∀ k, g.gapNote k = [] ↔ (g.put k).isEmpty = true := fun k => by
      unfold Quire.Gath.gapNote; split
      · rename_i e; exact ⟨fun _ => e, fun _ => rfl⟩
      · rename_i e; exact ⟨fun z => (by cases z), fun z => absurd z e⟩
    have lf : ∀ k, g.leafNote k = [] ↔ g.fate k = .kept := fun k => by
      unfold Quire.Gath.leafNote; cases g.fate k <;> simp
    rw [gp]
    refine and_congr_right fun _ => ⟨fun h k hk => ?_, fun h k hk => ?_⟩
    · have := h k (by simpa using hk)
      rw [List.append_eq_nil_iff, lf, gp] at this
      exact this
    · rw [List.append_eq_nil_iff, lf, gp]; exact h k (by simpa using hk)
  rw [h1]
  unfold Quire.Gath.plain
  rw [Bool.and_eq_true, List.all_eq_true, List.all_eq_true]
  have gk : ∀ k, k < g.size → g.fates[k]? = some (g.fate k) := fun k hk => by
    unfold Quire.Gath.fate
    rw [List.getD_eq_getElem?_getD, List.getElem?_eq_getElem (by omega)]; rfl
  have gq : ∀ k, k < g.size + 1 → g.puts[k]? = some (g.put k) := fun k hk => by
    unfold Quire.Gath.put
    rw [List.getD_eq_getElem?_getD, List.getElem?_eq_getElem (by omega)]; rfl
  constructor
  · rintro ⟨h0, hk⟩
    refine ⟨fun f hf => ?_, fun w hw => ?_⟩
    · obtain ⟨i, hi, e⟩ := List.getElem_of_mem hf
      have := gk i (by omega)
      rw [List.getElem?_eq_getElem hi, e] at this
      rw [Option.some.inj this, (hk i (by omega)).1]; rfl
    · obtain ⟨i, hi, e⟩ := List.getElem_of_mem hw
      have := gq i (by omega)
      rw [List.getElem?_eq_getElem hi, e] at this
      rw [Option.some.inj this]
      cases i with
      | zero => exact h0
      | succ i => exact (hk i (by omega)).2
  · rintro ⟨hf, hw⟩
    refine ⟨hw _ (List.mem_of_getElem? (gq 0 (by omega))), fun k hk => ⟨?_, hw _ (List.mem_of_getElem? (gq (k + 1) (by omega)))⟩⟩
    exact eq_of_beq (hf _ (List.mem_of_getElem? (gk k hk)))
end Pg
end
section
namespace Pg
theorem scan_app : ∀ (u v : Quire.Word) (a st : List Quire.Sign), Quire.scan a u = true → Quire.scan (a ++ st) (u ++ v) = Quire.scan st v
  | [], v, a, st, h => by
    have : a = [] := by unfold Quire.scan at h; exact List.isEmpty_iff.mp h
    subst this; rfl
  | s :: r, v, a, st, h => by
    rw [List.cons_append, Quire.scan.eq_def]
    rw [Quire.scan.eq_def] at h
    dsimp only at h ⊢
    by_cases h1 : s = .alone
    · rw [if_pos h1] at h ⊢; exact scan_app r v a st h
    · rw [if_neg h1] at h ⊢
      by_cases h2 : s.ahead = true
      · rw [if_pos h2] at h ⊢; exact scan_app r v (s :: a) st h
      · rw [if_neg h2] at h ⊢
        cases a with
        | nil => cases h
        | cons o t =>
          dsimp only [List.cons_append] at h ⊢
          rw [Bool.and_eq_true] at h
          rw [h.1, Bool.true_and]; exact scan_app r v t st h.2
theorem scan_paired {u : Quire.Word} (h : Quire.paired u = true) (st : List Quire.Sign) (v : Quire.Word) : Quire.scan st (u ++ v) = Quire.scan st v := scan_app u v [] st h
theorem scan_alone (st : List Quire.Sign) (v : Quire.Word) : Quire.scan st (.alone :: v) = Quire.scan st v := by
  rw [Quire.scan.eq_def]; dsimp only; rw [if_pos rfl]
theorem scan_ahead {s : Quire.Sign} (h : s.ahead = true) (st : List Quire.Sign) (v : Quire.Word) : Quire.scan st (s :: v) = Quire.scan (s :: st) v := by
  rw [Quire.scan.eq_def]; dsimp only; rw [if_neg (by rintro rfl; cases h), if_pos h]
theorem back_facts {s : Quire.Sign} (h : s.back = true) : s ≠ .alone ∧ s.ahead = false := by
  revert h; cases s <;> decide
theorem scan_back {s : Quire.Sign} (h : s.back = true) (st : List Quire.Sign) (v : Quire.Word) : Quire.scan st (s :: v) = match st with
    | [] => false
    | o :: t => !(o == .stubOpens && s == .stubCloses) && Quire.scan t v := by
  obtain ⟨h1, h2⟩ := back_facts h
  rw [Quire.scan.eq_def]; dsimp only
  rw [if_neg h1, if_neg (by rw [h2]; simp)]
  cases st <;> rfl
theorem paired_app {u v : Quire.Word} (hu : Quire.paired u = true) (hv : Quire.paired v = true) : Quire.paired (u ++ v) = true := by
  unfold Quire.paired; rw [scan_paired hu]; exact hv
theorem paired_wrap {o c : Quire.Sign} {v : Quire.Word} (ho : o.ahead = true) (hc : c.back = true) (hoc : (o == .stubOpens && c == .stubCloses) = false) (hv : Quire.paired v = true) : Quire.paired (o :: (v ++ [c])) = true := by
  unfold Quire.paired
  rw [scan_ahead ho, scan_paired hv, scan_back hc]
  dsimp only
  rw [hoc]; rfl
theorem scan_open : ∀ (u : Quire.Word) (st : List Quire.Sign) {o : Quire.Sign} {v : Quire.Word}, o.ahead = true → Quire.paired v = true → Quire.scan st (u ++ o :: v) = false
  | [], st, o, v, ho, hv => by
    have e := scan_paired hv (o :: st) []
    rw [List.append_nil] at e
    rw [List.nil_append, scan_ahead ho, e]; rfl
  | s :: r, st, o, v, ho, hv => by
    rw [List.cons_append, Quire.scan.eq_def]
    dsimp only
    by_cases h1 : s = .alone
    · rw [if_pos h1]; exact scan_open r st ho hv
    · rw [if_neg h1]
      by_cases h2 : s.ahead = true
      · rw [if_pos h2]; exact scan_open r _ ho hv
      · rw [if_neg h2]
        cases st with
        | nil => rfl
        | cons x t => dsimp only; rw [scan_open r t ho hv, Bool.and_false]
theorem part_succ {w : Quire.Word} {p i : Nat} {s : Quire.Sign} (h : p ≤ i) (hs : w[i]? = some s) : Quire.part w p (i + 1) = Quire.part w p i ++ [s] := by
  unfold Quire.part
  rw [show i + 1 - p = (i - p) + 1 by omega, List.take_succ, List.getElem?_drop, show p + (i - p) = i by omega, hs]
  rfl
theorem part_split {w : Quire.Word} {p b q : Nat} {s : Quire.Sign} (h : p ≤ b) (h2 : b < q) (hs : w[b]? = some s) : Quire.part w p q = Quire.part w p b ++ s :: Quire.part w (b + 1) q := by
  unfold Quire.part
  have hb : b < w.length := (List.getElem?_eq_some_iff.mp hs).1
  rw [show q - p = (b - p) + (q - b) by omega, List.take_add, List.drop_drop, show p + (b - p) = b by omega, List.drop_eq_getElem_cons hb, show q - b = (q - (b + 1)) + 1 by omega, List.take_succ_cons]
  rw [List.getElem?_eq_getElem hb] at hs
  rw [Option.some.inj hs]
theorem mate_pair {w : Quire.Word} {b i : Nat} {o c : Quire.Sign} (hbi : b < i) (hb : w[b]? = some o) (hi : w[i]? = some c) (ho : o.ahead = true) (hc : c.back = true) (hp : Quire.paired (Quire.part w (b + 1) i) = true) : Quire.mate w b = some i ∧ Quire.mate w i = some b := by
  have hil : i < w.length := (List.getElem?_eq_some_iff.mp hi).1
  obtain ⟨hc1, hc2⟩ := back_facts hc
  constructor
  · unfold Quire.mate
    rw [hb]
    dsimp only [Option.bind_some]
    rw [if_neg (by rintro rfl; cases ho), List.find?_range_eq_some]
    refine ⟨?_, by simp [hil], fun j hj => ?_⟩
    · rw [hi]; dsimp only; rw [if_pos ho, hc, hp]; simp [hbi]
    · cases hwj : w[j]? with
      | none => rfl
      | some t =>
        dsimp only
        rw [if_pos ho]
        by_cases h1 : b < j
        · cases ht : t.back with
          | false => simp
          | true =>
            cases hq : Quire.paired (Quire.part w (b + 1) j) with
            | false => simp
            | true =>
              exfalso
              rw [part_split (b := j) (by omega) hj hwj] at hp
              unfold Quire.paired at hp
              rw [scan_paired hq, scan_back ht] at hp
              cases hp
        · simp [h1]
  · unfold Quire.mate
    rw [hi]
    dsimp only [Option.bind_some]
    rw [if_neg hc1, List.find?_range_eq_some]
    refine ⟨?_, by simp; omega, fun j hj => ?_⟩
    · rw [hb]; dsimp only; rw [if_neg (by rw [hc2]; simp), ho, hp]; simp [hbi]
    · cases hwj : w[j]? with
      | none => rfl
      | some t =>
        dsimp only
        rw [if_neg (by rw [hc2]; simp)]
        have : Quire.paired (Quire.part w (j + 1) i) = false := by
          rw [part_split (b := b) (by omega) hbi hb]
          exact scan_open _ _ ho hp
        rw [this]; simp
theorem mate_alone {w : Quire.Word} {p : Nat} (h : w[p]? = some .alone) : Quire.mate w p = some p := by
  unfold Quire.mate; rw [h]; rfl
theorem mate_lt {w : Quire.Word} {p q : Nat} (h : Quire.mate w p = some q) : q < w.length := by
  unfold Quire.mate at h
  cases hp : w[p]? with
  | none => rw [hp] at h; cases h
  | some s =>
    rw [hp] at h
    dsimp only [Option.bind_some] at h
    split at h
    · have := Option.some.inj h; rw [← this]; exact (List.getElem?_eq_some_iff.mp hp).1
    · have := List.mem_of_find?_eq_some h; simpa using this
def Stk (w : Quire.Word) : Nat → List Nat → Prop
  | _, [] => True
  | i, b :: r => b < i ∧ (∃ o, w[b]? = some o ∧ o.ahead = true) ∧ Quire.paired (Quire.part w (b + 1) i) = true ∧ Stk w b r
structure PrI (w : Quire.Word) (i : Nat) (P W : List Nat) : Prop where
  len : P.length = w.length
  stk : Stk w i W
  sc : ∃ st, W.map (fun b => w[b]?) = st.map some ∧ Quire.scan st (w.drop i) = true
  done : ∀ p, p < i → p ∉ W → ∃ q, P[p]? = some q ∧ Quire.mate w p = some q
  rest : ∀ p, i ≤ p → p < w.length → P[p]? = some p
theorem PrI.zero {w : Quire.Word} (h : Quire.paired w = true) : PrI w 0 (List.range w.length) [] :=
  ⟨by simp, trivial, ⟨[], rfl, h⟩, fun p hp => absurd hp (by omega), fun p _ hp => by rw [List.getElem?_range hp]⟩
theorem drop_at {w : Quire.Word} {i : Nat} {s : Quire.Sign} (h : w[i]? = some s) : w.drop i = s :: w.drop (i + 1) := by
  have hb : i < w.length := (List.getElem?_eq_some_iff.mp h).1
  rw [List.drop_eq_getElem_cons hb]
  rw [List.getElem?_eq_getElem hb] at h
  rw [Option.some.inj h]
theorem Stk.alone {w : Quire.Word} {i : Nat} {W : List Nat} (h : w[i]? = some .alone) (hs : Stk w i W) : Stk w (i + 1) W := by
  cases W with
  | nil => trivial
  | cons b r =>
    obtain ⟨h1, h2, h3, h4⟩ := hs
    refine ⟨by omega, h2, ?_, h4⟩
    rw [part_succ (by omega) h]
    exact paired_app h3 (by decide)
theorem PrI.alone {w : Quire.Word} {i : Nat} {P W : List Nat} (I : PrI w i P W) (h : w[i]? = some .alone) : PrI w (i + 1) P W := by
  obtain ⟨st, e, hs⟩ := I.sc
  have hil : i < w.length := (List.getElem?_eq_some_iff.mp h).1
  refine ⟨I.len, I.stk.alone h, ⟨st, e, by rw [drop_at h, scan_alone] at hs; exact hs⟩, fun p hp hW => ?_, fun p hp hl => I.rest p (by omega) hl⟩
  by_cases hpi : p = i
  · subst hpi
    exact ⟨p, I.rest p (Nat.le_refl _) hil, mate_alone h⟩
  · exact I.done p (by omega) hW
theorem PrI.ahead {w : Quire.Word} {i : Nat} {P W : List Nat} {s : Quire.Sign} (I : PrI w i P W) (h : w[i]? = some s) (ha : s.ahead = true) : PrI w (i + 1) P (i :: W) := by
  obtain ⟨st, e, hs⟩ := I.sc
  refine ⟨I.len, ⟨by omega, ⟨s, h, ha⟩, ?_, I.stk⟩, ⟨s :: st, by rw [List.map_cons, List.map_cons, e, h], by rw [drop_at h, scan_ahead ha] at hs; exact hs⟩, fun p hp hW => ?_, fun p hp hl => I.rest p (by omega) hl⟩
  · unfold Quire.part
    rw [Nat.sub_self]; rfl
  · have hpi : p ≠ i := fun e => hW (by rw [e]; exact List.mem_cons_self ..)
    exact I.done p (by omega) fun z => hW (List.mem_cons_of_mem _ z)
theorem PrI.back {w : Quire.Word} {i : Nat} {P W : List Nat} {s : Quire.Sign} (I : PrI w i P W) (h : w[i]? = some s) (hb : s.back = true) : ∃ b W', W = b :: W' ∧ b < i ∧ PrI w (i + 1) ((P.set b i).set i b) W' := by
  obtain ⟨st, e, hs⟩ := I.sc
  have hil : i < w.length := (List.getElem?_eq_some_iff.mp h).1
  rw [drop_at h, scan_back hb] at hs
  cases st with
  | nil => cases hs
  | cons o t =>
    dsimp only at hs
    rw [Bool.and_eq_true] at hs
    cases W with
    | nil => cases e
    | cons b W' =>
      rw [List.map_cons, List.map_cons] at e
      injection e with e1 e2
      have hst := I.stk
      obtain ⟨h1, ⟨o', ho1, ho⟩, h3, h4⟩ := I.stk
      have eo : o' = o := by rw [ho1] at e1; exact Option.some.inj e1
      subst eo
      obtain ⟨m1, m2⟩ := mate_pair h1 ho1 h ho hb h3
      have hoc : (o' == .stubOpens && s == .stubCloses) = false := by
        have := hs.1; cases z : (o' == .stubOpens && s == .stubCloses) with
        | false => rfl
        | true => rw [z] at this; cases this
      refine ⟨b, W', rfl, h1, by rw [List.length_set, List.length_set]; exact I.len, ?_, ⟨t, e2, hs.2⟩, fun p hp hW => ?_, fun p hp hl => ?_⟩
      · cases W' with
        | nil => trivial
        | cons b2 r =>
          obtain ⟨k1, k2, k3, k4⟩ := h4
          refine ⟨by omega, k2, ?_, k4⟩
          rw [part_split (b := b) (by omega) (by omega) ho1, part_succ (by omega) h]
          exact paired_app k3 (paired_wrap ho hb hoc h3)
      · by_cases hpi : p = i
        · subst hpi
          exact ⟨b, by rw [List.getElem?_set_self (by rw [List.length_set, I.len]; exact hil)], m2⟩
        · by_cases hpb : p = b
          · subst hpb
            exact ⟨i, by rw [List.getElem?_set_ne (by omega), List.getElem?_set_self (by rw [I.len]; omega)], m1⟩
          · obtain ⟨q, hq, hm⟩ := I.done p (by omega) (fun z => by
              rcases List.mem_cons.mp z with z | z
              · exact hpb z
              · exact hW z)
            exact ⟨q, by rw [List.getElem?_set_ne (by omega), List.getElem?_set_ne (by omega)]; exact hq, hm⟩
      · rw [List.getElem?_set_ne (by omega), List.getElem?_set_ne (by omega)]
        exact I.rest p (by omega) hl
theorem PrI.fin {w : Quire.Word} {P W : List Nat} (I : PrI w w.length P W) : ∀ p, p < w.length → ∃ q, P[p]? = some q ∧ Quire.mate w p = some q := by
  obtain ⟨st, e, hs⟩ := I.sc
  rw [List.drop_length] at hs
  have : st = [] := by unfold Quire.scan at hs; exact List.isEmpty_iff.mp hs
  subst this
  have hW : W = [] := by cases W with
    | nil => rfl
    | cons => cases e
  subst hW
  exact fun p hp => I.done p hp (by simp)
theorem isLeaf_of {w : Quire.Word} {p : Nat} {s : Quire.Sign} (h : w[p]? = some s) : Quire.isLeaf w p = s.leaf := by unfold Quire.isLeaf; rw [h]
def lpN (w : Quire.Word) (i : Nat) : List Nat := (List.range i).filter fun p => Quire.isLeaf w p
theorem leafPlaces_eq (w : Quire.Word) : Quire.leafPlaces w = lpN w w.length := rfl
theorem lpN_succ (w : Quire.Word) (i : Nat) : lpN w (i + 1) = lpN w i ++ (if Quire.isLeaf w i = true then [i] else []) := by
  unfold lpN
  rw [List.range_succ, List.filter_append]
  congr 1
  cases h : Quire.isLeaf w i <;> simp [h]
theorem lpN_len : ∀ (w : Quire.Word) (i : Nat), i ≤ w.length → (lpN w i).length = QuireB.leavesIn (w.take i)
  | w, 0, _ => by simp [lpN, QuireB.leavesIn]
  | w, i + 1, h => by
    have hi : i < w.length := by omega
    have hg : w[i]? = some w[i] := List.getElem?_eq_getElem hi
    rw [lpN_succ, List.length_append, lpN_len w i (by omega), List.take_succ, hg, isLeaf_of hg]
    unfold QuireB.leavesIn
    rw [List.filter_append, List.length_append]
    congr 1
    cases hl : w[i].leaf <;> simp [hl]
theorem lpN_lt {w : Quire.Word} {i p : Nat} (h : p ∈ lpN w i) : p < i ∧ Quire.isLeaf w p = true := by
  unfold lpN at h
  rw [List.mem_filter] at h
  exact ⟨by simpa using h.1, h.2⟩
theorem lp_len (w : Quire.Word) : (Quire.leafPlaces w).length = QuireB.leavesIn w := by
  rw [leafPlaces_eq, lpN_len w _ (Nat.le_refl _), List.take_length]
def lvs (i : Nat) : Quire.Make → List (Nat × Nat × Nat)
  | [] => []
  | g :: r => ((List.range (Quire.leafPlaces g.word).length).map fun j => (i, j, (Quire.leafPlaces g.word).getD j 0)) ++ lvs (i + 1) r
theorem lvs_eq : ∀ (m r : Quire.Make) , ((List.range r.length).flatMap fun i => match (m ++ r)[m.length + i]? with
    | none => []
    | some g => (List.range (Quire.leafPlaces g.word).length).map fun j => (m.length + i, j, (Quire.leafPlaces g.word).getD j 0)) = lvs m.length r
  | m, [] => rfl
  | m, g :: r => by
    have ih := lvs_eq (m ++ [g]) r
    rw [List.length_cons, List.range_succ_eq_map, List.flatMap_cons, List.flatMap_map]
    rw [List.length_append, List.length_singleton] at ih
    unfold lvs
    rw [← ih]
    congr 1
    · rw [Nat.add_zero, List.getElem?_append_right (Nat.le_refl _), Nat.sub_self]; rfl
    · congr 1
      funext i
      rw [List.append_assoc, List.singleton_append, show m.length + 1 + i = m.length + (i + 1) by omega]
theorem leavesOf_eq (m : Quire.Make) : Quire.leavesOf m = lvs 0 m := by
  have := lvs_eq [] m
  simp only [List.length_nil, List.nil_append, Nat.zero_add] at this
  rw [← this]; rfl
end Pg
end
section
namespace Pg
def keepN (v : Quire.Word) (gone : List Nat) : Nat → Quire.Word
  | 0 => []
  | i + 1 => keepN v gone i ++ (if i ∈ gone then [] else (v[i]?).toList)
theorem snoc_erase {α : Type} (xs : List α) (y : α) (p : Nat) : (xs ++ [y]).eraseIdx p = if p = xs.length then xs else xs.eraseIdx p ++ [y] := by
  by_cases h : p < xs.length
  · rw [if_neg (by omega), List.eraseIdx_append_of_lt_length h]
  · by_cases e : p = xs.length
    · rw [if_pos e, List.eraseIdx_append_of_length_le (by omega), e, Nat.sub_self]; simp
    · rw [if_neg e, List.eraseIdx_of_length_le (by simp; omega), List.eraseIdx_of_length_le (by omega)]
theorem keepN_one (v : Quire.Word) (p : Nat) : ∀ i, i ≤ v.length → keepN v [p] i = (v.take i).eraseIdx p
  | 0, _ => by simp [keepN]
  | i + 1, h => by
    have hl : (v.take i).length = i := by rw [List.length_take]; omega
    rw [keepN, keepN_one v p i (by omega), List.take_succ, List.getElem?_eq_getElem (by omega), Option.toList_some, snoc_erase, hl]
    by_cases e : p = i
    · rw [if_pos e, if_pos (by simp [e]), List.append_nil, List.eraseIdx_of_length_le (by omega)]
    · rw [if_neg e, if_neg (by simp; omega)]
theorem keepN_two (v : Quire.Word) {p q : Nat} (h : p ≠ q) : ∀ i, i ≤ v.length → keepN v [p, q] i = ((v.take i).eraseIdx (max p q)).eraseIdx (min p q)
  | 0, _ => by simp [keepN]
  | i + 1, hi => by
    have hl : (v.take i).length = i := by rw [List.length_take]; omega
    have hm : min p q < max p q := by omega
    rw [keepN, keepN_two v h i (by omega), List.take_succ, List.getElem?_eq_getElem (by omega), Option.toList_some, snoc_erase, hl]
    by_cases e : max p q = i
    · rw [if_pos e, if_pos (by simp; omega), List.append_nil, List.eraseIdx_of_length_le (k := max p q) (by omega)]
    · rw [if_neg e, snoc_erase]
      have hu : ((v.take i).eraseIdx (max p q)).length = if max p q < i then i - 1 else i := by
        rw [List.length_eraseIdx, hl]
      by_cases e2 : min p q = i
      · rw [if_pos (by simp; omega), if_pos (by rw [hu, if_neg (by omega)]; exact e2), List.append_nil, List.eraseIdx_of_length_le (by rw [hu, if_neg (by omega)]; omega)]
      · rw [if_neg (by simp; omega), if_neg (by rw [hu]; split <;> omega)]
theorem mate_self {w : Quire.Word} {p q : Nat} {s : Quire.Sign} (hs : w[p]? = some s) (h : Quire.mate w p = some q) : q = p ↔ s = .alone := by
  unfold Quire.mate at h
  rw [hs] at h
  dsimp only [Option.bind_some] at h
  constructor
  · intro e
    by_cases ea : s = .alone
    · exact ea
    · rw [if_neg ea] at h
      have hf := List.find?_some h
      subst e
      rw [hs] at hf
      dsimp only at hf
      split at hf <;> simp at hf
  · intro e
    rw [if_pos e] at h
    exact (Option.some.inj h).symm
theorem lose_leaf {w : Quire.Word} {p q : Nat} (hl : Quire.isLeaf w p = true) (hp : p < w.length) (hm : Quire.mate w p = some q) (hq : Quire.isLeaf w q = true) : Quire.lose w p = some (keepN (w.set q .alone) [p] w.length) := by
  have hs : w[p]? = some w[p] := List.getElem?_eq_getElem hp
  unfold Quire.lose
  rw [if_neg (by rw [hl]; simp), hm, Option.map_some, keepN_one _ _ _ (by rw [List.length_set]; exact Nat.le_refl _)]
  congr 1
  rw [List.take_of_length_le (by rw [List.length_set]; exact Nat.le_refl _)]
  by_cases e : q = p
  · rw [if_pos e]
    have ea := (mate_self hs hm).mp e
    subst e
    congr 1
    rw [List.ext_getElem?_iff]
    intro j
    rw [List.getElem?_set]
    by_cases ej : q = j
    · subst ej; rw [if_pos rfl, if_pos hp, hs, ea]
    · rw [if_neg ej]
  · rw [if_neg e, if_pos hq]
theorem lose_stub {w : Quire.Word} {p q : Nat} (hl : Quire.isLeaf w p = true) (hp : p < w.length) (hm : Quire.mate w p = some q) (hq : Quire.isLeaf w q = false) : Quire.lose w p = some (keepN w [p, q] w.length) := by
  have e : q ≠ p := fun e => by rw [e, hl] at hq; cases hq
  unfold Quire.lose
  rw [if_neg (by rw [hl]; simp), hm, Option.map_some, keepN_two _ e.symm _ (Nat.le_refl _), if_neg e, if_neg (by rw [hq]; simp), List.take_length]
  rfl
theorem keepN_len (v : Quire.Word) (gone : List Nat) : ∀ i, (keepN v gone i).length ≤ i
  | 0 => Nat.le_refl _
  | i + 1 => by
    have := keepN_len v gone i
    rw [keepN, List.length_append]
    split
    · simp; omega
    · cases v[i]? <;> simp <;> omega
theorem mate_dir {w : Quire.Word} {p q : Nat} {s : Quire.Sign} (hs : w[p]? = some s) (h : Quire.mate w p = some q) (hl : s.leaf = true) (hn : q ≠ p) : s.cut = if p < q then .stubOpens else .stubCloses := by
  have ea : s ≠ .alone := fun e => hn ((mate_self hs h).mpr e)
  unfold Quire.mate at h
  rw [hs] at h
  dsimp only [Option.bind_some] at h
  rw [if_neg ea] at h
  have hf := List.find?_some h
  cases hw : w[q]? with
  | none => rw [hw] at hf; cases hf
  | some t =>
    rw [hw] at hf
    dsimp only at hf
    cases s with
    | alone => exact absurd rfl ea
    | opens =>
      rw [if_pos (by decide), Bool.and_eq_true, decide_eq_true_eq] at hf
      rw [if_pos hf.1]; rfl
    | closes =>
      rw [if_neg (by decide), Bool.and_eq_true, decide_eq_true_eq] at hf
      rw [if_neg (by omega)]; rfl
    | stubOpens => cases hl
    | stubCloses => cases hl
theorem cut_lose {w : Quire.Word} {p q : Nat} (hl : Quire.isLeaf w p = true) (hm : Quire.mate w p = some q) (h : q = p ∨ Quire.isLeaf w q = false) : Quire.cut w p = Quire.lose w p := by
  unfold Quire.cut
  rw [if_neg (by rw [hl]; simp), hm, Option.bind_some, if_neg]
  rintro ⟨h1, h2⟩
  rcases h with h | h
  · exact h1 h
  · rw [h] at h2; cases h2
theorem cut_stub {w : Quire.Word} {p q : Nat} (hl : Quire.isLeaf w p = true) (hp : p < w.length) (hm : Quire.mate w p = some q) (h1 : q ≠ p) (h2 : Quire.isLeaf w q = true) : Quire.cut w p = some (w.set p (if p < q then .stubOpens else .stubCloses)) := by
  have hs : w[p]? = some w[p] := List.getElem?_eq_getElem hp
  unfold Quire.cut
  rw [if_neg (by rw [hl]; simp), hm, Option.bind_some, if_pos ⟨h1, h2⟩, hs, Option.map_some, mate_dir hs hm (by rw [← isLeaf_of hs]; exact hl) h1]
def orgN (G : Quire.Gath) (i : Nat) : List (Nat × Nat) := ((List.range (G.put 0).length).map fun (j : Nat) => (0, j)) ++ (List.range i).flatMap fun (k : Nat) => ((G.leaf k).map fun _ => (2 * k + 1, 0)) ++ (List.range (G.put (k + 1)).length).map fun (j : Nat) => (2 * (k + 1), j)
theorem orgN_succ (G : Quire.Gath) (i : Nat) : orgN G (i + 1) = orgN G i ++ (((G.leaf i).map fun _ => (2 * i + 1, 0)) ++ (List.range (G.put (i + 1)).length).map fun (j : Nat) => (2 * (i + 1), j)) := by
  unfold orgN
  rw [List.range_succ, List.flatMap_append, List.append_assoc]
  simp
def cvO : Nat × Nat → Nat × Int := fun o => if o.1 % 2 = 0 then (o.1 / 2, (o.2 : Int)) else (o.1 / 2 + 1, -1)
theorem cvO_put (k j : Nat) : cvO (2 * k, j) = (k, (j : Int)) := by
  unfold cvO; dsimp only; rw [if_pos (by omega), show 2 * k / 2 = k by omega]
theorem cvO_leaf (k : Nat) : cvO (2 * k + 1, 0) = (k + 1, -1) := by
  unfold cvO; dsimp only; rw [if_neg (by omega), show (2 * k + 1) / 2 = k by omega]
def orgAt (G : Quire.Gath) (o : Nat × Nat) : Option Quire.Sign := if o.1 % 2 = 0 then (G.put (o.1 / 2))[o.2]? else (G.leaf (o.1 / 2))[0]?
theorem leaf_le (G : Quire.Gath) (k : Nat) : (G.leaf k).length = if G.fate k = .lost then 0 else 1 := by
  unfold Quire.Gath.leaf
  cases G.fate k with
  | lost => rfl
  | cut => rfl
  | kept => dsimp only; split <;> rfl
theorem org_part (G : Quire.Gath) (k : Nat) : ((List.range (G.put k).length).map fun (j : Nat) => (2 * k, j)).map (orgAt G) = (G.put k).map some := by
  rw [List.map_map]
  apply List.ext_getElem?
  intro j
  rw [List.getElem?_map, List.getElem?_map]
  by_cases h : j < (G.put k).length
  · rw [List.getElem?_range h, List.getElem?_eq_getElem h, Option.map_some, Option.map_some]
    show some (orgAt G (2 * k, j)) = _
    unfold orgAt
    dsimp only
    rw [if_pos (by omega), show 2 * k / 2 = k by omega, List.getElem?_eq_getElem h]
  · rw [List.getElem?_eq_none (by rw [List.length_range]; omega), List.getElem?_eq_none (by omega)]; rfl
theorem org_leaf (G : Quire.Gath) (k : Nat) : ((G.leaf k).map fun _ => (2 * k + 1, 0)).map (orgAt G) = (G.leaf k).map some := by
  have h := leaf_le G k
  have e : orgAt G (2 * k + 1, 0) = (G.leaf k)[0]? := by
    unfold orgAt
    dsimp only
    rw [if_neg (by omega), show (2 * k + 1) / 2 = k by omega]
  cases hl : G.leaf k with
  | nil => rfl
  | cons s r =>
    cases r with
    | nil => rw [hl] at e; simp only [List.map_cons, List.map_nil]; rw [e]; rfl
    | cons s2 r2 => rw [hl] at h; split at h <;> simp at h
theorem org_word (G : Quire.Gath) : ∀ i, (orgN G i).map (orgAt G) = (G.put 0 ++ (List.range i).flatMap fun k => G.leaf k ++ G.put (k + 1)).map some
  | 0 => by
    have := org_part G 0
    simp only [Nat.mul_zero] at this
    simpa [orgN] using this
  | i + 1 => by
    rw [orgN_succ, List.map_append, List.map_append, org_word G i, org_leaf, org_part, List.range_succ, List.flatMap_append, ← List.append_assoc (G.put 0), List.map_append (l₁ := G.put 0 ++ _)]
    simp
theorem org_bound (G : Quire.Gath) : ∀ i o, o ∈ orgN G i → o.1 ≤ 2 * i ∧ (o.1 % 2 = 0 → o.2 < (G.put (o.1 / 2)).length) ∧ (o.1 % 2 = 1 → o.2 = 0)
  | 0, o, h => by
    simp only [orgN, List.range_zero, List.flatMap_nil, List.append_nil, List.mem_map, List.mem_range] at h
    obtain ⟨j, hj, rfl⟩ := h
    exact ⟨by simp, fun _ => by simpa using hj, fun h => by simp at h⟩
  | i + 1, o, h => by
    rw [orgN_succ, List.mem_append, List.mem_append] at h
    rcases h with h | h | h
    · have := org_bound G i o h
      exact ⟨by omega, this.2⟩
    · obtain ⟨s, _, rfl⟩ := List.mem_map.mp h
      exact ⟨by show 2 * i + 1 ≤ _; omega, fun h => by dsimp only at h; omega, fun _ => rfl⟩
    · obtain ⟨j, hj, rfl⟩ := List.mem_map.mp h
      rw [List.mem_range] at hj
      refine ⟨Nat.le_refl _, fun _ => ?_, fun h => by dsimp only at h; omega⟩
      dsimp only
      rw [show 2 * (i + 1) / 2 = i + 1 by omega]; exact hj
theorem org_get {G : Quire.Gath} {p : Nat} (h : p < G.word.length) : ∃ o, G.origins[p]? = some o ∧ orgAt G o = G.word[p]? ∧ o.1 ≤ 2 * G.size ∧ (o.1 % 2 = 0 → o.2 < (G.put (o.1 / 2)).length) ∧ (o.1 % 2 = 1 → o.2 = 0) := by
  have e : G.origins.map (orgAt G) = G.word.map some := org_word G G.size
  have hl : p < G.origins.length := by
    have := congrArg List.length e
    rw [List.length_map, List.length_map] at this
    omega
  refine ⟨G.origins[p], List.getElem?_eq_getElem hl, ?_, org_bound G G.size _ (List.getElem_mem hl)⟩
  have e2 : (G.origins.map (orgAt G))[p]? = (G.word.map some)[p]? := by rw [e]
  rw [List.getElem?_map, List.getElem?_map, List.getElem?_eq_getElem hl, List.getElem?_eq_getElem h, Option.map_some, Option.map_some] at e2
  rw [Option.some.inj e2, List.getElem?_eq_getElem h]
theorem filter_set {f : Quire.Gath → Bool} {G' : Quire.Gath} : ∀ {m : Quire.Make} {i : Nat}, (∀ g ∈ m, f g = true) → i < m.length → (m.set i G').filter f = if f G' = true then m.set i G' else m.eraseIdx i
  | g :: m, 0, h, _ => by
    have hm : m.filter f = m := List.filter_eq_self.mpr fun x hx => h x (List.mem_cons_of_mem _ hx)
    rw [List.set_cons_zero, List.filter_cons, hm, List.eraseIdx_zero, List.tail_cons]
  | g :: m, i + 1, h, hi => by
    have ih := filter_set (G' := G') (m := m) (i := i) (fun x hx => h x (List.mem_cons_of_mem _ hx)) (by simpa using hi)
    rw [List.set_cons_succ, List.filter_cons, if_pos (h g (by simp)), ih, List.eraseIdx_cons_succ]
    split <;> rfl
theorem leaves_pos (w : Quire.Word) : decide (0 < QuireB.leavesIn w) = Quire.hasLeaf w := by
  unfold QuireB.leavesIn Quire.hasLeaf
  induction w with
  | nil => rfl
  | cons s r ih =>
    rw [List.filter_cons, List.any_cons]
    cases s.leaf with
    | true => simp
    | false => simpa using ih
theorem set_comm_lost (l : List Quire.Fate) (i j : Nat) (f : Quire.Fate) : (l.set i f).set j f = (l.set j f).set i f := by
  by_cases h : i = j
  · rw [h]
  · exact List.set_comm _ _ h
end Pg
end
section
namespace Pg
open PySem PySem.Spec PyProof.Rows L2
structure Core (G : Quire.Gath) : Prop where
  sg : G.sig.ok = true
  sz : Quire.sizeOk G.size = true
  nf : G.fates.length = G.size
  np : G.puts.length = G.size + 1
  ct : ∀ k, k < G.size → G.fate k = .cut → Quire.cutOk G k = true
  pr : ∀ w ∈ G.puts, Quire.right w = true
theorem sizeOk_cases {n : Nat} (h : Quire.sizeOk n = true) : n = 1 ∨ (n % 2 = 0 ∧ 2 ≤ n ∧ n ≤ 20) := by
  unfold Quire.sizeOk at h
  simpa only [Bool.or_eq_true, Bool.and_eq_true, beq_iff_eq, decide_eq_true_eq] using h
theorem fate_set {G : Quire.Gath} {k j : Nat} {f : Quire.Fate} (hk : k < G.fates.length) : ({ G with fates := G.fates.set k f } : Quire.Gath).fate j = if j = k then f else G.fate j := by
  unfold Quire.Gath.fate
  dsimp only
  rw [List.getD_eq_getElem?_getD, List.getD_eq_getElem?_getD, List.getElem?_set]
  by_cases h : k = j
  · subst h
    rw [if_pos rfl, if_pos rfl, if_pos hk]
    rfl
  · rw [if_neg h, if_neg (fun e => h e.symm)]
theorem row_right {e p q : Nat} {l u : List Nat} {w : Quire.Word} (h : rowAt e p l = .ok (w, q, u)) : Quire.right w = true := by
  unfold rowAt at h
  split at h
  · unfold toldRowAt at h
    cases z : Quire.charAt Quire.LANGLE p l with
    | error x => rw [z] at h; cases h
    | ok v =>
      obtain ⟨_, q1, u1⟩ := v
      rw [z] at h
      dsimp only at h
      cases z2 : Quire.signsAt q1 u1 with
      | error x => rw [z2] at h; cases h
      | ok v =>
        obtain ⟨w2, q2, u2⟩ := v
        rw [z2, toldFin] at h
        split at h
        · rename_i hc
          injection h with h; injection h with h0 h
          rw [← h0]; exact hc.2.1
        · cases h
  · unfold cntAt at h
    cases z : Quire.number Quire.digit p l with
    | error x => rw [z] at h; cases h
    | ok v =>
      obtain ⟨n, q1, u1⟩ := v
      rw [z] at h
      dsimp only at h
      split at h
      · rename_i hc
        injection h with h; injection h with h0 h
        rw [← h0]
        exact right_rep hc.2
      · cases h
theorem core_fate {G : Quire.Gath} {k : Nat} {f : Quire.Fate} (C : Core G) (h1 : 1 ≤ k) (h2 : k ≤ G.size) (hf : f ≠ .kept) (hm : mayB G f k = true) : Core { G with fates := G.fates.set (k - 1) f } := by
  have hk : k - 1 < G.fates.length := by rw [C.nf]; omega
  refine ⟨C.sg, C.sz, by rw [List.length_set]; exact C.nf, C.np, fun j hj hc => ?_, C.pr⟩
  have hj : j < G.size := hj
  have hs := sizeOk_cases C.sz
  have e2 : ∀ i, ({ G with fates := G.fates.set (k - 1) f } : Quire.Gath).partner i = G.size - 1 - i := fun _ => rfl
  rw [fate_set hk] at hc
  unfold Quire.cutOk
  rw [fate_set hk, e2]
  show (G.size != 1 && (if G.size - 1 - j = k - 1 then f else G.fate (G.size - 1 - j)) == .kept) = true
  by_cases hjk : j = k - 1
  · rw [if_pos hjk] at hc
    subst hc
    unfold mayB at hm
    rw [if_neg (by decide)] at hm
    unfold Quire.cutOk at hm
    rw [Bool.and_eq_true] at hm
    have hn1 : G.size ≠ 1 := by simpa using hm.1
    rw [if_neg (by omega), hjk]
    rw [Bool.and_eq_true]
    exact ⟨hm.1, hm.2⟩
  · rw [if_neg hjk] at hc
    have ho := C.ct j hj hc
    unfold Quire.cutOk at ho
    rw [Bool.and_eq_true] at ho
    by_cases hp : G.size - 1 - j = k - 1
    · exfalso
      have hj2 : G.partner (k - 1) = j := by unfold Quire.Gath.partner; omega
      unfold mayB at hm
      by_cases hl : f = .lost
      · rw [if_pos hl, hj2, hc] at hm
        exact absurd hm (by decide)
      · rw [if_neg hl] at hm
        unfold Quire.cutOk at hm
        rw [hj2, hc, Bool.and_eq_true] at hm
        exact absurd hm.2 (by decide)
    · rw [if_neg hp, Bool.and_eq_true]
      exact ho
theorem core_put {G : Quire.Gath} {k : Nat} {w : Quire.Word} (C : Core G) (hw : Quire.right w = true) : Core { G with puts := G.puts.set k w } := by
  refine ⟨C.sg, C.sz, C.nf, by rw [List.length_set]; exact C.np, fun j hj hc => C.ct j hj hc, fun u hu => ?_⟩
  rcases List.mem_or_eq_of_mem_set hu with hu | hu
  · exact C.pr u hu
  · rw [hu]; exact hw
theorem note_core {t : List Nat} {G G' : Quire.Gath} {last p l q : Nat} {u : List Nat} (C : Core G) (h : Quire.noteAt G last p (t.drop p) = .ok ((G', l), q, u)) : Core G' := by
  rw [note_eq] at h
  have lf : ∀ f, f ≠ .kept → ∀ l0, leafNote G last f p l0 = .ok ((G', l), q, u) → Core G' := by
    intro f hf l0 h
    unfold leafNote at h
    cases z : Quire.number Quire.digit (p + 1) l0 with
    | error e => rw [z] at h; cases h
    | ok v =>
      obtain ⟨k, q1, u1⟩ := v
      rw [z] at h
      dsimp only at h
      split at h
      · rename_i hc
        injection h with h; injection h with h0 h; injection h0 with h1 h2
        rw [← h1]
        exact core_fate C hc.1.1 hc.1.2 hf hc.2.2
      · cases h
  unfold noteM at h
  split at h
  · exact lf _ (by decide) _ h
  · split at h
    · exact lf _ (by decide) _ h
    · unfold gapNote at h
      cases z : Quire.number Quire.digit p (t.drop p) with
      | error e => rw [z] at h; cases h
      | ok v =>
        obtain ⟨k, q1, u1⟩ := v
        rw [z] at h
        dsimp only at h
        split at h
        · rename_i hc
          unfold gapPut at h
          cases z2 : Quire.charAt Quire.PLUS q1 u1 with
          | error e => rw [z2] at h; cases h
          | ok v =>
            obtain ⟨_, q2, u2⟩ := v
            rw [z2] at h
            dsimp only at h
            cases z3 : rowAt p q2 u2 with
            | error e => rw [z3] at h; cases h
            | ok v =>
              obtain ⟨w, q3, u3⟩ := v
              rw [z3, gapRow] at h
              injection h with h; injection h with h0 h; injection h0 with h1 h2
              rw [← h1]
              exact core_put C (row_right z3)
        · cases h
theorem notes_core {t : List Nat} : ∀ (F : Nat) (G : Quire.Gath) (last p : Nat) {G' : Quire.Gath} {q : Nat} {u : List Nat}, Core G → Quire.notesAt F G last p (t.drop p) = .ok (G', q, u) → Core G'
  | 0, G, last, p, G', q, u, C, h => by cases h
  | F + 1, G, last, p, G', q, u, C, h => by
    rw [notes_succ] at h
    cases z : Quire.noteAt G last p (t.drop p) with
    | error e => rw [z] at h; cases h
    | ok v =>
      obtain ⟨⟨G2, l2⟩, q2, u2⟩ := v
      have C2 := note_core C z
      have hd := z
      rw [note_eq] at hd
      obtain ⟨hu2, hp2⟩ := note_drop hd
      subst hu2
      rw [z] at h
      dsimp only at h
      cases z2 : t[q2]? with
      | none => rw [drop_none z2] at h; cases h
      | some c =>
        rw [drop_some z2, aftNote] at h
        by_cases h1 : c = Quire.RIGHT
        · rw [if_pos h1] at h
          injection h with h; injection h with h0 h
          rw [← h0]
          exact C2
        · rw [if_neg h1] at h
          by_cases h2 : c ≠ Quire.COMMA
          · rw [if_pos h2] at h; cases h
          · rw [if_neg h2] at h
            cases z3 : Quire.charAt Quire.BLANK (q2 + 1) (t.drop (q2 + 1)) with
            | error e => rw [z3] at h; cases h
            | ok v =>
              obtain ⟨_, q3, u3⟩ := v
              obtain ⟨hu3, hq3, _⟩ := char_drop z3
              subst hu3
              rw [z3] at h
              exact notes_core F G2 l2 q3 C2 h
theorem reg_core {s : Quire.Sig} {n : Nat} (hs : s.ok = true) (hn : Quire.sizeOk n = true) : Core (Quire.regular s n) := by
  refine ⟨hs, hn, by simp [Quire.regular], by simp [Quire.regular], fun k hk hc => ?_, fun w hw => ?_⟩
  · exfalso
    have hk : k < n := hk
    unfold Quire.Gath.fate Quire.regular at hc
    dsimp only at hc
    rw [List.getD_eq_getElem?_getD, List.getElem?_replicate, if_pos hk] at hc
    cases hc
  · have : w = [] := by simp [Quire.regular] at hw; exact hw
    rw [this]; decide
structure Full (G : Quire.Gath) : Prop where
  core : Core G
  len : G.word.length ≤ 21
  lf : Quire.hasLeaf G.word = true
theorem reg_full {s : Quire.Sig} {n : Nat} (hs : s.ok = true) (hn : Quire.sizeOk n = true) : Full (Quire.regular s n) := by
  have e : (Quire.regular s n).word = (Quire.regular ⟨0, 1⟩ n).word := rfl
  have hd : ∀ m, m < 21 → Quire.sizeOk m = true → (Quire.regular ⟨0, 1⟩ m).word.length ≤ 21 ∧ Quire.hasLeaf (Quire.regular ⟨0, 1⟩ m).word = true := by decide +kernel
  have hs2 := sizeOk_cases hn
  obtain ⟨h1, h2⟩ := hd n (by omega) hn
  exact ⟨reg_core hs hn, by rw [e]; exact h1, by rw [e]; exact h2⟩
theorem sig_ok {s : Quire.Sig} : s.ok = true ↔ s.sign < 50 ∧ 1 ≤ s.times ∧ s.times ≤ 99 := by
  unfold Quire.Sig.ok Quire.SIGNS Quire.TIMES
  simp only [Bool.and_eq_true, decide_eq_true_eq]
theorem next_ok {s t : Quire.Sig} (h : s.next = some t) (hs : s.ok = true) : t.ok = true := by
  rw [sig_ok] at hs ⊢
  unfold Quire.Sig.next Quire.LETTERS at h
  by_cases h1 : 2 * 23 ≤ s.sign
  · rw [if_pos h1] at h; cases h
  · rw [if_neg h1] at h
    by_cases h2 : s.sign % 23 + 1 < 23
    · rw [if_pos h2] at h
      have h := Option.some.inj h
      rw [← h]
      dsimp only
      omega
    · rw [if_neg h2] at h
      by_cases h3 : s.times < Quire.TIMES
      · rw [if_pos h3] at h
        have h := Option.some.inj h
        rw [← h]
        unfold Quire.TIMES at h3
        dsimp only
        omega
      · rw [if_neg h3] at h; cases h
theorem chain_ok : ∀ (n : Nat) (s : Quire.Sig), s.ok = true → ∀ x ∈ s.chain n, x.ok = true
  | 0, s, hs, x, h => by simp [Quire.Sig.chain] at h; rw [h]; exact hs
  | n + 1, s, hs, x, h => by
    rw [show s.chain (n + 1) = s :: (match s.next with | some t => t.chain n | none => []) from rfl] at h
    rcases List.mem_cons.mp h with h | h
    · rw [h]; exact hs
    · cases e : s.next with
      | none => rw [e] at h; simp at h
      | some t => rw [e] at h; exact chain_ok n t (next_ok e hs) x h
theorem sigs_ok {ss : List Quire.Sig} {t : List Nat} {p q : Nat} {l : List Quire.Sig} {u : List Nat} (h : sigsAt ss p (t.drop p) = .ok (l, q, u)) : ∀ x ∈ l, x.ok = true := by
  unfold sigsAt at h
  cases z : Quire.sigAt p (t.drop p) with
  | error e => rw [z] at h; cases h
  | ok v =>
    obtain ⟨s, q1, u1⟩ := v
    obtain ⟨hu, ht1, ht2, ht3⟩ := sig_drop z
    have hs : s.ok = true := sig_ok.mpr ⟨ht3, ht1, ht2⟩
    rw [z] at h
    dsimp only at h
    split at h
    · cases h
    · cases u1 with
      | nil =>
        rw [sigs2] at h
        injection h with h; injection h with h0 h
        rw [← h0]; simpa using hs
      | cons c v =>
        rw [sigs2] at h
        split at h
        · cases z3 : Quire.sigAt (q1 + 1) v with
          | error e => rw [z3] at h; cases h
          | ok v =>
            obtain ⟨y, q2, u2⟩ := v
            rw [z3] at h
            dsimp only at h
            cases z4 : Mq.betw ss s y with
            | none => rw [z4] at h; cases h
            | some l2 =>
              rw [z4] at h
              injection h with h; injection h with h0 h
              rw [← h0]
              unfold Mq.betw at z4
              cases z5 : (List.range Quire.GATHERINGS).find? fun (n : Nat) => decide (1 ≤ n) && (decide (ss.length + n + 1 ≤ Quire.GATHERINGS) && ((s.chain n).length == n + 1 && (s.chain n).getLast? == some y)) with
              | none => rw [z5] at z4; cases z4
              | some n =>
                rw [z5] at z4
                have z4 : (if (s.chain n).any (fun x => ss.contains x) = true then none else some (s.chain n)) = some l2 := z4
                split at z4
                · cases z4
                · have e := Option.some.inj z4
                  rw [← e]
                  exact chain_ok n s hs
        · injection h with h; injection h with h0 h
          rw [← h0]; simpa using hs
theorem item_full {m : Quire.Make} {t : List Nat} {p q : Nat} {A : Quire.Make} {u : List Nat} (h : itemM m p (t.drop p) = .ok (A, q, u)) : ∀ g ∈ A, Full g := by
  unfold itemM at h
  cases z : sigsAt (m.map Quire.Gath.sig) p (t.drop p) with
  | error e => rw [z] at h; cases h
  | ok v =>
    obtain ⟨l, q1, u1⟩ := v
    have hok := sigs_ok z
    obtain ⟨hu, hp1, hl, hne, _⟩ := sigs_info z
    subst hu
    rw [z] at h
    dsimp only at h
    cases z2 : sizeAt q1 (t.drop q1) with
    | error e => rw [z2] at h; cases h
    | ok v =>
      obtain ⟨n, r, v⟩ := v
      obtain ⟨hu2, hp2, _, _, hsz⟩ := size_info z2
      subst hu2
      rw [z2] at h
      dsimp only at h
      unfold itemRest at h
      split at h
      · match l, h, hok with
        | [s], h, hok =>
          rw [itemNotes] at h
          cases z3 : notesItem (Quire.regular s n) r (t.drop r) with
          | error e => rw [z3] at h; cases h
          | ok v =>
            obtain ⟨G, q3, u3⟩ := v
            obtain ⟨_, hu3, hq3, hl21, hlf⟩ := notesItem_shape (reg_shape s n) z3
            have hC : Core G := by
              have z4 := z3
              unfold notesItem at z4
              cases z5 : Quire.charAt Quire.LEFT r (t.drop r) with
              | error e => rw [z5] at z4; cases z4
              | ok v =>
                obtain ⟨_, q5, u5⟩ := v
                obtain ⟨hu5, _, _⟩ := char_drop z5
                subst hu5
                rw [z5] at z4
                dsimp only at z4
                cases z6 : Quire.notesAt ((t.drop q5).length + 1) (Quire.regular s n) 0 q5 (t.drop q5) with
                | error e => rw [z6] at z4; cases z4
                | ok v =>
                  obtain ⟨G6, q6, u6⟩ := v
                  have C6 := notes_core _ _ _ _ (reg_core (hok s (by simp)) hsz) z6
                  rw [z6, notesFin] at z4
                  split at z4
                  · cases z4
                  · injection z4 with z4; injection z4 with z40 z4
                    rw [← z40]; exact C6
            rw [z3, notesR] at h
            injection h with h; injection h with h0 h
            rw [← h0]
            intro g hg
            have : g = G := by simpa using hg
            rw [this]
            exact ⟨hC, hl21, hlf⟩
        | [], h, _ => cases h
        | x :: y :: l, h, _ => cases h
      · split at h
        · cases h
        · injection h with h; injection h with h0 h
          rw [← h0]
          intro g hg
          obtain ⟨x, hx, rfl⟩ := List.mem_map.mp hg
          exact reg_full (hok x hx) hsz
theorem items_full {t : List Nat} : ∀ (F : Nat) (m : Quire.Make) (p : Nat) {m' : Quire.Make}, (∀ g ∈ m, Full g) → Quire.itemsAt F m p (t.drop p) = .ok m' → (∀ g ∈ m', Full g) ∧ m' ≠ []
  | 0, m, p, m', _, h => by cases h
  | F + 1, m, p, m', hm, h => by
    rw [items_succ] at h
    cases z : Quire.itemAt m p (t.drop p) with
    | error e => rw [z] at h; cases h
    | ok v =>
      obtain ⟨A, q, u⟩ := v
      rw [z] at h
      rw [item_eq] at z
      obtain ⟨hu, _, _, hne⟩ := item_info z
      have hA := item_full z
      subst hu
      dsimp only at h
      have hall : ∀ g ∈ m ++ A, Full g := fun g hg => by
        rcases List.mem_append.mp hg with hg | hg
        · exact hm g hg
        · exact hA g hg
      cases z2 : t[q]? with
      | none =>
        rw [drop_none z2, aftItem] at h
        injection h with h
        rw [← h]
        exact ⟨hall, by simp [hne]⟩
      | some c =>
        rw [drop_some z2, aftItem] at h
        split at h
        · exact items_full F (m ++ A) (q + 1) hall h
        · cases h
theorem read_full {t : List Nat} {m : Quire.Make} (h : Quire.read t = .ok m) : (∀ g ∈ m, Full g) ∧ m ≠ [] := items_full (t := t) (t.length + 1) [] 0 (by simp) h
end Pg
end
section
namespace Pg
theorem paired_put {G : Quire.Gath} (C : Core G) (k : Nat) : Quire.paired (G.put k) = true := by
  unfold Quire.Gath.put
  rw [List.getD_eq_getElem?_getD]
  cases e : G.puts[k]? with
  | none => rfl
  | some w =>
    have := C.pr w (List.mem_of_getElem? e)
    unfold Quire.right at this
    rw [Bool.and_eq_true] at this
    exact this.2
end Pg
end
section
namespace Pg
open PySem PySem.Spec PyProof.Rows L2
theorem cut_take (xs : List V) (i : Nat) : cutV xs none (some (i : Int)) = xs.take i := by
  unfold cutV
  have e : HT.sIx xs.length xs.length (some (i : Int)) = min i xs.length := HT.sIx_nat xs.length xs.length i
  rw [e, show HT.sIx xs.length 0 none = 0 from rfl, List.drop_zero, Nat.sub_zero]
  by_cases h : i ≤ xs.length
  · rw [Nat.min_eq_left h]
  · rw [Nat.min_eq_right (by omega), List.take_of_length_le (Nat.le_refl _), List.take_of_length_le (by omega)]
theorem sum_nats : ∀ ns : List Nat, (ns.map fun (n : Nat) => (n : Int)).sum = ((ns.sum : Nat) : Int)
  | [] => rfl
  | n :: r => by rw [List.map_cons, List.sum_cons, List.sum_cons, sum_nats r]; omega
section
variable {P : Program} {w : World} {K : PySem.W.Frag} {mg : Str → Option Value} {base : Heap} {a : Adr}
def spFirst (a : Adr) : Sp := fun vs H Q _ => ∃ (L : Addr) (xs : List GA) (m : Quire.Make) (i : Nat), vs = [.ref L, .int i] ∧ H L = some (.lst (refs xs)) ∧ MAll a H xs m ∧ m.length ≤ 48 ∧ ∀ H', Same H H' → Q (.int (QuireB.firstLeaf m i : Nat)) H'
theorem sc_first : FnScope ["gatherings", "i", "gathering"] ["gatherings", "i"] (defScope s_first_leaf) := ⟨rfl, rfl, rfl, by decide +kernel, rfl, by decide +kernel, by decide +kernel⟩
theorem ok_first (T : Txt K mg a) (hsum : mg "sum" = none) (OC : Ok P w K mg base CX0 2 "count_leaves" ["row"] (spCount K)) (OW : Ok P w K mg base CX0 4 "word_of" ["gathering"] (spWord a)) (d : Df K mg "first_leaf" s_first_leaf ["gatherings", "i"]) : Ok P w K mg base CX0 5 "first_leaf" ["gatherings", "i"] (spFirst a) := by
  refine d.ok fun f fd F => ?_
  refine F.ok sc_first (fun vs H Q E h => ?_) (fun cdv A outer s H vs Q E hr h => ?_)
  · obtain ⟨x, _, _, _, rfl, _⟩ := h
    rfl
  · obtain ⟨L, xs, m, i, rfl, hL, hM, hm, q⟩ := h
    refine ⟨_, pss_one (ps_ret (pe_callB (cr_sum rfl) (by rfl) hsum boot_sum (pa_cons (pe_lc (own := [("gathering", 2)]) rfl sc_first.nd (pi_list (pe_slice sl_list (pv 0) po_none (po_some (pv 1)))) (blkOk_by (by rfl))
      (fun _ _ _ _ _ => pg_name (i := 2) sc_first.nd rfl (Or.inl rfl)) (fun _ _ _ _ _ => pts_nil) (fun _ _ _ _ _ => pe_f OC hr pass0 (pa_cons (pe_f OW hr pass0 (pa_cons (pv 2) pa_nil)) pa_nil))) pa_nil))), ?_⟩
    have hxl := hM.len
    refine ⟨_, rfl, _, rfl, _, rfl, L, _, rfl, SqL.of hL, fun c hc => ?_⟩
    rw [cut_take]
    have ec : (refs xs).take i = refs (xs.take i) := by unfold refs; rw [List.map_take]
    rw [ec]
    have s1 : Same H (upd H c (.lst (refs (xs.take i)))) := Same.new hc
    have hc1 : upd H c (.lst (refs (xs.take i))) c = some (.lst (refs (xs.take i))) := upd_same
    generalize upd H c (.lst (refs (xs.take i))) = H1 at s1 hc1
    refine ⟨c, rfl, ⟨_, SqL.of hc1⟩, fun D hD => ?_⟩
    refine lc_list (K := K) (a := c) (xs := refs (xs.take i)) (fun j H' => Same H1 H' ∧ H' D = some (.lst ((((m.take i).take j).map fun g => ((QuireB.leavesIn g.word : Nat) : Int)).map V.int))) ⟨Same.new hD, upd_same⟩ (fun j H' _ ⟨s2, _⟩ => SqL.of (s2 _ _ hc1)) ?_ ?_
    · rintro j y H' hj ⟨s2, h2⟩
      have hjl : j < (xs.take i).length := by have := (List.getElem?_eq_some_iff.mp hj).1; simpa [refs] using this
      rw [List.length_take] at hjl
      have hjm : j < m.length := by omega
      have hG : m[j]? = some m[j] := List.getElem?_eq_getElem hjm
      obtain ⟨x, hx1, gx⟩ := hM.get hG
      have ey : y = V.ref x.g := by
        unfold refs at hj
        rw [List.getElem?_map, List.getElem?_take_of_lt (by omega), hx1] at hj
        exact (Option.some.inj hj).symm
      subst ey
      have gx2 := gx.same (s1.trans s2)
      have wl := gx2.word_len
      refine ⟨rfl, ?_⟩
      unfold tYes
      refine iteT ?_
      refine ⟨_, rfl, x, m[j], rfl, gx2, fun H3 l s3 _ hl => ?_⟩
      refine ⟨l, Quire.nums m[j].word, rfl, SqL.of hl, by rw [nums_len]; omega, fun H4 s4 => ?_⟩
      refine ⟨_, s4 _ _ (s3 _ _ h2), ?_, fun b o hb => ?_, ?_⟩
      · simp only [List.length_map, List.length_take]
        exact Nat.lt_of_lt_of_le (show _ < 1000 by omega) (by decide)
      · rw [upd_ne (ne_of_none hb hD)]; exact s4 _ _ (s3 _ _ (s2 _ _ hb))
      · rw [upd_same, leafN_eq, List.take_succ, List.getElem?_take_of_lt (by omega), hG, List.map_append, List.map_append]
        rfl
    · rintro H2 ⟨s2, h2⟩
      have el : (refs (xs.take i)).length = (m.take i).length := by simp only [refs, List.length_map, List.length_take, hxl]
      rw [el, List.take_length] at h2
      refine ⟨D, _, rfl, SqL.of h2, ?_⟩
      have z := q H2 (s1.trans s2)
      unfold QuireB.firstLeaf at z
      rw [← sum_nats, List.map_map] at z
      exact z
end
theorem first_cons (g : Quire.Gath) (m : Quire.Make) (i : Nat) : QuireB.firstLeaf (g :: m) (i + 1) = QuireB.leavesIn g.word + QuireB.firstLeaf m i := by
  unfold QuireB.firstLeaf; rw [List.take_succ_cons, List.map_cons, List.sum_cons]
theorem first_zero (m : Quire.Make) : QuireB.firstLeaf m 0 = 0 := rfl
theorem first_succ : ∀ {m : Quire.Make} {i : Nat} {g : Quire.Gath}, m[i]? = some g → QuireB.firstLeaf m (i + 1) = QuireB.firstLeaf m i + QuireB.leavesIn g.word
  | g0 :: m, 0, g, h => by
    have : g0 = g := by simpa using h
    rw [first_cons, first_zero, first_zero, this]; omega
  | g0 :: m, i + 1, g, h => by
    rw [first_cons, first_cons, first_succ (m := m) (i := i) (by simpa using h)]; omega
theorem lvs_in : ∀ (m : Quire.Make) (b i l : Nat) {g : Quire.Gath}, m[i]? = some g → QuireB.firstLeaf m i ≤ l → l - QuireB.firstLeaf m i < QuireB.leavesIn g.word → (lvs b m)[l]? = some (b + i, l - QuireB.firstLeaf m i, (Quire.leafPlaces g.word).getD (l - QuireB.firstLeaf m i) 0)
  | g0 :: m, b, 0, l, g, h, h1, h2 => by
    have : g0 = g := by simpa using h
    subst this
    rw [first_zero] at h2 ⊢
    rw [lvs, List.getElem?_append_left (by simpa [lp_len] using h2), List.getElem?_map, List.getElem?_range (by rw [lp_len]; exact h2)]
    rfl
  | g0 :: m, b, i + 1, l, g, h, h1, h2 => by
    rw [first_cons] at h1 h2 ⊢
    have ih := lvs_in m (b + 1) i (l - QuireB.leavesIn g0.word) (g := g) (by simpa using h) (by omega) (by omega)
    rw [lvs, List.getElem?_append_right (by simp [lp_len]; omega), List.length_map, List.length_range, lp_len, ih]
    rw [show l - (QuireB.leavesIn g0.word + QuireB.firstLeaf m i) = l - QuireB.leavesIn g0.word - QuireB.firstLeaf m i by omega, show b + (i + 1) = b + 1 + i by omega]
theorem lvs_out : ∀ (m : Quire.Make) (b l : Nat), QuireB.firstLeaf m m.length ≤ l → (lvs b m)[l]? = none
  | [], b, l, _ => by simp [lvs]
  | g :: m, b, l, h => by
    rw [List.length_cons, first_cons] at h
    rw [lvs, List.getElem?_append_right (by simp [lp_len]; omega), List.length_map, List.length_range, lp_len]
    exact lvs_out m (b + 1) _ (by omega)
theorem num_ahead (s : Quire.Sign) : (s.num = 2 ∨ s.num = 4) ↔ s.ahead = true := by cases s <;> decide
theorem num_back (s : Quire.Sign) : (s.num = 3 ∨ s.num = 5) ↔ s.back = true := by cases s <;> decide
theorem not_both {s : Quire.Sign} (h1 : ¬ s.ahead = true) (h2 : ¬ s.back = true) : s = .alone := by cases s <;> first | rfl | exact absurd rfl h1 | exact absurd rfl h2
theorem leafN_num (s : Quire.Sign) : leafN s.num = s.leaf := by cases s <;> decide
theorem nums_get {w : Quire.Word} {i : Nat} {s : Quire.Sign} (h : w[i]? = some s) : (Quire.nums w)[i]? = some s.num := by
  unfold Quire.nums; rw [List.getElem?_map, h]; rfl
theorem ix_listK {X : Cx} {K : PySem.W.Frag} (hk : X.K = K) : IxR X (rIxL K) := by
  subst hk
  exact ix_list
section
variable {P : Program} {w : World} {K : PySem.W.Frag} {mg : Str → Option Value} {base : Heap} {a : Adr}
def spGOL (a : Adr) : Sp := fun vs H Q _ => ∃ (L : Addr) (xs : List GA) (m : Quire.Make) (l : Nat), vs = [.ref L, .int (l : Nat)] ∧ H L = some (.lst (refs xs)) ∧ MAll a H xs m ∧ m.length ≤ 48 ∧
  ∀ H', Same H H' → (∀ i g, m[i]? = some g → QuireB.firstLeaf m i ≤ l → l - QuireB.firstLeaf m i < QuireB.leavesIn g.word → Q (.int (i : Nat)) H') ∧ (QuireB.firstLeaf m m.length ≤ l → Q (.int (-1)) H')
theorem sc_gol : FnScope ["gatherings", "number", "left", "i"] ["gatherings", "number"] (defScope s_gathering_of_leaf) := ⟨rfl, rfl, rfl, by decide +kernel, rfl, by decide +kernel, by decide +kernel⟩
theorem ok_gol (T : Txt K mg a) (OC : Ok P w K mg base CX0 2 "count_leaves" ["row"] (spCount K)) (OW : Ok P w K mg base CX0 4 "word_of" ["gathering"] (spWord a)) (d : Df K mg "gathering_of_leaf" s_gathering_of_leaf ["gatherings", "number"]) : Ok P w K mg base CX0 5 "gathering_of_leaf" ["gatherings", "number"] (spGOL a) := by
  refine d.ok fun f fd F => ?_
  refine F.ok sc_gol (fun vs H Q E h => ?_) (fun cdv A outer s H vs Q E hr h => ?_)
  · obtain ⟨x, _, _, _, rfl, _⟩ := h
    rfl
  · obtain ⟨L, xs, m, l, rfl, hL, hM, hm, q⟩ := h
    refine ⟨_, pss_cons (ps_set (i := 2) sc_gol.nd rfl (Or.inl rfl) (pv 1))
      (pss_cons (ps_for PassesOwn.never rfl (pi_range1 rfl T.range (pa_cons (pe_callB call_len_seq (by rfl) T.len PySem.boot_len (pa_cons (pv 0) pa_nil)) pa_nil)) (pg_name (i := 3) sc_gol.nd rfl (Or.inl rfl))
        (pss_cons (ps_set (i := 2) sc_gol.nd rfl (Or.inl rfl) (pe_op op_sub (pv 2) (pe_f OC hr pass0 (pa_cons (pe_f OW hr pass0 (pa_cons (pe_ix ix_list (pv 0) (pv 3) (fun _ _ => rfl)) pa_nil)) pa_nil))))
        (pss_one (ps_if (pt_cmpR op_lt (pv 2) pe_int (nomark _)) (pss_one (ps_ret (pv 3))) pss_nil))))
      (pss_one (ps_ret (pe_un un_neg pe_int)))), ?_⟩
    have hxl : (refs xs).length = m.length := by simp only [refs, List.length_map, hM.len]
    refine ⟨_, rfl, _, rfl, L, _, rfl, .inl (SqL.of hL), _, rfl, by rw [hxl]; omega, by rw [hxl]; omega, ?_⟩
    rw [hxl]
    refine for_range (n := m.length) (fun i σ H' => ∃ v, σ = [some (.ref L), some (.int (l : Nat)), some (.int ((l : Int) - (QuireB.firstLeaf m i : Nat))), v] ∧ Same H H' ∧ QuireB.firstLeaf m i ≤ l) ⟨none, by rw [first_zero]; simp; rfl, Same.refl _, by rw [first_zero]; omega⟩ ?_ ?_
    · rintro i σ H' hi ⟨v, rfl, s1, hle⟩
      have hG : m[i]? = some m[i] := List.getElem?_eq_getElem hi
      obtain ⟨x, hx, g⟩ := hM.get hG
      have g1 := g.same s1
      have wl := g1.word_len
      have ei : (0 : Int) + (i : Nat) = ((i : Nat) : Int) := by omega
      have hat : atI (refs xs) (0 + (i : Nat)) = some (V.ref x.g) := at_of ei (by unfold refs; rw [List.getElem?_map, hx]; rfl)
      refine ⟨_, rfl, _, rfl, _, rfl, L, _, _, _, rfl, rfl, SqL.of (s1 _ _ hL), hat, x, m[i], rfl, g1, fun H2 b s2 _ hb => ?_⟩
      refine ⟨b, Quire.nums m[i].word, rfl, SqL.of hb, by rw [nums_len]; omega, fun H3 s3 => ?_⟩
      rw [leafN_eq]
      have s13 := (s1.trans s2).trans s3
      have hsuc := first_succ hG
      refine ⟨_, _, rfl, rfl, _, rfl, _, _, rfl, rfl, _, rfl, ?_⟩
      refine ite2 (fun e => ?_) fun e => ?_
      · have e : (l : Int) - (QuireB.firstLeaf m i : Nat) - (QuireB.leavesIn m[i].word : Nat) < 0 := of_decide_eq_true e
        refine ⟨_, rfl, ?_⟩
        have z := (q H3 s13).1 i m[i] hG hle (by omega)
        rw [← ei] at z
        exact z
      · have e : ¬ ((l : Int) - (QuireB.firstLeaf m i : Nat) - (QuireB.leavesIn m[i].word : Nat) < 0) := fun z => e (decide_eq_true z)
        refine ⟨some (V.int (0 + (i : Nat))), ?_, s13, by omega⟩
        rw [hsuc]
        have e9 : (l : Int) - (QuireB.firstLeaf m i : Nat) - (QuireB.leavesIn m[i].word : Nat) = (l : Int) - ((QuireB.firstLeaf m i + QuireB.leavesIn m[i].word : Nat) : Int) := by omega
        show [some (V.ref L), some (V.int (l : Nat)), some (V.int ((l : Int) - (QuireB.firstLeaf m i : Nat) - (QuireB.leavesIn m[i].word : Nat))), _] = _
        rw [e9]
    · rintro σ H' ⟨v, rfl, s1, hle⟩
      exact ⟨_, rfl, (q H' s1).2 hle⟩
def spLPl (K : PySem.W.Frag) : Sp := fun vs H Q _ => ∃ (p : Addr) (wd : Quire.Word) (j : Nat), vs = [.ref p, .int (j : Nat)] ∧ SqL K H p ((Quire.nums wd).map cV) ∧ wd.length ≤ 1000 ∧ j < QuireB.leavesIn wd ∧ ∀ H', Same H H' → Q (.int ((Quire.leafPlaces wd).getD j 0 : Nat)) H'
theorem sc_lpl : FnScope ["row", "number", "place"] ["row", "number"] (defScope s_leaf_place) := ⟨rfl, rfl, rfl, by decide +kernel, rfl, by decide +kernel, by decide +kernel⟩
theorem ok_lpl (T : Txt K mg a) (OL : Ok P w K mg base CX0 1 "is_leaf" ["sign"] spLeaf) (d : Df K mg "leaf_place" s_leaf_place ["row", "number"]) : Ok P w K mg base CX0 2 "leaf_place" ["row", "number"] (spLPl K) := by
  refine d.ok fun f fd F => ?_
  refine F.ok sc_lpl (fun vs H Q E h => ?_) (fun cdv A outer s H vs Q E hr h => ?_)
  · obtain ⟨x, _, _, rfl, _⟩ := h
    rfl
  · obtain ⟨p, wd, j, rfl, hS, hwl, hj, q⟩ := h
    refine ⟨_, pss_one (ps_ret (pe_ix ix_list (pe_lc (own := [("place", 2)]) rfl sc_lpl.nd (pi_range1 rfl T.range (pa_cons (pe_callB call_len_seq (by rfl) T.len PySem.boot_len (pa_cons (pv 0) pa_nil)) pa_nil)) (blkOk_by (by rfl))
      (fun _ _ _ _ _ => pg_name (i := 2) sc_lpl.nd rfl (Or.inl rfl)) (fun _ _ _ _ _ => pts_one (pt_val (pe_f OL hr pass0 (pa_cons (pe_ix (ix_listK (K := K) rfl) (pv 0) (pv 2) (fun _ _ => rfl)) pa_nil)))) (fun _ _ _ _ _ => pv 2)) (pv 1) (fun _ _ => rfl))), ?_⟩
    have hl : ((Quire.nums wd).map cV).length = wd.length := by rw [List.length_map, nums_len]
    refine ⟨_, rfl, p, _, rfl, .inl hS, _, rfl, by rw [hl]; omega, by rw [hl]; omega, fun D hD => ?_⟩
    rw [hl]
    refine lc_range (n := wd.length) (fun i H' => Same H H' ∧ H' D = some (.lst ((lpN wd i).map cV))) ⟨Same.new hD, upd_same⟩ ?_ ?_
    · rintro i H' hi ⟨s1, h1⟩
      have hg : wd[i]? = some wd[i] := List.getElem?_eq_getElem hi
      have ei : (0 : Int) + (i : Nat) = ((i : Nat) : Int) := by omega
      refine ⟨rfl, _, rfl, _, rfl, p, _, _, cV wd[i].num, rfl, rfl, s1.seq hS, at_of ei (by rw [List.getElem?_map, nums_get hg]; rfl), wd[i].num, rfl, fun H2 s2 => ?_⟩
      rw [leafN_num]
      refine ⟨_, rfl, ?_⟩
      have hli := isLeaf_of hg
      refine ite2 (fun e => ?_) fun e => ?_
      · refine ⟨_, rfl, _, s2 _ _ h1, ?_, fun b o hb => ?_, ?_⟩
        · have := lpN_len wd i (by omega)
          have h3 : QuireB.leavesIn (wd.take i) ≤ 1000 := by
            unfold QuireB.leavesIn
            exact Nat.le_trans (List.length_filter_le _ _) (by rw [List.length_take]; omega)
          rw [List.length_map, this]
          exact Nat.lt_of_le_of_lt h3 (by decide)
        · rw [upd_ne (ne_of_none hb hD)]; exact s2 _ _ (s1 _ _ hb)
        · rw [upd_same, lpN_succ, if_pos (hli.trans e), List.map_append, ei]; rfl
      · refine ⟨s1.trans s2, ?_⟩
        rw [lpN_succ, if_neg (by rw [hli]; exact e), List.append_nil]
        exact s2 _ _ h1
    · rintro H2 ⟨s2, h2⟩
      have hjl : j < (lpN wd wd.length).length := by rw [← leafPlaces_eq, lp_len]; exact hj
      refine ⟨_, rfl, D, _, _, cV ((Quire.leafPlaces wd).getD j 0), rfl, rfl, SqL.of h2, at_of rfl ?_, ?_⟩
      · rw [List.getElem?_map, List.getElem?_eq_getElem hjl, leafPlaces_eq, List.getD_eq_getElem?_getD, List.getElem?_eq_getElem hjl]; rfl
      · exact q H2 s2
def Prt (wd : Quire.Word) (Pl : List Nat) : Prop := Pl.length = wd.length ∧ ∀ p, p < wd.length → ∃ q, Pl[p]? = some q ∧ Quire.mate wd p = some q
def spPrt (K : PySem.W.Frag) : Sp := fun vs H Q _ => ∃ (p : Addr) (wd : Quire.Word), vs = [.ref p] ∧ SqL K H p ((Quire.nums wd).map cV) ∧ wd.length ≤ 1000 ∧ Quire.paired wd = true ∧
  ∀ H' D Pl, Same H H' → H' D = some (.lst (Pl.map cV)) → Prt wd Pl → Q (.ref D) H'
theorem sc_prt : FnScope ["row", "partners", "waiting", "place", "before"] ["row"] (defScope s_partners_of) := ⟨rfl, rfl, rfl, by decide +kernel, rfl, by decide +kernel, by decide +kernel⟩
theorem ok_prt (T : Txt K mg a) (d : Df K mg "partners_of" s_partners_of ["row"]) : Ok P w K mg base CX0 1 "partners_of" ["row"] (spPrt K) := by
  refine d.ok fun f fd F => ?_
  refine F.ok sc_prt (fun vs H Q E h => ?_) (fun cdv A outer s H vs Q E hr h => ?_)
  · obtain ⟨x, _, rfl, _⟩ := h
    rfl
  · obtain ⟨p, wd, rfl, hS, hwl, hpr, q⟩ := h
    refine ⟨_, pss_cons (ps_set (i := 1) sc_prt.nd rfl (Or.inl rfl) (pe_listRange rfl rfl T.list rfl T.range (pa_cons (pe_callB call_len_seq (by rfl) T.len PySem.boot_len (pa_cons (pv 0) pa_nil)) pa_nil)))
      (pss_cons (ps_set (i := 2) sc_prt.nd rfl (Or.inl rfl) (pe_lst pa_nil))
      (pss_cons (ps_for PassesOwn.never rfl (pi_range1 rfl T.range (pa_cons (pe_callB call_len_seq (by rfl) T.len PySem.boot_len (pa_cons (pv 0) pa_nil)) pa_nil)) (pg_name (i := 3) sc_prt.nd rfl (Or.inl rfl))
        (pss_one (ps_if (pt_cmpR op_in_seq (pe_ix ix_list (pv 0) (pv 3) (fun _ _ => rfl)) (pe_tup (pa_cons (pe_gi T.LEAF_BEFORE) (pa_cons (pe_gi T.STUB_BEFORE) pa_nil))) (by with_unfolding_all rfl))
          (pss_one (ps_expr (pe_bm PySem.F.plainAttrs_list PySem.F.slot_list_append PySem.F.type_list_append mt_append (pv 2) (pa_cons (pv 3) pa_nil))))
          (pss_one (ps_if (pt_cmpR op_in_seq (pe_ix ix_list (pv 0) (pv 3) (fun _ _ => rfl)) (pe_tup (pa_cons (pe_gi T.LEAF_BEHIND) (pa_cons (pe_gi T.STUB_BEHIND) pa_nil))) (by with_unfolding_all rfl))
            (pss_cons (ps_set (i := 4) sc_prt.nd rfl (Or.inl rfl) (pe_bm0 PySem.F.plainAttrs_list PySem.F.slot_list_pop PySem.F.type_list_pop mt_pop (pv 2)))
            (pss_cons (ps_asg (pv 3) (pg_sub (pv 1) (pv 4) set_list))
            (pss_one (ps_asg (pv 4) (pg_sub (pv 1) (pv 3) set_list)))))
            pss_nil)))))
      (pss_one (ps_ret (pv 1))))), ?_⟩
    have hl : ((Quire.nums wd).map cV).length = wd.length := by rw [List.length_map, nums_len]
    refine ⟨_, rfl, p, _, rfl, .inl hS, wd.length, by rw [hl], by omega, fun D hD => ?_⟩
    have sD : Same H (upd H D (.lst ((List.range wd.length).map fun (i : Nat) => V.int (i : Nat)))) := Same.new hD
    have eD : upd H D (.lst ((List.range wd.length).map fun (i : Nat) => V.int (i : Nat))) D = some (.lst ((List.range wd.length).map cV)) := upd_same
    generalize upd H D (.lst ((List.range wd.length).map fun (i : Nat) => V.int (i : Nat))) = H1 at sD eD
    refine ⟨Nat.zero_le _, fun l hl1 => ?_⟩
    have hlH : H l = none := by
      cases z : H l with
      | none => rfl
      | some o => rw [sD _ _ z] at hl1; cases hl1
    have hDl : D ≠ l := fun e => by rw [e, hl1] at eD; cases eD
    have sl : Same H1 (upd H1 l (.lst [])) := Same.new hl1
    refine ⟨_, rfl, p, _, rfl, .inl (sl.seq (sD.seq hS)), _, rfl, by rw [hl]; omega, by rw [hl]; omega, ?_⟩
    rw [hl]
    refine for_range (n := wd.length) (fun i σ H' => ∃ v v2 Pl W, σ = [some (.ref p), some (.ref D), some (.ref l), v, v2] ∧ Same H H' ∧ H' D = some (.lst (Pl.map cV)) ∧ H' l = some (.lst (W.reverse.map cV)) ∧ W.length ≤ i ∧ PrI wd i Pl W)
      ⟨none, none, List.range wd.length, [], rfl, sD.trans sl, by rw [upd_ne hDl]; exact eD, upd_same, Nat.le_refl _, PrI.zero hpr⟩ ?_ ?_
    · rintro i σ H' hi ⟨v, v2, Pl, W, rfl, s1, h1, h2, hW, I⟩
      have hg : wd[i]? = some wd[i] := List.getElem?_eq_getElem hi
      have ei : (0 : Int) + (i : Nat) = ((i : Nat) : Int) := by omega
      have hat : atI ((Quire.nums wd).map cV) (0 + (i : Nat)) = some (cV wd[i].num) := at_of ei (by rw [List.getElem?_map, nums_get hg]; rfl)
      refine ⟨_, rfl, _, rfl, p, _, _, cV wd[i].num, rfl, rfl, s1.seq hS, hat, by show 2 ≤ sizeLine; decide, fun t ht => ⟨t, _, rfl, .inr (SqT.of upd_same), rfl, rfl, _, rfl, ?_⟩⟩
      have s2 : Same H' (upd H' t (.tup [.int 2, .int 4])) := Same.new ht
      generalize upd H' t (.tup [.int 2, .int 4]) = H2 at s2
      rw [show inV (cV wd[i].num) [.int 2, .int 4] = decide ((wd[i].num : Int) = 2 ∨ (wd[i].num : Int) = 4) from in2]
      refine ite2 (fun e2 => ?_) fun e2 => ?_
      · have ha : wd[i].ahead = true := (num_ahead _).mp (by have := of_decide_eq_true e2; omega)
        refine ⟨_, rfl, .inl ⟨rfl, _, SqL.of (s2 _ _ h2)⟩, _, rfl, l, _, _, rfl, rfl, s2 _ _ h2, ?_, ?_⟩
        · rw [List.length_map, List.length_reverse]
          exact Nat.lt_of_le_of_lt hW (Nat.lt_of_lt_of_le hi (Nat.le_trans hwl (by decide)))
        · refine ⟨_, _, Pl, i :: W, rfl, fun b o hb => ?_, ?_, ?_, by simp; omega, I.ahead hg ha⟩
          · rw [upd_ne (ne_of_none hb hlH)]; exact s2 _ _ (s1 _ _ hb)
          · rw [upd_ne hDl]; exact s2 _ _ h1
          · rw [upd_same, List.reverse_cons, List.map_append, ei]; rfl
      · have ha : ¬ wd[i].ahead = true := fun z => e2 (decide_eq_true (by have := (num_ahead _).mpr z; omega))
        refine ⟨_, rfl, _, rfl, p, _, _, cV wd[i].num, rfl, rfl, s2.seq (s1.seq hS), hat, by show 2 ≤ sizeLine; decide, fun t2 ht2 => ⟨t2, _, rfl, .inr (SqT.of upd_same), rfl, rfl, _, rfl, ?_⟩⟩
        have s3 := s2.trans (Same.new (o := .tup [.int 3, .int 5]) ht2)
        generalize upd H2 t2 (.tup [.int 3, .int 5]) = H3 at s3
        rw [show inV (cV wd[i].num) [.int 3, .int 5] = decide ((wd[i].num : Int) = 3 ∨ (wd[i].num : Int) = 5) from in2]
        refine ite2 (fun e3 => ?_) fun e3 => ?_
        · have hb : wd[i].back = true := (num_back _).mp (by have := of_decide_eq_true e3; omega)
          obtain ⟨b, W', rfl, hbi, I2⟩ := I.back hg hb
          have h13 := s3 _ _ h1
          have h23 := s3 _ _ h2
          refine ⟨_, rfl, .inl ⟨rfl, _, SqL.of h23⟩, l, _, cV b, rfl, rfl, h23, by simp, ?_⟩
          have ed : (List.map cV (b :: W').reverse).dropLast = W'.reverse.map cV := by
            rw [List.reverse_cons, List.map_append]; simp
          rw [ed]
          have hPl : (Pl.map cV).length = wd.length := by rw [List.length_map]; exact I.len
          refine ⟨_, rfl, _, rfl, _, rfl, D, _, _, b, rfl, rfl, by rw [upd_ne hDl]; exact h13, ixN_nat (by rw [hPl]; omega), ?_⟩
          refine ⟨_, rfl, _, rfl, _, rfl, D, _, _, i, rfl, rfl, upd_same, ?_, ?_⟩
          · rw [ei]; exact ixN_nat (by rw [List.length_set, hPl]; exact hi)
          · refine ⟨_, _, (Pl.set b i).set i b, W', rfl, fun c o hc => ?_, ?_, ?_, by simp at hW; omega, I2⟩
            · rw [upd_ne (ne_of_none hc hD), upd_ne (ne_of_none hc hD), upd_ne (ne_of_none hc hlH)]; exact s3 _ _ (s1 _ _ hc)
            · rw [upd_same, List.map_set, List.map_set, ei]; rfl
            · rw [upd_ne (Ne.symm hDl), upd_ne (Ne.symm hDl), upd_same]
        · have hb : ¬ wd[i].back = true := fun z => e3 (decide_eq_true (by have := (num_back _).mpr z; omega))
          have ea := not_both ha hb
          rw [ea] at hg
          exact ⟨_, _, Pl, W, rfl, s1.trans s3, s3 _ _ h1, s3 _ _ h2, by omega, I.alone hg⟩
    · rintro σ H' ⟨v, v2, Pl, W, rfl, s1, h1, h2, hW, I⟩
      exact ⟨_, rfl, q H' D Pl s1 h1 ⟨I.len, I.fin⟩⟩
end
def NAll (H : Hp) : List Addr → List (List Nat) → Prop
  | [], [] => True
  | x :: r, n :: t => H x = some (.lst (n.map cV)) ∧ NAll H r t
  | _, _ => False
theorem NAll.keep {H H' : Hp} : ∀ {xs : List Addr} {ns : List (List Nat)}, (∀ b ∈ xs, ∀ n : List Nat, H b = some (.lst (n.map cV)) → H' b = some (.lst (n.map cV))) → NAll H xs ns → NAll H' xs ns
  | [], [], _, _ => trivial
  | x :: _, n :: _, k, h => ⟨k x (List.mem_cons_self ..) n h.1, NAll.keep (fun b hb => k b (List.mem_cons_of_mem _ hb)) h.2⟩
  | [], _ :: _, _, h => h.elim
  | _ :: _, [], _, h => h.elim
theorem NAll.same {H H' : Hp} (k : Same H H') {xs : List Addr} {ns : List (List Nat)} (h : NAll H xs ns) : NAll H' xs ns := h.keep fun b _ n e => k _ _ e
theorem NAll.snoc {H : Hp} {x : Addr} {n : List Nat} (hx : H x = some (.lst (n.map cV))) : ∀ {xs : List Addr} {ns : List (List Nat)}, NAll H xs ns → NAll H (xs ++ [x]) (ns ++ [n])
  | [], [], _ => ⟨hx, trivial⟩
  | _ :: _, _ :: _, h => ⟨h.1, NAll.snoc hx h.2⟩
  | [], _ :: _, h => h.elim
  | _ :: _, [], h => h.elim
theorem NAll.len {H : Hp} : ∀ {xs : List Addr} {ns : List (List Nat)}, NAll H xs ns → xs.length = ns.length
  | [], [], _ => rfl
  | _ :: _, _ :: _, h => by simp [NAll.len h.2]
  | [], _ :: _, h => h.elim
  | _ :: _, [], h => h.elim
abbrev dL (n : List Nat) : PyData := .list (n.map dN)
theorem dec_digs : ∀ n, n < 100 → (Quire.digits 20 n).map (fun x => digitsL.getD x 0) = Quire.decimal n := by decide +kernel
theorem size_digs : ∀ n, n < 100 → (Quire.digits 20 n).map (fun x => raisedL.getD x 0) = Quire.sizeText n := by decide +kernel
theorem digs_len : ∀ n, n < 100 → (Quire.digits 20 n).length ≤ 2 := by decide +kernel
theorem dec_len {n : Nat} (h : n < 100) : (Quire.decimal n).length ≤ 2 := by rw [← dec_digs n h, List.length_map]; exact digs_len n h
theorem get10 {ds : List Nat} {x : Nat} (h : ds.length = 10) (hx : x < 10) : (ds.map cV)[x]? = some (cV (ds.getD x 0)) := by
  rw [List.getElem?_map, List.getD_eq_getElem?_getD, List.getElem?_eq_getElem (by omega)]; rfl
theorem rows_char : ∀ s : Quire.Sign, rowL[s.num - 1]? = some (s.byte).toNat := by intro s; cases s <;> decide
theorem wordText_eq (w : Quire.Word) : Quire.wordText w = w.map fun s => (s.byte).toNat := by unfold Quire.wordText Quire.text; rw [List.map_map]; rfl
theorem sign_lt {s : Quire.Sig} (h : s.ok = true) : s.sign < 50 ∧ 1 ≤ s.times ∧ s.times ≤ 99 := by
  exact sig_ok.mp h
section
variable {P : Program} {w : World} {K : PySem.W.Frag} {mg : Str → Option Value} {base : Heap} {a : Adr}
def spNum (K : PySem.W.Frag) : Sp := fun vs H Q _ => ∃ (n : Nat) (d : Addr) (ds : List Nat), vs = [.int (n : Nat), .ref d] ∧ (∀ H, SqT K H d (ds.map cV)) ∧ ds.length = 10 ∧ n < 100 ∧
  ∀ H' l, Same H H' → H l = none → H' l = some (.lst (((Quire.digits 20 n).map fun x => ds.getD x 0).map cV)) → Q (.ref l) H'
theorem sc_num : FnScope ["number", "digits", "text", "rest"] ["number", "digits"] (defScope s_write_number) := ⟨rfl, rfl, rfl, by decide +kernel, rfl, by decide +kernel, by decide +kernel⟩
theorem ok_wnum (T : Txt K mg a) (d : Df K mg "write_number" s_write_number ["number", "digits"]) : Ok P w K mg base CX0 1 "write_number" ["number", "digits"] (spNum K) := by
  refine d.ok fun f fd F => ?_
  refine F.ok sc_num (fun vs H Q E h => ?_) (fun cdv A outer s H vs Q E hr h => ?_)
  · obtain ⟨x, _, _, rfl, _⟩ := h
    rfl
  · obtain ⟨n, d, ds, rfl, hd, hdl, hn, q⟩ := h
    refine ⟨_, pss_cons (ps_set (i := 2) sc_num.nd rfl (Or.inl rfl) (pe_lst (pa_cons (pe_ix ix_tup (pv 1) (pe_op op_mod (pv 0) pe_int) (fun _ _ => rfl)) pa_nil)))
      (pss_cons (ps_set (i := 3) sc_num.nd rfl (Or.inl rfl) (pe_op op_fdiv (pv 0) pe_int))
      (pss_cons (ps_while PassesOwn.never (pt_cmpR op_gt (pv 3) pe_int (nomark _))
        (pss_cons (ps_expr (pe_bm PySem.F.plainAttrs_list PySem.F.slot_list_insert PySem.F.type_list_insert mt_insert0 (pv 2) (pa_cons pe_int (pa_cons (pe_ix ix_tup (pv 1) (pe_op op_mod (pv 3) pe_int) (fun _ _ => rfl)) pa_nil))))
        (pss_one (ps_set (i := 3) sc_num.nd rfl (Or.inl rfl) (pe_op op_fdiv (pv 3) pe_int)))))
      (pss_one (ps_ret (pv 2))))), ?_⟩
    have em : ∀ r : Nat, (r : Int) % 10 = ((r % 10 : Nat) : Int) := fun r => by omega
    have ed : ∀ r : Nat, (r : Int) / 10 = ((r / 10 : Nat) : Int) := fun r => by omega
    refine ⟨_, rfl, _, rfl, _, _, rfl, rfl, (by show (0 : Int) < 10; decide), d, _, _, _, rfl, rfl, hd _, at_of (em n) (get10 hdl (by omega)), by show 1 ≤ sizeLine; decide, fun l hl => ?_⟩
    have s1 : Same H (upd H l (.lst [cV (ds.getD (n % 10) 0)])) := Same.new hl
    refine ⟨_, rfl, _, _, rfl, rfl, ⟨by decide, by decide⟩, ?_⟩
    refine while_by (fun σ H' => ∃ (r : Nat) (tx : List Nat), σ = [some (.int (n : Nat)), some (.ref d), some (.ref l), some (.int (r : Nat))] ∧ Same H H' ∧ H' l = some (.lst (tx.map cV)) ∧ tx.length ≤ 2 ∧ (r = 0 → tx = (Quire.digits 20 n).map fun x => ds.getD x 0) ∧
        (r ≠ 0 → r < 10 ∧ (ds.getD r 0) :: tx = (Quire.digits 20 n).map fun x => ds.getD x 0))
      (fun σ H' => match σ with
        | [_, _, _, some (.int r)] => r.toNat
        | _ => 0)
      ⟨n / 10, [ds.getD (n % 10) 0], by rw [← ed n]; rfl, s1, upd_same, by simp, fun h0 => ?_, fun h0 => ?_⟩ ?_ ?_
    · rw [digs1 (by omega), show n % 10 = n by omega]; rfl
    · rw [digs2 (by omega) hn]; exact ⟨by omega, rfl⟩
    · rintro σ H2 ⟨r, tx, rfl, s2, h2, htl, hz, hnz⟩
      refine ⟨_, rfl, _, _, rfl, rfl, _, rfl, ?_⟩
      refine ite2 (fun e => ?_) fun e => ?_
      · have hr0 : r ≠ 0 := by have := of_decide_eq_true e; omega
        obtain ⟨hr10, htx⟩ := hnz hr0
        refine ⟨_, rfl, .inl ⟨rfl, _, SqL.of h2⟩, _, rfl, _, rfl, _, _, rfl, rfl, (by show (0 : Int) < 10; decide), d, _, _, _, rfl, rfl, hd _, at_of (em r) (get10 hdl (by omega)), l, _, _, rfl, rfl, h2, ?_, ?_⟩
        · rw [List.length_map]; exact Nat.lt_of_le_of_lt htl (by decide)
        · refine ⟨_, rfl, _, _, rfl, rfl, ⟨by decide, by decide⟩, ?_⟩
          refine ⟨⟨r / 10, ds.getD r 0 :: tx, by rw [← ed r]; rfl, fun b o hb => ?_, ?_, ?_, fun _ => htx, fun h => absurd h (by omega)⟩, ?_⟩
          · rw [upd_ne (ne_of_none hb hl)]; exact s2 _ _ hb
          · rw [upd_same, show r % 10 = r by omega]; rfl
          · rw [htx, List.length_map]; exact digs_len n hn
          · show (((r : Nat) : Int) / 10).toNat < ((r : Nat) : Int).toNat
            omega
      · have hr0 : r = 0 := by
          have : ¬ (0 : Int) < (r : Nat) := fun z => e (decide_eq_true z)
          omega
        rw [hz hr0] at h2
        exact ⟨_, rfl, q H2 l s2 hl h2⟩
    · intro σ H Q Q' h hq
      obtain ⟨v, h1, i, j, h2, h3, k, h4, h5⟩ := hq
      exact ⟨v, h1, i, j, h2, h3, k, h4, h _ _ h5⟩
def spSgC : Sp := fun vs H Q _ => ∃ n : Nat, vs = [.int (n : Nat)] ∧ n < 50 ∧ Q (.int (Quire.signChars.getD n 0 : Nat)) H
theorem sc_sgc : FnScope ["sign"] ["sign"] (defScope s_signature_character) := ⟨rfl, rfl, rfl, by decide +kernel, rfl, by decide +kernel, by decide +kernel⟩
theorem letter_at : ∀ n, n < 46 → lettersS.cps.toList[n]? = some (Quire.signChars.getD n 0) := by decide +kernel
theorem other_at : ∀ n, n < 50 → 46 ≤ n → otherL[n - 46]? = some (Quire.signChars.getD n 0) := by decide +kernel
theorem ok_sgc (T : Txt K mg a) (d : Df K mg "signature_character" s_signature_character ["sign"]) : Ok P w K mg base CX0 1 "signature_character" ["sign"] spSgC := by
  refine d.ok fun f fd F => ?_
  refine F.ok sc_sgc (fun vs H Q E h => ?_) (fun cdv A outer s H vs Q E hr h => ?_)
  · obtain ⟨x, rfl, _⟩ := h
    rfl
  · obtain ⟨n, rfl, hn, q⟩ := h
    refine ⟨_, pss_cons (ps_if (pt_cmpR op_lt (pv 0) (pe_callB call_len_str (by rfl) T.len PySem.boot_len (pa_cons (pe_gs T.le) pa_nil)) (nomark _))
        (pss_one (ps_ret (pe_callB call_ord (by rfl) T.ord boot_ord (pa_cons (pe_ix ix_str (pe_gs T.le) (pv 0) (fun _ _ => rfl)) pa_nil)))) pss_nil)
      (pss_one (ps_ret (pe_ix ix_tup (pe_gr T.os) (pe_op op_sub (pv 0) (pe_callB call_len_str (by rfl) T.len PySem.boot_len (pa_cons (pe_gs T.le) pa_nil))) (fun _ _ => rfl)))), ?_⟩
    have h46 : (lettersS.length : Int) = 46 := by decide +kernel
    refine ⟨_, rfl, _, rfl, by decide +kernel, _, _, rfl, rfl, _, rfl, ?_⟩
    rw [h46]
    refine ite2 (fun e => ?_) fun e => ?_
    · have h1 : n < 46 := by have := of_decide_eq_true e; omega
      refine ⟨_, rfl, lettersS, _, Quire.signChars.getD n 0, rfl, rfl, by decide +kernel, atI_nat (j := n) (letter_at n h1), _, rfl, rfl, ?_⟩
      exact q
    · have h1 : 46 ≤ n := by
        have : ¬ ((n : Nat) : Int) < 46 := fun z => e (decide_eq_true z)
        omega
      refine ⟨_, rfl, _, rfl, by decide +kernel, _, _, rfl, rfl, a.os, _, _, cV (Quire.signChars.getD n 0), rfl, rfl, T.osS _, ?_, q⟩
      rw [h46]
      exact at_of (j := n - 46) (by omega) (by rw [List.getElem?_map, other_at n hn h1]; rfl)
def spRwC : Sp := fun vs H Q _ => ∃ s : Quire.Sign, vs = [cV s.num] ∧ Q (cV (s.byte).toNat) H
theorem sc_rwc : FnScope ["sign"] ["sign"] (defScope s_row_character) := ⟨rfl, rfl, rfl, by decide +kernel, rfl, by decide +kernel, by decide +kernel⟩
theorem num_pos (s : Quire.Sign) : 1 ≤ s.num := by cases s <;> decide
theorem ok_rwc (T : Txt K mg a) (d : Df K mg "row_character" s_row_character ["sign"]) : Ok P w K mg base CX0 1 "row_character" ["sign"] spRwC := by
  refine d.ok fun f fd F => ?_
  refine F.ok sc_rwc (fun vs H Q E h => ?_) (fun cdv A outer s H vs Q E hr h => ?_)
  · obtain ⟨x, rfl, _⟩ := h
    rfl
  · obtain ⟨s, rfl, q⟩ := h
    refine ⟨_, pss_one (ps_ret (pe_ix ix_tup (pe_gr T.rs) (pe_op op_sub (pv 0) pe_int) (fun _ _ => rfl))), ?_⟩
    have := num_pos s
    exact ⟨_, rfl, _, _, rfl, rfl, a.rs, _, _, _, rfl, rfl, T.rsS _, at_of (j := s.num - 1) (by omega) (by rw [List.getElem?_map, rows_char]; rfl), q⟩
def spWSig (K : PySem.W.Frag) : Sp := fun vs H Q _ => ∃ (x : Addr) (sg : Quire.Sig), vs = [.ref x] ∧ H x = some (sgT sg) ∧ sg.ok = true ∧ ∀ H' l, Same H H' → H l = none → H' l = some (.lst (sg.text.map cV)) → Q (.ref l) H'
theorem sc_wsig : FnScope ["signature", "text"] ["signature"] (defScope s_write_signature) := ⟨rfl, rfl, rfl, by decide +kernel, rfl, by decide +kernel, by decide +kernel⟩
theorem ok_wsig (T : Txt K mg a) (ON : Ok P w K mg base CX0 1 "write_number" ["number", "digits"] (spNum K)) (OC : Ok P w K mg base CX0 1 "signature_character" ["sign"] spSgC) (d : Df K mg "write_signature" s_write_signature ["signature"]) : Ok P w K mg base CX0 2 "write_signature" ["signature"] (spWSig K) := by
  refine d.ok fun f fd F => ?_
  refine F.ok sc_wsig (fun vs H Q E h => ?_) (fun cdv A outer s H vs Q E hr h => ?_)
  · obtain ⟨x, _, rfl, _⟩ := h
    rfl
  · obtain ⟨x, sg, rfl, hx, hok, q⟩ := h
    refine ⟨_, pss_cons (ps_set (i := 1) sc_wsig.nd rfl (Or.inl rfl) (pe_lst pa_nil))
      (pss_cut (ps_if (pt_cmpR op_gt (pe_ix ix_tup (pv 0) pe_int (fun _ _ => rfl)) pe_int (nomark _))
        (pss_one (ps_expr (pe_bm PySem.F.plainAttrs_list PySem.F.slot_list_extend PySem.F.type_list_extend mt_extend (pv 1) (pa_cons (pe_f ON hr pass0 (pa_cons (pe_ix ix_tup (pv 0) pe_int (fun _ _ => rfl)) (pa_cons (pe_gr T.dg) pa_nil))) pa_nil)))) pss_nil)
      (pss_cons (ps_expr (pe_bm PySem.F.plainAttrs_list PySem.F.slot_list_append PySem.F.type_list_append mt_append (pv 1) (pa_cons (pe_f OC hr pass0 (pa_cons (pe_ix ix_tup (pv 0) pe_int (fun _ _ => rfl)) pa_nil)) pa_nil)))
      (pss_one (ps_ret (pv 1))))), ?_⟩
    obtain ⟨h50, h1, h99⟩ := sign_lt hok
    refine ⟨Nat.zero_le _, fun l hl => ?_⟩
    have s1 : Same H (upd H l (.lst [])) := Same.new hl
    have hl1 : upd H l (.lst []) l = some (.lst []) := upd_same
    generalize upd H l (.lst []) = H1 at s1 hl1
    refine ⟨fun σ H2 => ∃ tx : List Nat, σ = [some (.ref x), some (.ref l)] ∧ Same H H2 ∧ H2 l = some (.lst (tx.map cV)) ∧ tx.length ≤ 2 ∧ tx ++ [Quire.signChars.getD sg.sign 0] = sg.text, ?_, ?_⟩
    · refine ⟨_, rfl, x, _, _, _, rfl, rfl, SqT.of (s1 _ _ hx), atI_nat (j := 1) rfl, _, _, rfl, rfl, _, rfl, ?_⟩
      refine ite2 (fun e => ?_) fun e => ?_
      · have h2 : 1 < sg.times := by have := of_decide_eq_true e; omega
        refine ⟨_, rfl, .inl ⟨rfl, _, SqL.of hl1⟩, _, rfl, x, _, _, _, rfl, rfl, SqT.of (s1 _ _ hx), atI_nat (j := 1) rfl, sg.times, a.dg, digitsL, rfl, T.dgS, rfl, by omega, fun H2 b s2 nb hb => ?_⟩
        rw [dec_digs _ (by omega)] at hb
        have := dec_len (n := sg.times) (by omega)
        refine ⟨l, b, _, _, rfl, rfl, s2 _ _ hl1, hb, ?_, Quire.decimal sg.times, rfl, fun c o hc => ?_, ?_, this, ?_⟩
        · rw [List.length_map, List.length_nil]; exact Nat.le_trans (show _ ≤ 2 by omega) (by decide)
        · rw [upd_ne (ne_of_none hc hl)]; exact s2 _ _ (s1 _ _ hc)
        · rw [upd_same]; rfl
        · unfold Quire.Sig.text; rw [if_neg (by omega)]
      · have h2 : sg.times = 1 := by
          have : ¬ (1 : Int) < (sg.times : Nat) := fun z => e (decide_eq_true z)
          omega
        refine ⟨[], rfl, s1, hl1, by simp, ?_⟩
        unfold Quire.Sig.text; rw [if_pos h2]
    · rintro σ H2 ⟨tx, rfl, s2, h2, htl, htx⟩
      refine ⟨_, rfl, .inl ⟨rfl, _, SqL.of h2⟩, _, rfl, x, _, _, _, rfl, rfl, SqT.of (s2 _ _ hx), atI_nat (j := 0) rfl, sg.sign, rfl, h50, l, _, _, rfl, rfl, h2, ?_, ?_⟩
      · rw [List.length_map]; exact Nat.lt_of_le_of_lt htl (by decide)
      · refine ⟨_, rfl, q _ l (fun c o hc => ?_) hl ?_⟩
        · rw [upd_ne (ne_of_none hc hl)]; exact s2 _ _ hc
        · rw [upd_same, ← htx, List.map_append]; rfl
def rowText (wd : Quire.Word) : List Nat := if Quire.counted wd = true then Quire.decimal wd.length else Quire.LANGLE :: (Quire.wordText wd ++ [Quire.RANGLE])
def spWRow (K : PySem.W.Frag) : Sp := fun vs H Q _ => ∃ (p : Addr) (wd : Quire.Word), vs = [.ref p] ∧ SqL K H p ((Quire.nums wd).map cV) ∧ wd.length ≤ 21 ∧ ∀ H' l, Same H H' → H l = none → H' l = some (.lst ((rowText wd).map cV)) → Q (.ref l) H'
theorem sc_wrow : FnScope ["row", "sign"] ["row"] (defScope s_write_row) := ⟨rfl, rfl, rfl, by decide +kernel, rfl, by decide +kernel, by decide +kernel⟩
theorem ok_wrow (T : Txt K mg a) (OI : Ok P w K mg base CX0 2 "is_counted" ["row"] (spCounted K)) (ON : Ok P w K mg base CX0 1 "write_number" ["number", "digits"] (spNum K)) (OC : Ok P w K mg base CX0 1 "row_character" ["sign"] spRwC) (d : Df K mg "write_row" s_write_row ["row"]) : Ok P w K mg base CX0 3 "write_row" ["row"] (spWRow K) := by
  refine d.ok fun f fd F => ?_
  refine F.ok sc_wrow (fun vs H Q E h => ?_) (fun cdv A outer s H vs Q E hr h => ?_)
  · obtain ⟨x, _, rfl, _⟩ := h
    rfl
  · obtain ⟨p, wd, rfl, hS, hwl, q⟩ := h
    refine ⟨_, pss_cons (ps_if (pt_val (pe_f OI hr pass0 (pa_cons (pv 0) pa_nil))) (pss_one (ps_ret (pe_f ON hr pass0 (pa_cons (pe_callB call_len_seq (by rfl) T.len PySem.boot_len (pa_cons (pv 0) pa_nil)) (pa_cons (pe_gr T.dg) pa_nil))))) pss_nil)
      (pss_one (ps_ret (pe_op op_cat (pe_op op_cat (pe_lst (pa_cons (pe_gi T.ANGLE_OPEN) pa_nil)) (pe_lc (own := [("sign", 1)]) rfl sc_wrow.nd (pi_list (pv 0)) (blkOk_by (by rfl))
        (fun _ _ _ _ _ => pg_name (i := 1) sc_wrow.nd rfl (Or.inl rfl)) (fun _ _ _ _ _ => pts_nil) (fun _ _ _ _ _ => pe_f OC hr pass0 (pa_cons (pv 1) pa_nil)))) (pe_lst (pa_cons (pe_gi T.ANGLE_CLOSE) pa_nil))))), ?_⟩
    have hl : ((Quire.nums wd).map cV).length = wd.length := by rw [List.length_map, nums_len]
    refine ⟨_, rfl, p, Quire.nums wd, rfl, hS, by rw [nums_len]; omega, fun H1 s1 => ⟨_, rfl, ?_⟩⟩
    have ec : cntN (Quire.nums wd) = Quire.counted wd := cntN_eq wd
    rw [ec]
    refine ite2 (fun e => ?_) fun e => ?_
    · refine ⟨_, rfl, p, _, rfl, .inl (s1.seq hS), ?_⟩
      refine ⟨wd.length, a.dg, digitsL, by rw [hl]; rfl, T.dgS, rfl, by omega, fun H2 l s2 nl h2 => ?_⟩
      rw [dec_digs _ (by omega)] at h2
      refine q H2 l (s1.trans s2) ?_ ?_
      · cases z : H l with
        | none => rfl
        | some o => rw [s1 _ _ z] at nl; cases nl
      · unfold rowText; rw [if_pos e]; exact h2
    · refine ⟨by show 1 ≤ sizeLine; decide, fun o1 ho1 => ?_⟩
      have s2 := s1.trans (Same.new (o := .lst [.int 10216]) ho1)
      have h2 : upd H1 o1 (.lst [.int 10216]) o1 = some (.lst [.int 10216]) := upd_same
      generalize upd H1 o1 (.lst [.int 10216]) = H2 at s2 h2
      refine ⟨_, rfl, p, rfl, ⟨_, s2.seq hS⟩, fun D hD => ?_⟩
      have hDo : D ≠ o1 := fun z => by rw [z, h2] at hD; cases hD
      refine lc_list (K := K) (a := p) (xs := (Quire.nums wd).map cV) (fun i H' => Same H2 H' ∧ H' D = some (.lst (((wd.take i).map fun s => (s.byte).toNat).map cV))) ⟨Same.new hD, upd_same⟩ (fun i H' _ ⟨s3, _⟩ => s3.seq (s2.seq hS)) ?_ ?_
      · rintro i y H' hi ⟨s3, h3⟩
        have hil : i < wd.length := by have := (List.getElem?_eq_some_iff.mp hi).1; rw [hl] at this; exact this
        have hg : wd[i]? = some wd[i] := List.getElem?_eq_getElem hil
        have ey : y = cV wd[i].num := by
          unfold Quire.nums at hi
          rw [List.getElem?_map, List.getElem?_map, hg] at hi
          exact (Option.some.inj hi).symm
        subst ey
        refine ⟨rfl, ?_⟩
        unfold tYes
        refine iteT ?_
        refine ⟨_, rfl, wd[i], rfl, _, h3, ?_, fun b o hb => ?_, ?_⟩
        · rw [List.length_map, List.length_map, List.length_take]
          exact Nat.lt_of_le_of_lt (show _ ≤ 21 by omega) (by decide)
        · rw [upd_ne (ne_of_none hb hD)]; exact s3 _ _ hb
        · rw [upd_same, List.take_succ, hg, List.map_append, List.map_append]; rfl
      · rintro H3 ⟨s3, h3⟩
        rw [hl, List.take_length] at h3
        refine ⟨o1, D, _, _, rfl, rfl, s3 _ _ h2, h3, ?_, fun c hc => ?_⟩
        · rw [List.length_map, List.length_map]
          exact Nat.le_trans (show _ ≤ 22 by rw [List.length_singleton]; omega) (by decide)
        have s4 := (s2.trans s3).trans (Same.new (o := .lst ([.int 10216] ++ ((wd.map fun s => (s.byte).toNat).map cV))) hc)
        have h4 : upd H3 c (.lst ([.int 10216] ++ ((wd.map fun s => (s.byte).toNat).map cV))) c = some (.lst ([.int 10216] ++ ((wd.map fun s => (s.byte).toNat).map cV))) := upd_same
        generalize upd H3 c (.lst ([.int 10216] ++ ((wd.map fun s => (s.byte).toNat).map cV))) = H4 at s4 h4
        refine ⟨by show 1 ≤ sizeLine; decide, fun o2 ho2 => ?_⟩
        have hco : c ≠ o2 := fun z => by rw [z, ho2] at h4; cases h4
        have s5 := s4.trans (Same.new (o := .lst [.int 10217]) ho2)
        refine ⟨c, o2, _, _, rfl, rfl, by rw [upd_ne hco]; exact h4, upd_same, ?_, fun l hl5 => ?_⟩
        · rw [List.length_append, List.length_map, List.length_map]
          exact Nat.le_trans (show _ ≤ 23 by rw [List.length_singleton, List.length_singleton]; omega) (by decide)
        · refine q _ l (s5.trans (Same.new hl5)) ?_ ?_
          · cases z : H l with
            | none => rfl
            | some o => rw [s5 _ _ z] at hl5; cases hl5
          · rw [upd_same]
            unfold rowText
            rw [if_neg e, wordText_eq, List.map_cons, List.map_append]; rfl
end
theorem NAll.get {H : Hp} : ∀ {xs : List Addr} {ns : List (List Nat)} {i : Nat} {n : List Nat}, NAll H xs ns → ns[i]? = some n → ∃ b, xs[i]? = some b ∧ H b = some (.lst (n.map cV))
  | [], [], i, n, _, e => by simp at e
  | x :: _, _ :: _, 0, n, h, e => by simp at e; subst e; exact ⟨x, rfl, h.1⟩
  | _ :: _, _ :: _, i + 1, n, h, e => by
    obtain ⟨y, h1, h2⟩ := NAll.get (i := i) h.2 (by simpa using e)
    exact ⟨y, by simpa using h1, h2⟩
  | [], _ :: _, _, _, h, _ => h.elim
  | _ :: _, [], _, _, h, _ => h.elim
structure RowsAt (H : Hp) (D : Addr) (ws : List Addr) (ns : List (List Nat)) : Prop where
  lst : H D = some (.lst (ws.map V.ref))
  ne : ∀ b ∈ ws, b ≠ D
  all : NAll H ws ns
theorem RowsAt.same {H H' : Hp} {D : Addr} {ws : List Addr} {ns : List (List Nat)} (h : RowsAt H D ws ns) (s : Same H H') : RowsAt H' D ws ns := ⟨s _ _ h.lst, h.ne, h.all.same s⟩
theorem RowsAt.push {H : Hp} {D b : Addr} {ws : List Addr} {ns : List (List Nat)} {n : List Nat} (h : RowsAt H D ws ns) (hb : H b = some (.lst (n.map cV))) (hD : b ≠ D) : RowsAt (upd H D (.lst ((ws.map V.ref) ++ [.ref b]))) D (ws ++ [b]) (ns ++ [n]) := by
  refine ⟨by rw [upd_same, List.map_append]; rfl, fun c hc => ?_, ?_⟩
  · rcases List.mem_append.mp hc with z | z
    · exact h.ne c z
    · have : c = b := by simpa using z
      rw [this]; exact hD
  · refine NAll.snoc (by rw [upd_ne hD]; exact hb) ?_
    exact h.all.keep fun c hc n e => by rw [upd_ne (h.ne c hc)]; exact e
theorem none_of {H H' : Hp} {l : Addr} (s : Same H H') (h : H' l = none) : H l = none := by
  cases z : H l with
  | none => rfl
  | some o => rw [s _ _ z] at h; cases h
def stN (G : Quire.Gath) : Nat → Nat
  | 0 => 0
  | k + 1 => fN (G.fate k)
theorem GAt.stAt {a : Adr} {H : Hp} {x : GA} {G : Quire.Gath} (g : GAt a H x G) {i : Nat} (h : i ≤ G.size) : ((0 :: G.fates.map fN).map cV)[i]? = some (cV (stN G i)) := by
  cases i with
  | zero => rfl
  | succ k => exact g.fate (by omega)
theorem leafNotes_eq (G : Quire.Gath) (i : Nat) : leafNotes G i = (if stN G i = 1 then [Quire.MINUS :: Quire.decimal i] else []) ++ (if stN G i = 2 then [Quire.OVER :: Quire.decimal i] else []) := by
  cases i with
  | zero => rfl
  | succ k =>
    show G.leafNote k = (if fN (G.fate k) = 1 then _ else _) ++ (if fN (G.fate k) = 2 then _ else _)
    unfold Quire.Gath.leafNote
    cases G.fate k <;> rfl
theorem gapNote_eq (G : Quire.Gath) (i : Nat) : G.gapNote i = if (G.put i).isEmpty = true then [] else [Quire.decimal i ++ Quire.PLUS :: rowText (G.put i)] := rfl
theorem rowText_len {wd : Quire.Word} (h : wd.length ≤ 21) : (rowText wd).length ≤ 23 := by
  unfold rowText
  split
  · exact Nat.le_trans (dec_len (by omega)) (by decide)
  · rw [List.length_cons, List.length_append, wordText_eq, List.length_map, List.length_singleton]; omega
theorem notes_len {a : Adr} {H : Hp} {x : GA} {G : Quire.Gath} (g : GAt a H x G) : ∀ i, i ≤ G.size + 1 → (notesN G i).length ≤ 2 * i ∧ ∀ t ∈ notesN G i, t.length ≤ 30
  | 0, _ => ⟨by simp [notesN], fun t ht => by simp [notesN] at ht⟩
  | i + 1, h => by
    obtain ⟨h1, h2⟩ := notes_len g i (by omega)
    have hsz := g.sz
    have hd := dec_len (n := i) (by omega)
    have hp := rowText_len (g.put_len i)
    have hl : (leafNotes G i).length ≤ 1 ∧ ∀ t ∈ leafNotes G i, t.length ≤ 30 := by
      rw [leafNotes_eq]
      by_cases e1 : stN G i = 1
      · rw [if_pos e1, if_neg (by omega)]
        refine ⟨by simp, fun t ht => ?_⟩
        have : t = Quire.MINUS :: Quire.decimal i := by simpa using ht
        rw [this, List.length_cons]; omega
      · rw [if_neg e1]
        split
        · refine ⟨by simp, fun t ht => ?_⟩
          have : t = Quire.OVER :: Quire.decimal i := by simpa using ht
          rw [this, List.length_cons]; omega
        · exact ⟨by simp, fun t ht => by simp at ht⟩
    have hg : (G.gapNote i).length ≤ 1 ∧ ∀ t ∈ G.gapNote i, t.length ≤ 30 := by
      rw [gapNote_eq]
      split
      · exact ⟨by simp, fun t ht => by simp at ht⟩
      · refine ⟨by simp, fun t ht => ?_⟩
        have : t = Quire.decimal i ++ Quire.PLUS :: rowText (G.put i) := by simpa using ht
        rw [this, List.length_append, List.length_cons]; omega
    rw [notesN]
    refine ⟨by rw [List.length_append, List.length_append]; omega, fun t ht => ?_⟩
    rcases List.mem_append.mp ht with z | z
    · exact h2 t z
    · rcases List.mem_append.mp z with z | z
      · exact hl.2 t z
      · exact hg.2 t z
section
variable {P : Program} {w : World} {K : PySem.W.Frag} {mg : Str → Option Value} {base : Heap} {a : Adr}
def spJoin (K : PySem.W.Frag) : Sp := fun vs H Q _ => ∃ (D B : Addr) (ws : List Addr) (ns : List (List Nat)) (x : List Nat), vs = [.ref D, .ref B] ∧ RowsAt H D ws ns ∧ H B = some (.lst (x.map cV)) ∧ x.length ≤ 2 ∧ ns.length ≤ 100 ∧ (∀ t ∈ ns, t.length ≤ 5000) ∧
  ∀ H' l, Same H H' → H l = none → H' l = some (.lst ((Quire.joinWith x ns).map cV)) → Q (.ref l) H'
theorem sc_join : FnScope ["texts", "between", "joined", "k"] ["texts", "between"] (defScope s_join_texts) := ⟨rfl, rfl, rfl, by decide +kernel, rfl, by decide +kernel, by decide +kernel⟩
theorem ok_join (T : Txt K mg a) (d : Df K mg "join_texts" s_join_texts ["texts", "between"]) : Ok P w K mg base CX0 1 "join_texts" ["texts", "between"] (spJoin K) := by
  refine d.ok fun f fd F => ?_
  refine F.ok sc_join (fun vs H Q E h => ?_) (fun cdv A outer s H vs Q E hr h => ?_)
  · obtain ⟨x, _, _, _, _, rfl, _⟩ := h
    rfl
  · obtain ⟨D, B, ws, ns, x, rfl, hD, hB, hx, hns, ht, q⟩ := h
    refine ⟨_, pss_cons (ps_set (i := 2) sc_join.nd rfl (Or.inl rfl) (pe_lst pa_nil))
      (pss_cons (ps_for PassesOwn.never rfl (pi_range1 rfl T.range (pa_cons (pe_callB call_len_seq (by rfl) T.len PySem.boot_len (pa_cons (pv 0) pa_nil)) pa_nil)) (pg_name (i := 3) sc_join.nd rfl (Or.inl rfl))
        (pss_cut (ps_if (pt_cmpR op_gt (pv 3) pe_int (nomark _)) (pss_one (ps_expr (pe_bm PySem.F.plainAttrs_list PySem.F.slot_list_extend PySem.F.type_list_extend mt_extend (pv 2) (pa_cons (pv 1) pa_nil)))) pss_nil)
        (pss_one (ps_expr (pe_bm PySem.F.plainAttrs_list PySem.F.slot_list_extend PySem.F.type_list_extend mt_extend (pv 2) (pa_cons (pe_ix ix_list (pv 0) (pv 3) (fun _ _ => rfl)) pa_nil))))))
      (pss_one (ps_ret (pv 2)))), ?_⟩
    refine ⟨Nat.zero_le _, fun l hl => ?_⟩
    have s1 : Same H (upd H l (.lst [])) := Same.new hl
    have hl1 : upd H l (.lst []) l = some (.lst []) := upd_same
    generalize upd H l (.lst []) = H1 at s1 hl1
    have hwl : (ws.map V.ref).length = ns.length := by rw [List.length_map, hD.all.len]
    have jl : ∀ i, (Quire.joinWith x (ns.take i)).length ≤ 500200 := fun i => by
      have h1 := join_len x 5002 (ns.take i) fun t h => by have := ht t (List.mem_of_mem_take h); omega
      have h2 : (ns.take i).length ≤ 100 := Nat.le_trans (List.length_take_le' _ _) hns
      exact Nat.le_trans h1 (Nat.mul_le_mul_right 5002 h2)
    refine ⟨_, rfl, D, _, rfl, .inl (SqL.of (s1 _ _ hD.lst)), _, rfl, by rw [hwl]; omega, by rw [hwl]; omega, ?_⟩
    rw [hwl]
    refine for_range (n := ns.length) (fun i σ H' => ∃ v, σ = [some (.ref D), some (.ref B), some (.ref l), v] ∧ Same H H' ∧ H' l = some (.lst ((Quire.joinWith x (ns.take i)).map cV))) ⟨none, rfl, s1, hl1⟩ ?_ ?_
    · rintro i σ H2 hi ⟨v, rfl, s2, h2⟩
      have hg : ns[i]? = some ns[i] := List.getElem?_eq_getElem hi
      have ei : (0 : Int) + (i : Nat) = ((i : Nat) : Int) := by omega
      obtain ⟨b, hb1, hb2⟩ := hD.all.get hg
      refine ⟨fun σ H3 => σ = [some (.ref D), some (.ref B), some (.ref l), some (.int (0 + (i : Nat)))] ∧ Same H H3 ∧ H3 l = some (.lst ((if 0 < i then Quire.joinWith x (ns.take i) ++ x else Quire.joinWith x (ns.take i)).map cV)), ?_, ?_⟩
      · refine ⟨_, rfl, _, _, rfl, rfl, _, rfl, ?_⟩
        refine ite2 (fun e => ?_) fun e => ?_
        · have h0 : 0 < i := by have := of_decide_eq_true e; omega
          refine ⟨_, rfl, .inl ⟨rfl, _, SqL.of h2⟩, _, rfl, l, B, _, _, rfl, rfl, h2, s2 _ _ hB, ?_, rfl, fun c o hc => ?_, ?_⟩
          · rw [List.length_map, List.length_map]
            exact Nat.le_trans (show _ ≤ 500202 by have := jl i; omega) (by decide)
          · rw [upd_ne (ne_of_none hc hl)]; exact s2 _ _ hc
          · rw [upd_same, if_pos h0, List.map_append]
        · have h0 : ¬ 0 < i := fun z => e (decide_eq_true (by omega))
          exact ⟨rfl, s2, by rw [if_neg h0]; exact h2⟩
      · rintro σ H3 ⟨rfl, s3, h3⟩
        have hat : atI (ws.map V.ref) (0 + (i : Nat)) = some (V.ref b) := at_of ei (by rw [List.getElem?_map, hb1]; rfl)
        refine ⟨_, rfl, .inl ⟨rfl, _, SqL.of h3⟩, _, rfl, _, rfl, D, _, _, _, rfl, rfl, SqL.of (s3 _ _ hD.lst), hat, l, b, _, _, rfl, rfl, h3, s3 _ _ hb2, ?_, ?_⟩
        · have h5 := ht _ (List.getElem_mem hi)
          have h6 := jl i
          rw [List.length_map, List.length_map]
          refine Nat.le_trans (show _ ≤ 600000 by split <;> (try rw [List.length_append]) <;> omega) (by decide)
        · refine ⟨_, rfl, fun c o hc => ?_, ?_⟩
          · rw [upd_ne (ne_of_none hc hl)]; exact s3 _ _ hc
          · rw [upd_same, join_take hg, List.map_append]
    · rintro σ H2 ⟨v, rfl, s2, h2⟩
      rw [List.take_length] at h2
      exact ⟨_, rfl, q H2 l s2 hl h2⟩
def spWNotes (a : Adr) : Sp := fun vs H Q _ => ∃ (x : GA) (G : Quire.Gath), vs = [.ref x.g] ∧ GAt a H x G ∧ ∀ H' D ws, Same H H' → RowsAt H' D ws G.notes → Q (.ref D) H'
theorem sc_wnotes : FnScope ["gathering", "notes", "k"] ["gathering"] (defScope s_write_notes) := ⟨rfl, rfl, rfl, by decide +kernel, rfl, by decide +kernel, by decide +kernel⟩
theorem ok_wnotes (T : Txt K mg a) (ON : Ok P w K mg base CX0 1 "write_number" ["number", "digits"] (spNum K)) (OR : Ok P w K mg base CX0 3 "write_row" ["row"] (spWRow K)) (d : Df K mg "write_notes" s_write_notes ["gathering"]) : Ok P w K mg base CX0 4 "write_notes" ["gathering"] (spWNotes a) := by
  refine d.ok fun f fd F => ?_
  refine F.ok sc_wnotes (fun vs H Q E h => ?_) (fun cdv A outer s H vs Q E hr h => ?_)
  · obtain ⟨x, _, rfl, _⟩ := h
    rfl
  · obtain ⟨x, G, rfl, g, q⟩ := h
    refine ⟨_, pss_cons (ps_set (i := 1) sc_wnotes.nd rfl (Or.inl rfl) (pe_lst pa_nil))
      (pss_cons (ps_for PassesOwn.never rfl (pi_range1 rfl T.range (pa_cons (pe_op op_add (pe_fld (pv 0) rfl) pe_int) pa_nil)) (pg_name (i := 2) sc_wnotes.nd rfl (Or.inl rfl))
        (pss_cut (ps_if (pt_cmpR op_eq (pe_ix ix_list (pe_fld (pv 0) rfl) (pv 2) (fun _ _ => rfl)) (pe_gi T.LOST) (nomark _))
          (pss_one (ps_expr (pe_bm PySem.F.plainAttrs_list PySem.F.slot_list_append PySem.F.type_list_append mt_append (pv 1) (pa_cons (pe_op op_cat (pe_lst (pa_cons (pe_gi T.MINUS) pa_nil)) (pe_f ON hr pass0 (pa_cons (pv 2) (pa_cons (pe_gr T.dg) pa_nil)))) pa_nil)))) pss_nil)
        (pss_cut (ps_if (pt_cmpR op_eq (pe_ix ix_list (pe_fld (pv 0) rfl) (pv 2) (fun _ _ => rfl)) (pe_gi T.CUT) (nomark _))
          (pss_one (ps_expr (pe_bm PySem.F.plainAttrs_list PySem.F.slot_list_append PySem.F.type_list_append mt_append (pv 1) (pa_cons (pe_op op_cat (pe_lst (pa_cons (pe_gi T.DIVIDED) pa_nil)) (pe_f ON hr pass0 (pa_cons (pv 2) (pa_cons (pe_gr T.dg) pa_nil)))) pa_nil)))) pss_nil)
        (pss_one (ps_if (pt_cmpR (op_neD hr.units) (pe_ix ix_list (pe_fld (pv 0) rfl) (pv 2) (fun _ _ => rfl)) (pe_lst pa_nil) (nomark _))
          (pss_one (ps_expr (pe_bm PySem.F.plainAttrs_list PySem.F.slot_list_append PySem.F.type_list_append mt_append (pv 1) (pa_cons (pe_op op_cat (pe_op op_cat (pe_f ON hr pass0 (pa_cons (pv 2) (pa_cons (pe_gr T.dg) pa_nil))) (pe_lst (pa_cons (pe_gi T.PLUS) pa_nil))) (pe_f OR hr pass0 (pa_cons (pe_ix ix_list (pe_fld (pv 0) rfl) (pv 2) (fun _ _ => rfl)) pa_nil))) pa_nil)))) pss_nil)))))
      (pss_one (ps_ret (pv 1)))), ?_⟩
    have hsz := g.sz
    refine ⟨Nat.zero_le _, fun D hDn => ?_⟩
    have s1 : Same H (upd H D (.lst [])) := Same.new hDn
    have R1 : RowsAt (upd H D (.lst [])) D [] [] := ⟨upd_same, fun b hb => absurd hb (by simp), trivial⟩
    generalize upd H D (.lst []) = H1 at s1 R1
    obtain ⟨dx, ho⟩ := g.obj
    refine ⟨_, rfl, x.g, a.CG, dx, _, _, rfl, s1 _ _ ho, T.clG, T.nGz, gf_size, _, _, rfl, rfl, _, rfl, by omega, by omega, ?_⟩
    rw [show ((G.size : Int) + 1).toNat = G.size + 1 by omega]
    have keep : ∀ {H2 H3 : Hp} {o : HO}, Same H H2 → Same H2 H3 → Same H (upd H3 D o) := fun s2 s3 c o' hc => by rw [upd_ne (ne_of_none hc hDn)]; exact s3 _ _ (s2 _ _ hc)
    refine for_range (n := G.size + 1) (fun i σ H' => ∃ v ws, σ = [some (.ref x.g), some (.ref D), v] ∧ Same H H' ∧ RowsAt H' D ws (notesN G i)) ⟨none, [], rfl, s1, R1⟩ ?_ ?_
    · rintro i σ H2 hi ⟨v, ws, rfl, s2, R2⟩
      have ei : (0 : Int) + (i : Nat) = ((i : Nat) : Int) := by omega
      have hnl := notes_len g i (by omega)
      have hst := at_of ei (g.stAt (i := i) (by omega))
      have i100 : i < 100 := by omega
      have app : ∀ {H3 : Hp} {ws : List Addr} {ns : List (List Nat)} {n : List Nat} {b : Addr}, Same H H3 → RowsAt H3 D ws ns → ns.length ≤ 100 → H3 b = some (.lst (n.map cV)) → b ≠ D → ∀ R : L2.St → Hp → Prop, (∀ ws' H4, Same H H4 → RowsAt H4 D ws' (ns ++ [n]) → R [some (.ref x.g), some (.ref D), some (.int (0 + (i : Nat)))] H4) →
          rAppend (V.ref D) [V.ref b] H3 (fun _ H' => R [some (.ref x.g), some (.ref D), some (.int (0 + (i : Nat)))] H') := by
        intro H3 ws ns n b s3 R3 hl hb hbD R hR
        refine ⟨D, _, _, rfl, rfl, R3.lst, ?_, hR _ _ (keep s3 (Same.refl _)) (R3.push hb hbD)⟩
        rw [List.length_map, R3.all.len]
        exact Nat.lt_of_le_of_lt hl (by decide)
      have two : ∀ (c : Nat) {H3 : Hp} {ws : List Addr} {ns : List (List Nat)}, Same H H3 → RowsAt H3 D ws ns → ns.length ≤ 99 → ∀ R : L2.St → Hp → Prop, (∀ ws' H4, Same H H4 → RowsAt H4 D ws' (ns ++ [c :: Quire.decimal i]) → R [some (.ref x.g), some (.ref D), some (.int (0 + (i : Nat)))] H4) →
          tBM K "list" rAppend (tVar 1) (tCons (tOp rCat (tLst (tCons (tC (.int (c : Nat))) tNil)) (tCall (spNum K) [] E0 (tCons (tVar 2) (tCons (tC (.ref a.dg)) tNil)))) tNil) [some (.ref x.g), some (.ref D), some (.int (0 + (i : Nat)))] H3 (fun _ H' => R [some (.ref x.g), some (.ref D), some (.int (0 + (i : Nat)))] H') := by
        intro c H3 ws ns s3 R3 hl R hR
        refine ⟨_, rfl, .inl ⟨rfl, _, SqL.of R3.lst⟩, by show 1 ≤ sizeLine; decide, fun o1 ho1 => ?_⟩
        have s4 : Same H3 (upd H3 o1 (.lst [.int (c : Nat)])) := Same.new ho1
        have h4 : upd H3 o1 (.lst [.int (c : Nat)]) o1 = some (.lst ([c].map cV)) := upd_same
        generalize upd H3 o1 (.lst [.int (c : Nat)]) = H4 at s4 h4
        refine ⟨_, rfl, i, a.dg, digitsL, by rw [ei]; rfl, T.dgS, rfl, i100, fun H5 b s5 nb hb => ?_⟩
        rw [dec_digs _ i100] at hb
        have hd := dec_len i100
        refine ⟨o1, b, _, _, rfl, rfl, s5 _ _ h4, hb, ?_, fun p hp => ?_⟩
        · rw [List.length_map, List.length_map]
          exact Nat.le_trans (show _ ≤ 3 by rw [List.length_singleton]; omega) (by decide)
        have s6 : Same H5 (upd H5 p (.lst ([c].map cV ++ (Quire.decimal i).map cV))) := Same.new hp
        have h6 : upd H5 p (.lst ([c].map cV ++ (Quire.decimal i).map cV)) p = some (.lst ((c :: Quire.decimal i).map cV)) := upd_same
        have s36 := (s4.trans s5).trans s6
        have hpD : p ≠ D := fun z => by rw [z, (s4.trans s5) _ _ R3.lst] at hp; cases hp
        exact app (s3.trans s36) (R3.same s36) (by omega) h6 hpD R hR
      obtain ⟨dx2, ho2⟩ := (g.same s2).obj
      refine ⟨fun σ H3 => ∃ ws, σ = [some (.ref x.g), some (.ref D), some (.int (0 + (i : Nat)))] ∧ Same H H3 ∧ RowsAt H3 D ws (notesN G i ++ if stN G i = 1 then [Quire.MINUS :: Quire.decimal i] else []), ?_, ?_⟩
      · refine ⟨_, rfl, x.g, a.CG, dx2, _, _, rfl, ho2, T.clG, T.nGt, gf_states, _, rfl, x.st, _, _, _, rfl, rfl, SqL.of (g.same s2).st, hst, rfl, _, rfl, ?_⟩
        by_cases e : stN G i = 1
        · refine (if_pos (by rw [e]; rfl)).mpr ?_
          rw [if_pos e]
          exact two Quire.MINUS s2 R2 (by omega) _ fun ws' H4 s4 R4 => ⟨ws', rfl, s4, R4⟩
        · refine (if_neg (by simp [cV]; omega)).mpr ?_
          rw [if_neg e, List.append_nil]
          exact ⟨ws, rfl, s2, R2⟩
      rintro σ H3 ⟨ws3, rfl, s3, R3⟩
      have hl3 : (notesN G i ++ if stN G i = 1 then [Quire.MINUS :: Quire.decimal i] else []).length ≤ 80 := by
        rw [List.length_append]; split <;> simp <;> omega
      obtain ⟨dx3, ho3⟩ := (g.same s3).obj
      refine ⟨fun σ H4 => ∃ ws, σ = [some (.ref x.g), some (.ref D), some (.int (0 + (i : Nat)))] ∧ Same H H4 ∧ RowsAt H4 D ws (notesN G i ++ leafNotes G i), ?_, ?_⟩
      · refine ⟨_, rfl, x.g, a.CG, dx3, _, _, rfl, ho3, T.clG, T.nGt, gf_states, _, rfl, x.st, _, _, _, rfl, rfl, SqL.of (g.same s3).st, hst, rfl, _, rfl, ?_⟩
        rw [leafNotes_eq, ← List.append_assoc]
        by_cases e : stN G i = 2
        · refine (if_pos (by rw [e]; rfl)).mpr ?_
          rw [if_pos e]
          exact two Quire.OVER s3 R3 (by omega) _ fun ws' H4 s4 R4 => ⟨ws', rfl, s4, R4⟩
        · refine (if_neg (by simp [cV]; omega)).mpr ?_
          rw [if_neg e, List.append_nil]
          exact ⟨ws3, rfl, s3, R3⟩
      rintro σ H4 ⟨ws4, rfl, s4, R4⟩
      have hl4 : (notesN G i ++ leafNotes G i).length ≤ 90 := by
        rw [leafNotes_eq, List.length_append, List.length_append]; split <;> split <;> simp <;> omega
      have g4 := g.same s4
      obtain ⟨dx4, ho4⟩ := g4.obj
      obtain ⟨pb, hpb, hpb2, hpl⟩ := g4.put (k := i) (by omega)
      have hgt := at_of ei hpb
      refine ⟨_, rfl, x.g, a.CG, dx4, _, _, rfl, ho4, T.clG, T.nGg, gf_gaps, _, rfl, x.gp, _, _, _, rfl, rfl, SqL.of g4.gp, hgt, Nat.zero_le _, fun o1 ho1 => ?_⟩
      have s5 : Same H4 (upd H4 o1 (.lst [])) := Same.new ho1
      refine ⟨dL (Quire.nums (G.put i)), .list [], .lst (SqL.of (s5 _ _ hpb2)) (dp_nats _), .lst (SqL.of upd_same) .nil, shaped_list _, by decide, _, rfl, ?_⟩
      generalize upd H4 o1 (.lst []) = H5 at s5
      have ee : PyData.eqv (dL (Quire.nums (G.put i))) (.list []) = (G.put i).isEmpty := by
        rw [PyData.eqv]
        cases G.put i <;> rfl
      rw [ee]
      cases e : (G.put i).isEmpty with
      | true =>
        refine iteF ?_
        refine ⟨_, ws4, rfl, s4.trans s5, ?_⟩
        rw [notesN, gapNote_eq, if_pos e, List.append_nil]
        exact R4.same s5
      | false =>
        refine iteT ?_
        have R5 := R4.same s5
        have g5 := g4.same s5
        refine ⟨_, rfl, .inl ⟨rfl, _, SqL.of R5.lst⟩, _, rfl, i, a.dg, digitsL, by rw [ei]; rfl, T.dgS, rfl, i100, fun H6 b s6 nb hb => ?_⟩
        rw [dec_digs _ i100] at hb
        have hd := dec_len i100
        refine ⟨by show 1 ≤ sizeLine; decide, fun o2 ho2 => ?_⟩
        have hbo : b ≠ o2 := fun z => by rw [z, ho2] at hb; cases hb
        have s7 : Same H6 (upd H6 o2 (.lst [.int 43])) := Same.new ho2
        have h7 : upd H6 o2 (.lst [.int 43]) o2 = some (.lst ([43].map cV)) := upd_same
        generalize upd H6 o2 (.lst [.int 43]) = H7 at s7 h7
        refine ⟨b, o2, _, _, rfl, rfl, s7 _ _ hb, h7, ?_, fun p hp => ?_⟩
        · rw [List.length_map, List.length_map]
          exact Nat.le_trans (show _ ≤ 3 by rw [List.length_singleton]; omega) (by decide)
        have s8 : Same H7 (upd H7 p (.lst ((Quire.decimal i).map cV ++ [43].map cV))) := Same.new hp
        have h8 : upd H7 p (.lst ((Quire.decimal i).map cV ++ [43].map cV)) p = some (.lst ((Quire.decimal i).map cV ++ [43].map cV)) := upd_same
        generalize upd H7 p (.lst ((Quire.decimal i).map cV ++ [43].map cV)) = H8 at s8 h8
        have s58 := (s6.trans s7).trans s8
        have g8 := g5.same s58
        obtain ⟨dx8, ho8⟩ := g8.obj
        refine ⟨_, rfl, x.g, a.CG, dx8, _, _, rfl, ho8, T.clG, T.nGg, gf_gaps, _, rfl, x.gp, _, _, _, rfl, rfl, SqL.of g8.gp, hgt, pb, G.put i, rfl, SqL.of ((s5.trans s58) _ _ hpb2), hpl, fun H9 r s9 nr hr9 => ?_⟩
        have hrl := rowText_len hpl
        refine ⟨p, r, _, _, rfl, rfl, s9 _ _ h8, hr9, ?_, fun y hy => ?_⟩
        · rw [List.length_append, List.length_map, List.length_map, List.length_map]
          exact Nat.le_trans (show _ ≤ 30 by rw [List.length_singleton]; omega) (by decide)
        have s10 : Same H9 (upd H9 y (.lst ((Quire.decimal i).map cV ++ [43].map cV ++ (rowText (G.put i)).map cV))) := Same.new hy
        have h10 : upd H9 y (.lst ((Quire.decimal i).map cV ++ [43].map cV ++ (rowText (G.put i)).map cV)) y = some (.lst ((Quire.decimal i ++ Quire.PLUS :: rowText (G.put i)).map cV)) := by
          rw [upd_same, List.map_append, List.append_assoc]; rfl
        have s510 := (s58.trans s9).trans s10
        have hyD : y ≠ D := fun z => by rw [z, (s58.trans s9) _ _ R5.lst] at hy; cases hy
        refine app ((s4.trans s5).trans s510) (R5.same s510) (by omega) h10 hyD (fun σ H' => ∃ v ws, σ = [some (.ref x.g), some (.ref D), v] ∧ Same H H' ∧ RowsAt H' D ws (notesN G (i + 1))) fun ws' H11 s11 R11 => ⟨_, ws', rfl, s11, ?_⟩
        rw [notesN, gapNote_eq, if_neg (by rw [e]; simp), ← List.append_assoc]
        exact R11
    · rintro σ H2 ⟨v, ws, rfl, s2, R2⟩
      rw [← notes_eq] at R2
      exact ⟨_, rfl, q H2 D ws s2 R2⟩
end
theorem cut_mid (xs : List V) {i j : Nat} (h : i ≤ j) (h2 : j ≤ xs.length) : cutV xs (some (i : Int)) (some (j : Int)) = (xs.drop i).take (j - i) := by
  unfold cutV
  rw [show HT.sIx xs.length xs.length (some (j : Int)) = min j xs.length from HT.sIx_nat xs.length xs.length j, show HT.sIx xs.length 0 (some (i : Int)) = min i xs.length from HT.sIx_nat xs.length 0 i, Nat.min_eq_left h2, Nat.min_eq_left (by omega)]
theorem MAll.drop {a : Adr} {H : Hp} : ∀ (i : Nat) {xs : List GA} {m : Quire.Make}, MAll a H xs m → MAll a H (xs.drop i) (m.drop i)
  | 0, _, _, h => h
  | i + 1, [], [], h => trivial
  | i + 1, _ :: _, _ :: _, h => MAll.drop i h.2
  | _ + 1, [], _ :: _, h => h.elim
  | _ + 1, _ :: _, [], h => h.elim
theorem MAll.take {a : Adr} {H : Hp} : ∀ (i : Nat) {xs : List GA} {m : Quire.Make}, MAll a H xs m → MAll a H (xs.take i) (m.take i)
  | 0, _, _, h => by rw [List.take_zero, List.take_zero]; trivial
  | i + 1, [], [], h => trivial
  | i + 1, _ :: _, _ :: _, h => ⟨h.1, MAll.take i h.2⟩
  | _ + 1, [], _ :: _, h => h.elim
  | _ + 1, _ :: _, [], h => h.elim
theorem run_plain {g : Quire.Gath} {r : Quire.Make} (h : r.take (runN g r) ≠ []) : g.plain = true := by
  cases r with
  | nil => exact absurd rfl h
  | cons x r =>
    unfold runN at h
    split at h
    · rename_i e; unfold Quire.follows at e; rw [Bool.and_eq_true] at e; exact e.1
    · exact absurd rfl h
theorem sigText_len {s : Quire.Sig} (h : s.ok = true) : s.text.length ≤ 3 := by
  obtain ⟨_, _, h9⟩ := sign_lt h
  unfold Quire.Sig.text
  have := dec_len (n := s.times) (by omega)
  rw [List.length_append, List.length_singleton]
  split
  · simp
  · omega
theorem sizeText_len {n : Nat} (h : n < 100) : (Quire.sizeText n).length ≤ 2 := by rw [← size_digs n h, List.length_map]; exact digs_len n h
theorem notesText_len {a : Adr} {H : Hp} {x : GA} {G : Quire.Gath} (g : GAt a H x G) : (Quire.joinWith [Quire.COMMA, Quire.BLANK] G.notes).length ≤ 1400 := by
  have h1 := notes_len g (G.size + 1) (Nat.le_refl _)
  rw [← notes_eq] at h1
  have hsz := g.sz
  have h2 := join_len [Quire.COMMA, Quire.BLANK] 32 G.notes fun t ht => by have := h1.2 t ht; simp; omega
  exact Nat.le_trans h2 (Nat.le_trans (Nat.mul_le_mul_right 32 (show _ ≤ 42 by omega)) (by decide))
section
variable {P : Program} {w : World} {K : PySem.W.Frag} {mg : Str → Option Value} {base : Heap} {a : Adr}
def spEnd (a : Adr) : Sp := fun vs H Q _ => ∃ (L : Addr) (xs : List GA) (m : Quire.Make) (st : Nat) (g : Quire.Gath), vs = [.ref L, .int (st : Nat)] ∧ H L = some (.lst (refs xs)) ∧ MAll a H xs m ∧ m[st]? = some g ∧ m.length ≤ 48 ∧
  ∀ H', Same H H' → Q (.int ((st + 1 + runN g (m.drop (st + 1)) : Nat) : Int)) H'
theorem sc_end : FnScope ["gatherings", "start", "end"] ["gatherings", "start"] (defScope s_item_end) := ⟨rfl, rfl, rfl, by decide +kernel, rfl, by decide +kernel, by decide +kernel⟩
theorem ok_end (T : Txt K mg a) (OO : Ok P w K mg base CX0 2 "are_one_item" ["before", "behind"] (spOne a)) (d : Df K mg "item_end" s_item_end ["gatherings", "start"]) : Ok P w K mg base CX0 3 "item_end" ["gatherings", "start"] (spEnd a) := by
  refine d.ok fun f fd F => ?_
  refine F.ok sc_end (fun vs H Q E h => ?_) (fun cdv A outer s H vs Q E hr h => ?_)
  · obtain ⟨x, _, _, _, _, rfl, _⟩ := h
    rfl
  · obtain ⟨L, xs, m, st, g, rfl, hL, hM, hg, hm, q⟩ := h
    refine ⟨_, pss_cons (ps_set (i := 2) sc_end.nd rfl (Or.inl rfl) (pe_op op_add (pv 1) pe_int))
      (pss_cons (ps_while PassesOwn.never (pw_and (pt_cmpR op_lt (pv 2) (pe_callB call_len_seq (by rfl) T.len PySem.boot_len (pa_cons (pv 0) pa_nil)) (nomark _))
          (pw_and1 (pt_val (pe_f OO hr pass0 (pa_cons (pe_ix ix_list (pv 0) (pe_op op_sub (pv 2) pe_int) (fun _ _ => rfl)) (pa_cons (pe_ix ix_list (pv 0) (pv 2) (fun _ _ => rfl)) pa_nil)))))).pt
        (pss_one (ps_set (i := 2) sc_end.nd rfl (Or.inl rfl) (pe_op op_add (pv 2) pe_int))))
      (pss_one (ps_ret (pv 2)))), ?_⟩
    have hxl : (refs xs).length = m.length := by simp only [refs, List.length_map, hM.len]
    have hst : st < m.length := (List.getElem?_eq_some_iff.mp hg).1
    have ea : ∀ e : Nat, (e : Int) + 1 = ((e + 1 : Nat) : Int) := fun e => by omega
    refine ⟨_, rfl, _, _, rfl, rfl, ?_⟩
    refine ⟨fun k σ H' => ∃ (e : Nat) (g' : Quire.Gath), k = m.length - e ∧ σ = [some (.ref L), some (.int (st : Nat)), some (.int (e : Nat))] ∧ Same H H' ∧ 1 ≤ e ∧ e ≤ m.length ∧ m[e - 1]? = some g' ∧ st + 1 + runN g (m.drop (st + 1)) = e + runN g' (m.drop e),
      ⟨_, st + 1, g, rfl, by rw [← ea st]; rfl, Same.refl _, by omega, by omega, by simpa using hg, rfl⟩, ?_⟩
    rintro k σ H2 ⟨e, g', rfl, rfl, s2, h1, h2, hg', hrun⟩
    have hL2 := s2 _ _ hL
    have hM2 := hM.same s2
    refine ⟨_, rfl, _, rfl, L, _, rfl, .inl (SqL.of hL2), _, _, rfl, rfl, _, rfl, ?_⟩
    rw [hxl]
    have stop : ∀ H3, Same H H3 → runN g' (m.drop e) = 0 → Q (.int ((e : Nat) : Int)) H3 := fun H3 s3 h0 => by
      have z := q H3 s3
      rw [hrun, h0] at z
      exact z
    refine ite2 (fun he => ?_) fun he => ?_
    · have he : e < m.length := by have := of_decide_eq_true he; omega
      have hge : m[e]? = some m[e] := List.getElem?_eq_getElem he
      obtain ⟨x, hx, gx⟩ := hM2.get hg'
      obtain ⟨y, hy, gy⟩ := hM2.get hge
      have hdr : m.drop e = m[e] :: m.drop (e + 1) := List.drop_eq_getElem_cons he
      refine ⟨_, rfl, _, rfl, _, _, rfl, rfl, L, _, _, V.ref x.g, rfl, rfl, SqL.of hL2, at_of (j := e - 1) (by omega) (by unfold refs; rw [List.getElem?_map, hx]; rfl),
        _, rfl, _, rfl, L, _, _, V.ref y.g, rfl, rfl, SqL.of hL2, at_of rfl (by unfold refs; rw [List.getElem?_map, hy]; rfl), x, y, g', m[e], rfl, gx, gy, fun H3 s3 => ⟨_, rfl, ?_⟩⟩
      refine ite2 (fun hf => ?_) fun hf => ?_
      · refine ⟨fun σ' H' => σ' = [some (.ref L), some (.int (st : Nat)), some (.int ((e + 1 : Nat) : Int))] ∧ Same H H', ?_, ?_⟩
        · rintro σ' H' ⟨rfl, s4⟩
          refine ⟨m.length - (e + 1), by omega, e + 1, m[e], rfl, rfl, s4, by omega, by omega, by simpa using hge, ?_⟩
          rw [hrun, hdr, runN, if_pos hf]; omega
        · refine ⟨_, rfl, _, _, rfl, rfl, ?_, s2.trans s3⟩
          rw [← ea e]; rfl
      · refine ⟨_, rfl, stop H3 (s2.trans s3) ?_⟩
        rw [hdr, runN, if_neg hf]
    · have he : e = m.length := by
        have : ¬ ((e : Nat) : Int) < (m.length : Nat) := fun z => he (decide_eq_true z)
        omega
      refine iteF ⟨_, rfl, stop H2 s2 ?_⟩
      rw [he, List.drop_length]; rfl
def spWItem (a : Adr) : Sp := fun vs H Q _ => ∃ (L : Addr) (xs : List GA) (g : Quire.Gath) (r : Quire.Make), vs = [.ref L] ∧ H L = some (.lst (refs xs)) ∧ MAll a H xs (g :: r) ∧ (∀ x ∈ g :: r, x.sig.ok = true) ∧ (r ≠ [] → g.plain = true) ∧ r.length ≤ 48 ∧
  ∀ H' l, Same H H' → H l = none → H' l = some (.lst ((Quire.itemText (g :: r)).map cV)) → (Quire.itemText (g :: r)).length ≤ 2000 → Q (.ref l) H'
theorem sc_witem : FnScope ["gatherings", "text"] ["gatherings"] (defScope s_write_item) := ⟨rfl, rfl, rfl, by decide +kernel, rfl, by decide +kernel, by decide +kernel⟩
theorem ok_witem (T : Txt K mg a) (OS : Ok P w K mg base CX0 2 "write_signature" ["signature"] (spWSig K)) (ON : Ok P w K mg base CX0 1 "write_number" ["number", "digits"] (spNum K)) (OH : Ok P w K mg base CX0 1 "has_notes" ["gathering"] (spNotes a))
    (OJ : Ok P w K mg base CX0 1 "join_texts" ["texts", "between"] (spJoin K)) (OW : Ok P w K mg base CX0 4 "write_notes" ["gathering"] (spWNotes a)) (d : Df K mg "write_item" s_write_item ["gatherings"]) : Ok P w K mg base CX0 5 "write_item" ["gatherings"] (spWItem a) := by
  refine d.ok fun f fd F => ?_
  refine F.ok sc_witem (fun vs H Q E h => ?_) (fun cdv A outer s H vs Q E hr h => ?_)
  · obtain ⟨x, _, _, _, rfl, _⟩ := h
    rfl
  · obtain ⟨L, xs, g, r, rfl, hL, hM, hok, hpl, hrl, q⟩ := h
    refine ⟨_, pss_cons (ps_set (i := 1) sc_witem.nd rfl (Or.inl rfl) (pe_f OS hr pass0 (pa_cons (pe_fld (pe_ix ix_list (pv 0) pe_int (fun _ _ => rfl)) rfl) pa_nil)))
      (pss_cut (ps_if (pt_cmpR op_gt (pe_callB call_len_seq (by rfl) T.len PySem.boot_len (pa_cons (pv 0) pa_nil)) pe_int (nomark _))
        (pss_cons (ps_expr (pe_bm PySem.F.plainAttrs_list PySem.F.slot_list_append PySem.F.type_list_append mt_append (pv 1) (pa_cons (pe_gi T.DASH) pa_nil)))
        (pss_one (ps_expr (pe_bm PySem.F.plainAttrs_list PySem.F.slot_list_extend PySem.F.type_list_extend mt_extend (pv 1) (pa_cons (pe_f OS hr pass0 (pa_cons (pe_fld (pe_ix ix_list (pv 0) (pe_un un_neg pe_int) (fun _ _ => rfl)) rfl) pa_nil)) pa_nil))))) pss_nil)
      (pss_cons (ps_expr (pe_bm PySem.F.plainAttrs_list PySem.F.slot_list_extend PySem.F.type_list_extend mt_extend (pv 1) (pa_cons (pe_f ON hr pass0 (pa_cons (pe_fld (pe_ix ix_list (pv 0) pe_int (fun _ _ => rfl)) rfl) (pa_cons (pe_gr T.rd) pa_nil))) pa_nil)))
      (pss_cut (ps_if (pt_val (pe_f OH hr pass0 (pa_cons (pe_ix ix_list (pv 0) pe_int (fun _ _ => rfl)) pa_nil)))
        (pss_cons (ps_expr (pe_bm PySem.F.plainAttrs_list PySem.F.slot_list_append PySem.F.type_list_append mt_append (pv 1) (pa_cons (pe_gi T.OPEN) pa_nil)))
        (pss_cons (ps_expr (pe_bm PySem.F.plainAttrs_list PySem.F.slot_list_extend PySem.F.type_list_extend mt_extend (pv 1) (pa_cons (pe_f OJ hr pass0 (pa_cons (pe_f OW hr pass0 (pa_cons (pe_ix ix_list (pv 0) pe_int (fun _ _ => rfl)) pa_nil)) (pa_cons (pe_lst (pa_cons (pe_gi T.COMMA) (pa_cons (pe_gi T.BLANK) pa_nil))) pa_nil))) pa_nil)))
        (pss_one (ps_expr (pe_bm PySem.F.plainAttrs_list PySem.F.slot_list_append PySem.F.type_list_append mt_append (pv 1) (pa_cons (pe_gi T.CLOSE) pa_nil)))))) pss_nil)
      (pss_one (ps_ret (pv 1)))))), ?_⟩
    have hxl : (refs xs).length = r.length + 1 := by simp only [refs, List.length_map, hM.len, List.length_cons]
    obtain ⟨x0, hx0, g0⟩ := hM.get (i := 0) (G := g) rfl
    have h0 : atI (refs xs) 0 = some (V.ref x0.g) := atI_nat (j := 0) (by unfold refs; rw [List.getElem?_map, hx0]; rfl)
    obtain ⟨dx, ho⟩ := g0.obj
    have ok0 := hok g (List.mem_cons_self ..)
    have hsz := g0.sz
    have l3 := sigText_len ok0
    refine ⟨_, rfl, L, _, _, _, rfl, rfl, SqL.of hL, h0, x0.g, a.CG, dx, _, _, rfl, ho, T.clG, T.nGs, gf_sig, x0.sg, g.sig, rfl, g0.sig, ok0, fun H1 l s1 hl h1 => ?_⟩
    have keep : ∀ {H2 H3 : Hp} {o : HO}, Same H H2 → Same H2 H3 → Same H (upd H3 l o) := fun s2 s3 c o' hc => by rw [upd_ne (ne_of_none hc hl)]; exact s3 _ _ (s2 _ _ hc)
    refine ⟨fun σ H2 => ∃ tx : List Nat, σ = [some (.ref L), some (.ref l)] ∧ Same H H2 ∧ H2 l = some (.lst (tx.map cV)) ∧ tx.length ≤ 7 ∧ tx = g.sig.text ++ (if r = [] then [] else Quire.DASH :: (r.getLastD g).sig.text), ?_, ?_⟩
    · refine ⟨_, rfl, L, _, rfl, .inl (SqL.of (s1 _ _ hL)), _, _, rfl, rfl, _, rfl, ?_⟩
      rw [hxl]
      refine ite2 (fun e => ?_) fun e => ?_
      · have hr0 : r ≠ [] := by
          have := of_decide_eq_true e
          intro z; rw [z] at this; simp at this
        have hrp : 0 < r.length := List.length_pos_iff.mpr hr0
        have hlast : (g :: r)[r.length]? = some (r.getLastD g) := by
          obtain ⟨r', y, rfl⟩ : ∃ r' y, r = r' ++ [y] := ⟨r.dropLast, r.getLast hr0, (List.dropLast_concat_getLast hr0).symm⟩
          rw [List.length_append, List.length_singleton, List.getElem?_cons_succ, List.getElem?_append_right (Nat.le_refl _), Nat.sub_self]
          simp
        obtain ⟨xl, hx, gl⟩ := hM.get hlast
        have hat : atI (refs xs) (-1) = some (V.ref xl.g) := by
          unfold atI ixN
          rw [hxl, if_neg (by omega), if_pos (by omega)]
          show (refs xs)[(-1 + ((r.length + 1 : Nat) : Int)).toNat]? = _
          rw [show (-1 + ((r.length + 1 : Nat) : Int)).toNat = r.length by omega]
          unfold refs
          rw [List.getElem?_map, hx]; rfl
        obtain ⟨dl, hol⟩ := gl.obj
        have okl := hok _ (List.mem_of_getElem? hlast)
        have ll := sigText_len okl
        refine ⟨_, rfl, .inl ⟨rfl, _, SqL.of h1⟩, l, _, _, rfl, rfl, h1, ?_, ?_⟩
        · rw [List.length_map]; exact Nat.lt_of_le_of_lt l3 (by decide)
        have s2 : Same H (upd H1 l (.lst (g.sig.text.map cV ++ [.int 8211]))) := keep s1 (Same.refl _)
        have h2 : upd H1 l (.lst (g.sig.text.map cV ++ [.int 8211])) l = some (.lst ((g.sig.text ++ [8211]).map cV)) := by rw [upd_same, List.map_append]; rfl
        generalize upd H1 l (.lst (g.sig.text.map cV ++ [.int 8211])) = H2 at s2 h2
        refine ⟨_, rfl, .inl ⟨rfl, _, SqL.of h2⟩, _, rfl, _, rfl, L, _, _, _, rfl, rfl, SqL.of (s2 _ _ hL), hat, xl.g, a.CG, dl, _, _, rfl, s2 _ _ hol, T.clG, T.nGs, gf_sig, xl.sg, (r.getLastD g).sig, rfl, s2 _ _ gl.sig, okl, fun H3 b s3 nb hb => ?_⟩
        refine ⟨l, b, _, _, rfl, rfl, s3 _ _ h2, hb, ?_, g.sig.text ++ Quire.DASH :: (r.getLastD g).sig.text, rfl, keep s2 s3, ?_, ?_, by rw [if_neg hr0]⟩
        · rw [List.length_map, List.length_map, List.length_append]
          exact Nat.le_trans (show _ ≤ 7 by rw [List.length_singleton]; omega) (by decide)
        · rw [upd_same, ← List.map_append, List.append_assoc]; rfl
        · rw [List.length_append, List.length_cons]; omega
      · have hr0 : r = [] := by
          have : ¬ (1 : Int) < ((r.length + 1 : Nat) : Int) := fun z => e (decide_eq_true z)
          exact List.length_eq_zero_iff.mp (by omega)
        exact ⟨g.sig.text, rfl, s1, h1, by omega, by rw [if_pos hr0, List.append_nil]⟩
    rintro σ H2 ⟨tx, rfl, s2, h2, htl, htx⟩
    refine ⟨_, rfl, .inl ⟨rfl, _, SqL.of h2⟩, _, rfl, L, _, _, _, rfl, rfl, SqL.of (s2 _ _ hL), h0, x0.g, a.CG, dx, _, _, rfl, s2 _ _ ho, T.clG, T.nGz, gf_size, g.size, a.rd, raisedL, rfl, T.rdS, rfl, by omega, fun H3 b s3 nb hb => ?_⟩
    rw [size_digs _ (by omega)] at hb
    have ls := sizeText_len (n := g.size) (by omega)
    refine ⟨l, b, _, _, rfl, rfl, s3 _ _ h2, hb, ?_, ?_⟩
    · rw [List.length_map, List.length_map]
      exact Nat.le_trans (show _ ≤ 9 by omega) (by decide)
    have s4 : Same H (upd H3 l (.lst (tx.map cV ++ (Quire.sizeText g.size).map cV))) := keep s2 s3
    have h4 : upd H3 l (.lst (tx.map cV ++ (Quire.sizeText g.size).map cV)) l = some (.lst ((tx ++ Quire.sizeText g.size).map cV)) := by rw [upd_same, List.map_append]
    generalize upd H3 l (.lst (tx.map cV ++ (Quire.sizeText g.size).map cV)) = H4 at s4 h4
    have t9 : (tx ++ Quire.sizeText g.size).length ≤ 9 := by rw [List.length_append]; omega
    refine ⟨fun σ H5 => σ = [some (.ref L), some (.ref l)] ∧ Same H H5 ∧ H5 l = some (.lst ((Quire.itemText (g :: r)).map cV)) ∧ (Quire.itemText (g :: r)).length ≤ 2000, ?_, ?_⟩
    · refine ⟨_, rfl, L, _, _, _, rfl, rfl, SqL.of (s4 _ _ hL), h0, x0, g, rfl, g0.same s4, fun H5 s5 => ⟨_, rfl, ?_⟩⟩
      have hnp := notes_plain g0.nf g0.np
      cases e : g.plain with
      | true =>
        refine iteF ?_
        have et : tx ++ Quire.sizeText g.size = Quire.itemText (g :: r) := by
          rw [htx]
          cases r with
          | nil =>
            show (g.sig.text ++ []) ++ _ = g.sig.text ++ (Quire.sizeText g.size ++ Quire.notesText g.notes)
            unfold Quire.notesText
            rw [if_pos (by rw [hnp, e]), List.append_nil, List.append_nil]
          | cons y t =>
            rw [if_neg (by simp)]
            show _ = g.sig.text ++ (Quire.DASH :: (((y :: t).getLastD g).sig.text ++ Quire.sizeText g.size))
            simp only [List.append_assoc, List.cons_append]
        rw [et] at h4 t9
        exact ⟨rfl, s4.trans s5, s5 _ _ h4, by omega⟩
      | false =>
        refine iteT ?_
        have hr0 : r = [] := by
          cases r with
          | nil => rfl
          | cons y t => have := hpl (by simp); rw [e] at this; cases this
        subst hr0
        have h5 := s5 _ _ h4
        have s05 := s4.trans s5
        refine ⟨_, rfl, .inl ⟨rfl, _, SqL.of h5⟩, l, _, _, rfl, rfl, h5, ?_, ?_⟩
        · rw [List.length_map]; exact Nat.lt_of_le_of_lt t9 (by decide)
        have s6 : Same H (upd H5 l (.lst ((tx ++ Quire.sizeText g.size).map cV ++ [.int 40]))) := keep s05 (Same.refl _)
        have h6 : upd H5 l (.lst ((tx ++ Quire.sizeText g.size).map cV ++ [.int 40])) l = some (.lst ((tx ++ Quire.sizeText g.size ++ [40]).map cV)) := by rw [upd_same, show ([.int 40] : List V) = [40].map cV from rfl, ← List.map_append]
        generalize upd H5 l (.lst ((tx ++ Quire.sizeText g.size).map cV ++ [.int 40])) = H6 at s6 h6
        refine ⟨_, rfl, .inl ⟨rfl, _, SqL.of h6⟩, _, rfl, L, _, _, _, rfl, rfl, SqL.of (s6 _ _ hL), h0, x0, g, rfl, g0.same s6, fun H7 D ws s7 R7 => ?_⟩
        refine ⟨by show 2 ≤ sizeLine; decide, fun o1 ho1 => ?_⟩
        have s8 : Same H7 (upd H7 o1 (.lst [.int 44, .int 32])) := Same.new ho1
        have h8 : upd H7 o1 (.lst [.int 44, .int 32]) o1 = some (.lst ([Quire.COMMA, Quire.BLANK].map cV)) := upd_same
        generalize upd H7 o1 (.lst [.int 44, .int 32]) = H8 at s8 h8
        have nl := notes_len g0 (g.size + 1) (Nat.le_refl _)
        rw [← notes_eq] at nl
        refine ⟨D, o1, ws, g.notes, [Quire.COMMA, Quire.BLANK], rfl, R7.same s8, h8, by decide, by omega, fun t ht => by have := nl.2 t ht; omega, fun H9 c s9 nc hc => ?_⟩
        have jl := notesText_len g0
        have h69 := s9 _ _ (s8 _ _ (s7 _ _ h6))
        refine ⟨l, c, _, _, rfl, rfl, h69, hc, ?_, ?_⟩
        · rw [List.length_map, List.length_map, List.length_append]
          exact Nat.le_trans (show _ ≤ 1500 by rw [List.length_singleton]; omega) (by decide)
        have s10 : Same H (upd H9 l (.lst ((tx ++ Quire.sizeText g.size ++ [40]).map cV ++ (Quire.joinWith [Quire.COMMA, Quire.BLANK] g.notes).map cV))) := keep s6 ((s7.trans s8).trans s9)
        have h10 : upd H9 l (.lst ((tx ++ Quire.sizeText g.size ++ [40]).map cV ++ (Quire.joinWith [Quire.COMMA, Quire.BLANK] g.notes).map cV)) l = some (.lst ((tx ++ Quire.sizeText g.size ++ [40] ++ Quire.joinWith [Quire.COMMA, Quire.BLANK] g.notes).map cV)) := by rw [upd_same, ← List.map_append]
        generalize upd H9 l (.lst ((tx ++ Quire.sizeText g.size ++ [40]).map cV ++ (Quire.joinWith [Quire.COMMA, Quire.BLANK] g.notes).map cV)) = H10 at s10 h10
        refine ⟨_, rfl, .inl ⟨rfl, _, SqL.of h10⟩, l, _, _, rfl, rfl, h10, ?_, rfl, keep s10 (Same.refl _), ?_, ?_⟩
        · rw [List.length_map, List.length_append, List.length_append]
          exact Nat.lt_of_le_of_lt (show _ ≤ 1500 by rw [List.length_singleton]; omega) (by decide)
        · rw [upd_same]
          have et : Quire.itemText [g] = tx ++ Quire.sizeText g.size ++ [40] ++ Quire.joinWith [Quire.COMMA, Quire.BLANK] g.notes ++ [41] := by
            show g.sig.text ++ (Quire.sizeText g.size ++ Quire.notesText g.notes) = _
            unfold Quire.notesText
            rw [if_neg (by rw [hnp, e]; simp), htx, if_pos rfl, List.append_nil]
            simp only [List.append_assoc]
            rfl
          rw [et, show ([V.int 41] : List V) = [41].map cV from rfl, ← List.map_append]
        · show (g.sig.text ++ (Quire.sizeText g.size ++ Quire.notesText g.notes)).length ≤ 2000
          unfold Quire.notesText
          rw [if_neg (by rw [hnp, e]; simp), List.length_append, List.length_append, List.length_cons, List.length_append, List.length_singleton]
          omega
    rintro σ H5 ⟨rfl, s5, h5, hl5⟩
    exact ⟨_, rfl, q H5 l s5 hl h5 hl5⟩
end
section
variable {P : Program} {w : World} {K : PySem.W.Frag} {mg : Str → Option Value} {base : Heap} {a : Adr}
def spWForm (a : Adr) : Sp := fun vs H Q _ => ∃ (L : Addr) (xs : List GA) (m : Quire.Make), vs = [.ref L] ∧ H L = some (.lst (refs xs)) ∧ MAll a H xs m ∧ (∀ g ∈ m, g.sig.ok = true) ∧ m.length ≤ 48 ∧
  ∀ H' l, Same H H' → H l = none → H' l = some (.lst (m.text.map cV)) → m.text.length ≤ 600000 → Q (.ref l) H'
theorem sc_wform : FnScope ["gatherings", "items", "start", "end"] ["gatherings"] (defScope s_write_formula) := ⟨rfl, rfl, rfl, by decide +kernel, rfl, by decide +kernel, by decide +kernel⟩
theorem ok_wform (T : Txt K mg a) (OE : Ok P w K mg base CX0 3 "item_end" ["gatherings", "start"] (spEnd a)) (OI : Ok P w K mg base CX0 5 "write_item" ["gatherings"] (spWItem a)) (OJ : Ok P w K mg base CX0 1 "join_texts" ["texts", "between"] (spJoin K))
    (d : Df K mg "write_formula" s_write_formula ["gatherings"]) : Ok P w K mg base CX0 6 "write_formula" ["gatherings"] (spWForm a) := by
  refine d.ok fun f fd F => ?_
  refine F.ok sc_wform (fun vs H Q E h => ?_) (fun cdv A outer s H vs Q E hr h => ?_)
  · obtain ⟨x, _, _, rfl, _⟩ := h
    rfl
  · obtain ⟨L, xs, m, rfl, hL, hM, hok, hm, q⟩ := h
    refine ⟨_, pss_cons (ps_set (i := 1) sc_wform.nd rfl (Or.inl rfl) (pe_lst pa_nil))
      (pss_cons (ps_set (i := 2) sc_wform.nd rfl (Or.inl rfl) pe_int)
      (pss_cons (ps_while PassesOwn.never (pt_cmpR op_lt (pv 2) (pe_callB call_len_seq (by rfl) T.len PySem.boot_len (pa_cons (pv 0) pa_nil)) (nomark _))
        (pss_cons (ps_set (i := 3) sc_wform.nd rfl (Or.inl rfl) (pe_f OE hr pass0 (pa_cons (pv 0) (pa_cons (pv 2) pa_nil))))
        (pss_cons (ps_expr (pe_bm PySem.F.plainAttrs_list PySem.F.slot_list_append PySem.F.type_list_append mt_append (pv 1) (pa_cons (pe_f OI hr pass0 (pa_cons (pe_slice sl_list (pv 0) (po_some (pv 2)) (po_some (pv 3))) pa_nil)) pa_nil)))
        (pss_one (ps_set (i := 2) sc_wform.nd rfl (Or.inl rfl) (pv 3))))))
      (pss_one (ps_ret (pe_f OJ hr pass0 (pa_cons (pv 1) (pa_cons (pe_lst (pa_cons (pe_gi T.BLANK) pa_nil)) pa_nil))))))), ?_⟩
    have hxl : (refs xs).length = m.length := by simp only [refs, List.length_map, hM.len]
    refine ⟨Nat.zero_le _, fun D hDn => ?_⟩
    have s1 : Same H (upd H D (.lst [])) := Same.new hDn
    have R1 : RowsAt (upd H D (.lst [])) D [] [] := ⟨upd_same, fun b hb => absurd hb (by simp), trivial⟩
    generalize upd H D (.lst []) = H1 at s1 R1
    refine ⟨fun k σ H' => ∃ (st : Nat) (v : Option V) (ws : List Addr) (ts : List (List Nat)), k = m.length - st ∧ σ = [some (.ref L), some (.ref D), some (.int (st : Nat)), v] ∧ Same H H' ∧ st ≤ m.length ∧ RowsAt H' D ws ts ∧ ts ++ (Quire.items (m.drop st)).map Quire.itemText = (Quire.items m).map Quire.itemText ∧ ts.length ≤ st ∧ ∀ t ∈ ts, t.length ≤ 5000,
      ⟨_, 0, none, [], [], rfl, rfl, s1, by omega, R1, by rw [List.drop_zero]; rfl, by simp, fun t ht => absurd ht (by simp)⟩, ?_⟩
    rintro k σ H2 ⟨st, v, ws, ts, rfl, rfl, s2, hst, R2, hts, htl, ht5⟩
    have hL2 := s2 _ _ hL
    have hM2 := hM.same s2
    refine ⟨_, rfl, _, rfl, L, _, rfl, .inl (SqL.of hL2), _, _, rfl, rfl, _, rfl, ?_⟩
    rw [hxl]
    refine ite2 (fun he => ?_) fun he => ?_
    · have he : st < m.length := by have := of_decide_eq_true he; omega
      have hg : m[st]? = some m[st] := List.getElem?_eq_getElem he
      have hdr : m.drop st = m[st] :: m.drop (st + 1) := List.drop_eq_getElem_cons he
      have hrl := runN_le m[st] (m.drop (st + 1))
      rw [List.length_drop] at hrl
      have hit : Quire.items (m.drop st) = (m[st] :: (m.drop (st + 1)).take (runN m[st] (m.drop (st + 1)))) :: Quire.items (m.drop (st + 1 + runN m[st] (m.drop (st + 1)))) := by
        rw [hdr, items_run, List.drop_drop]
      refine ⟨fun σ' H' => ∃ ws, σ' = [some (.ref L), some (.ref D), some (.int ((st + 1 + runN m[st] (m.drop (st + 1)) : Nat) : Int)), some (.int ((st + 1 + runN m[st] (m.drop (st + 1)) : Nat) : Int))] ∧ Same H H' ∧ RowsAt H' D ws (ts ++ [Quire.itemText (m[st] :: (m.drop (st + 1)).take (runN m[st] (m.drop (st + 1))))]) ∧ (Quire.itemText (m[st] :: (m.drop (st + 1)).take (runN m[st] (m.drop (st + 1))))).length ≤ 5000, ?_, ?_⟩
      · rintro σ' H' ⟨ws', rfl, s4, R4, hl4⟩
        refine ⟨_, ?_, st + 1 + runN m[st] (m.drop (st + 1)), _, ws', _, rfl, rfl, s4, by omega, R4, ?_, ?_, ?_⟩
        · omega
        · rw [← hts, hit, List.map_cons, List.append_assoc]; rfl
        · rw [List.length_append, List.length_singleton]; omega
        · intro t ht
          rcases List.mem_append.mp ht with z | z
          · exact ht5 t z
          · have : t = _ := List.mem_singleton.mp z
            rw [this]; exact hl4
      · refine ⟨_, rfl, _, rfl, L, xs, m, st, m[st], rfl, hL2, hM2, hg, hm, fun H3 s3 => ?_⟩
        generalize hn : runN m[st] (m.drop (st + 1)) = n at *
        have R3 := R2.same s3
        refine ⟨_, rfl, .inl ⟨rfl, _, SqL.of R3.lst⟩, _, rfl, _, rfl, _, rfl, _, rfl, _, rfl, L, _, rfl, SqL.of (s3 _ _ hL2), fun c hc => ?_⟩
        rw [cut_mid _ (by omega) (by rw [hxl]; omega)]
        have ec : ((refs xs).drop st).take (st + 1 + n - st) = refs ((xs.drop st).take (n + 1)) := by
          unfold refs
          rw [← List.map_drop, ← List.map_take, show st + 1 + n - st = n + 1 by omega]
        rw [ec]
        have em : (m.drop st).take (n + 1) = m[st] :: (m.drop (st + 1)).take n := by rw [hdr, List.take_succ_cons]
        have s4 : Same H3 (upd H3 c (.lst (refs ((xs.drop st).take (n + 1))))) := Same.new hc
        have h4 : upd H3 c (.lst (refs ((xs.drop st).take (n + 1)))) c = some (.lst (refs ((xs.drop st).take (n + 1)))) := upd_same
        generalize upd H3 c (.lst (refs ((xs.drop st).take (n + 1)))) = H4 at s4 h4
        have hM4 : MAll a H4 ((xs.drop st).take (n + 1)) (m[st] :: (m.drop (st + 1)).take n) := by
          rw [← em]; exact ((hM2.same (s3.trans s4)).drop st).take (n + 1)
        refine ⟨c, _, m[st], (m.drop (st + 1)).take n, rfl, h4, hM4, fun x hx => ?_, fun hne => ?_, ?_, fun H5 l s5 nl h5 hl5 => ?_⟩
        · rw [← em] at hx
          exact hok x (List.mem_of_mem_drop (List.mem_of_mem_take hx))
        · rw [← hn] at hne; exact run_plain hne
        · rw [List.length_take, List.length_drop]; omega
        have R5 := R3.same (s4.trans s5)
        have hlD : l ≠ D := fun z => by rw [z, (R3.same s4).lst] at nl; cases nl
        refine ⟨D, _, _, rfl, rfl, R5.lst, ?_, ?_⟩
        · rw [List.length_map, R5.all.len]; exact Nat.lt_of_le_of_lt htl (Nat.lt_of_lt_of_le he (Nat.le_trans hm (by decide)))
        · refine ⟨_, rfl, _, rfl, fun b o hb => ?_, R5.push h5 hlD, by omega⟩
          rw [upd_ne (ne_of_none hb hDn)]; exact s5 _ _ (s4 _ _ (s3 _ _ (s2 _ _ hb)))
    · have he : st = m.length := by
        have : ¬ ((st : Nat) : Int) < (m.length : Nat) := fun z => he (decide_eq_true z)
        omega
      rw [he, List.drop_length] at hts
      have hts : ts = (Quire.items m).map Quire.itemText := by rw [← hts]; simp [Quire.items]
      refine ⟨_, rfl, by show 1 ≤ sizeLine; decide, fun o1 ho1 => ?_⟩
      have s3 : Same H2 (upd H2 o1 (.lst [.int 32])) := Same.new ho1
      have h3 : upd H2 o1 (.lst [.int 32]) o1 = some (.lst ([Quire.BLANK].map cV)) := upd_same
      generalize upd H2 o1 (.lst [.int 32]) = H3 at s3 h3
      refine ⟨D, o1, ws, ts, [Quire.BLANK], rfl, R2.same s3, h3, by decide, by omega, ht5, fun H4 l s4 nl h4 => ?_⟩
      have jl := join_len [Quire.BLANK] 5002 ts fun t ht => by have := ht5 t ht; simp; omega
      have jl : (Quire.joinWith [Quire.BLANK] ts).length ≤ 600000 := Nat.le_trans jl (Nat.le_trans (Nat.mul_le_mul_right 5002 (show _ ≤ 100 by omega)) (by decide))
      rw [hts] at h4 jl
      exact q H4 l ((s2.trans s3).trans s4) (none_of (s2.trans s3) nl) h4 jl
def spTell (a : Adr) : Sp := fun vs H Q _ => ∃ (L : Addr) (xs : List GA) (m : Quire.Make), vs = [.ref L] ∧ H L = some (.lst (refs xs)) ∧ MAll a H xs m ∧ (∀ g ∈ m, g.sig.ok = true) ∧ m.length ≤ 48 ∧
  ∀ H' p, H' p = some (.lst ((QuireB.formula m).map V.int)) → Q (.ref p) H'
theorem sc_tell : FnScope ["gatherings", "text"] ["gatherings"] (defScope s_tell_formula) := ⟨rfl, rfl, rfl, by decide +kernel, rfl, by decide +kernel, by decide +kernel⟩
theorem ok_tell (T : Txt K mg a) (OW : Ok P w K mg base CX0 6 "write_formula" ["gatherings"] (spWForm a)) (d : Df K mg "tell_formula" s_tell_formula ["gatherings"]) : Ok P w K mg base CX0 7 "tell_formula" ["gatherings"] (spTell a) := by
  refine d.ok fun f fd F => ?_
  refine F.ok sc_tell (fun vs H Q E h => ?_) (fun cdv A outer s H vs Q E hr h => ?_)
  · obtain ⟨x, _, _, rfl, _⟩ := h
    rfl
  · obtain ⟨L, xs, m, rfl, hL, hM, hok, hm, q⟩ := h
    refine ⟨_, pss_cons (ps_set (i := 1) sc_tell.nd rfl (Or.inl rfl) (pe_f OW hr pass0 (pa_cons (pv 0) pa_nil)))
      (pss_one (ps_ret (pe_op op_cat (pe_lst (pa_cons (pe_callB call_len_seq (by rfl) T.len PySem.boot_len (pa_cons (pv 1) pa_nil)) pa_nil)) (pv 1)))), ?_⟩
    refine ⟨_, rfl, L, xs, m, rfl, hL, hM, hok, hm, fun H1 l s1 nl h1 hl1 => ?_⟩
    refine ⟨_, rfl, l, _, rfl, .inl (SqL.of h1), by show 1 ≤ sizeLine; decide, fun o1 ho1 => ?_⟩
    have hlo : l ≠ o1 := fun z => by rw [z, ho1] at h1; cases h1
    refine ⟨_, rfl, o1, l, _, _, rfl, rfl, upd_same, by rw [upd_ne hlo]; exact h1, ?_, fun p hp => q _ p ?_⟩
    · rw [List.length_map]
      exact Nat.le_trans (show _ ≤ 600001 by rw [List.length_singleton]; omega) (by decide)
    · rw [upd_same]
      unfold QuireB.formula QuireB.nats
      rw [List.map_map, List.map_cons, List.length_map]; rfl
theorem tell_of (T : Txt K mg a) (D : Rdg K mg a) (d1 : Df K mg "write_number" s_write_number ["number", "digits"]) (d2 : Df K mg "signature_character" s_signature_character ["sign"]) (d3 : Df K mg "row_character" s_row_character ["sign"]) (d4 : Df K mg "write_signature" s_write_signature ["signature"])
    (d5 : Df K mg "write_row" s_write_row ["row"]) (d6 : Df K mg "join_texts" s_join_texts ["texts", "between"]) (d7 : Df K mg "write_notes" s_write_notes ["gathering"]) (d8 : Df K mg "item_end" s_item_end ["gatherings", "start"]) (d9 : Df K mg "write_item" s_write_item ["gatherings"])
    (d10 : Df K mg "write_formula" s_write_formula ["gatherings"]) (d11 : Df K mg "tell_formula" s_tell_formula ["gatherings"]) : Ok P w K mg base CX0 7 "tell_formula" ["gatherings"] (spTell a) := by
  have oN : Ok P w K mg base CX0 1 "write_number" _ _ := ok_wnum T d1
  have oS : Ok P w K mg base CX0 2 "write_signature" _ _ := ok_wsig T oN (ok_sgc T d2) d4
  have oJ : Ok P w K mg base CX0 1 "join_texts" _ _ := ok_join T d6
  exact ok_tell T (ok_wform T (ok_end T (one_of T D) d8) (ok_witem T oS oN (hnotes_of T D) oJ (ok_wnotes T oN (ok_wrow T (counted_of T D) oN (ok_rwc T d3) d5) d7) d9) oJ d10) d11
end
theorem op_notInK {X : Cx} {K : PySem.W.Frag} (hk : X.K = K) : OpR X (compareOp .NotIn) (rIn K true) := by
  subst hk
  exact op_notIn_seq
theorem isLeaf_lt {w : Quire.Word} {p : Nat} (h : Quire.isLeaf w p = true) : p < w.length := by
  by_cases e : p < w.length
  · exact e
  · unfold Quire.isLeaf at h
    rw [List.getElem?_eq_none (by omega)] at h; cases h
theorem in_nats (k : Nat) : ∀ ns : List Nat, inV (cV k) (ns.map cV) = decide (k ∈ ns)
  | [] => by simp [inV]
  | n :: r => by
    have ih := in_nats k r
    unfold inV at ih ⊢
    rw [List.map_cons, List.any_cons, ih, Bool.eq_iff_iff]
    have : eqV (cV n) (cV k) = decide (k = n) := by
      rw [Bool.eq_iff_iff]; simp [cV, eqV]; omega
    rw [this]; simp
theorem flat_nats : ∀ ns : List Nat, (ns.map cV).all flatV = true
  | [] => rfl
  | n :: r => by rw [List.map_cons, List.all_cons, flat_nats r]; rfl
theorem nums_set (w : Quire.Word) (i : Nat) (s : Quire.Sign) : ((Quire.nums w).map cV).set i (V.int (s.num : Nat)) = (Quire.nums (w.set i s)).map cV := by
  unfold Quire.nums; rw [List.map_set, List.map_set]; rfl
section
variable {P : Program} {w : World} {K : PySem.W.Frag} {mg : Str → Option Value} {base : Heap} {a : Adr}
def spLF (K : PySem.W.Frag) (F : Quire.Word → Nat → Option Quire.Word) : Sp := fun vs H Q _ => ∃ (p : Addr) (wd : Quire.Word) (pl : Nat), vs = [.ref p, .int (pl : Nat)] ∧ SqL K H p ((Quire.nums wd).map cV) ∧ wd.length ≤ 1000 ∧ Quire.paired wd = true ∧ Quire.isLeaf wd pl = true ∧
  ∀ H' D wd', Same H H' → F wd pl = some wd' → wd'.length ≤ wd.length → H' D = some (.lst ((Quire.nums wd').map cV)) → Q (.ref D) H'
theorem sc_lf : FnScope ["row", "place", "partner", "left", "gone", "k"] ["row", "place"] (defScope s_lose_from) := ⟨rfl, rfl, rfl, by decide +kernel, rfl, by decide +kernel, by decide +kernel⟩
theorem ok_lf (T : Txt K mg a) (OL : Ok P w K mg base CX0 1 "is_leaf" ["sign"] spLeaf) (OP : Ok P w K mg base CX0 1 "partners_of" ["row"] (spPrt K)) (d : Df K mg "lose_from" s_lose_from ["row", "place"]) : Ok P w K mg base CX0 2 "lose_from" ["row", "place"] (spLF K Quire.lose) := by
  refine d.ok fun f fd F => ?_
  refine F.ok sc_lf (fun vs H Q E h => ?_) (fun cdv A outer s H vs Q E hr h => ?_)
  · obtain ⟨x, _, _, rfl, _⟩ := h
    rfl
  · obtain ⟨p, wd, pl, rfl, hS, hwl, hpr, hlf, q⟩ := h
    refine ⟨_, pss_cons (ps_set (i := 2) sc_lf.nd rfl (Or.inl rfl) (pe_ix ix_list (pe_f OP hr pass0 (pa_cons (pv 0) pa_nil)) (pv 1) (fun _ _ => rfl)))
      (pss_cons (ps_set (i := 3) sc_lf.nd rfl (Or.inr rfl) (pe_callTy call_list_of (by rfl) T.list boot_list (pa_cons (pv 0) pa_nil)))
      (pss_cons (ps_set (i := 4) sc_lf.nd rfl (Or.inr rfl) (pe_lst (pa_cons (pv 1) pa_nil)))
      (pss_cut (ps_if (pt_val (pe_f OL hr pass0 (pa_cons (pe_ix ix_list (pv 0) (pv 2) (fun _ _ => rfl)) pa_nil)))
        (pss_one (ps_asg (pe_gi T.ALONE) (pg_sub (pv 3) (pv 2) set_list)))
        (pss_one (ps_expr (pe_bm PySem.F.plainAttrs_list PySem.F.slot_list_append PySem.F.type_list_append mt_append (pv 4) (pa_cons (pv 2) pa_nil)))))
      (pss_one (ps_ret (pe_lc (own := [("k", 5)]) rfl sc_lf.nd (pi_range1 rfl T.range (pa_cons (pe_callB call_len_seq (by rfl) T.len PySem.boot_len (pa_cons (pv 3) pa_nil)) pa_nil)) (blkOk_by (by rfl))
        (fun _ _ _ _ _ => pg_name (i := 5) sc_lf.nd rfl (Or.inl rfl)) (fun _ _ _ _ _ => pts_one (pt_cmpR (op_notInK (K := K) rfl) (pv 5) (pv 4) (by with_unfolding_all rfl))) (fun _ _ _ _ _ => pe_ix (ix_listK (K := K) rfl) (pv 3) (pv 5) (fun _ _ => rfl)))))))), ?_⟩
    have hpl := isLeaf_lt hlf
    refine ⟨_, rfl, p, wd, rfl, hS, hwl, hpr, fun H1 D Pl s1 hD hP => ?_⟩
    obtain ⟨q0, hq, hm⟩ := hP.2 pl hpl
    have hql := mate_lt hm
    have hg : wd[q0]? = some wd[q0] := List.getElem?_eq_getElem hql
    have hli := isLeaf_of hg
    refine ⟨_, rfl, D, _, _, cV q0, rfl, rfl, SqL.of hD, at_of rfl (by rw [List.getElem?_map, hq]; rfl), ?_⟩
    refine ⟨_, rfl, p, _, rfl, .inl (s1.seq hS), fun l hl => ?_⟩
    have s2 := s1.trans (Same.new (o := .lst ((Quire.nums wd).map cV)) hl)
    have h2 : upd H1 l (.lst ((Quire.nums wd).map cV)) l = some (.lst ((Quire.nums wd).map cV)) := upd_same
    generalize upd H1 l (.lst ((Quire.nums wd).map cV)) = H2 at s2 h2
    refine ⟨_, rfl, by show 1 ≤ sizeLine; decide, fun g hg3 => ?_⟩
    have hlH : H l = none := by
      cases z : H l with
      | none => rfl
      | some o => rw [s1 _ _ z] at hl; cases hl
    have hgH : H g = none := by
      cases z : H g with
      | none => rfl
      | some o => rw [s2 _ _ z] at hg3; cases hg3
    have hlg : l ≠ g := fun e => by rw [e, hg3] at h2; cases h2
    have s3 : Same H (upd H2 g (.lst [V.int (pl : Nat)])) := s2.trans (Same.new hg3)
    have h3 : upd H2 g (.lst [V.int (pl : Nat)]) l = some (.lst ((Quire.nums wd).map cV)) := by rw [upd_ne hlg]; exact h2
    have g3 : upd H2 g (.lst [V.int (pl : Nat)]) g = some (.lst ([pl].map cV)) := upd_same
    generalize upd H2 g (.lst [V.int (pl : Nat)]) = H3 at s3 h3 g3
    refine ⟨fun σ H' => ∃ v gone, σ = [some (.ref p), some (.int (pl : Nat)), some (cV q0), some (.ref l), some (.ref g), none] ∧ Same H H' ∧ H' l = some (.lst ((Quire.nums v).map cV)) ∧ H' g = some (.lst (gone.map cV)) ∧ v.length = wd.length ∧ Quire.lose wd pl = some (keepN v gone wd.length), ?_, ?_⟩
    · refine ⟨_, rfl, _, rfl, p, _, _, cV wd[q0].num, rfl, rfl, s3.seq hS, at_of rfl (by rw [List.getElem?_map, nums_get hg]; rfl), wd[q0].num, rfl, fun H4 s4 => ?_⟩
      rw [leafN_num]
      refine ⟨_, rfl, ?_⟩
      cases e : wd[q0].leaf with
      | true =>
        refine iteT ?_
        refine ⟨_, rfl, _, rfl, l, _, _, q0, rfl, rfl, s4 _ _ h3, ixN_nat (by rw [List.length_map, nums_len]; exact hql), ?_⟩
        refine ⟨wd.set q0 .alone, [pl], rfl, fun b o hb => ?_, ?_, ?_, List.length_set .., lose_leaf hlf hpl hm (by rw [hli]; exact e)⟩
        · rw [upd_ne (ne_of_none hb hlH)]; exact s4 _ _ (s3 _ _ hb)
        · rw [upd_same, ← nums_set]; rfl
        · rw [upd_ne hlg.symm]; exact s4 _ _ g3
      | false =>
        refine iteF ?_
        refine ⟨_, rfl, .inl ⟨rfl, _, SqL.of (s4 _ _ g3)⟩, _, rfl, g, _, _, rfl, rfl, s4 _ _ g3, by show 1 < sizeLine; decide, ?_⟩
        refine ⟨wd, [pl, q0], rfl, fun b o hb => ?_, ?_, ?_, rfl, lose_stub hlf hpl hm (by rw [hli]; exact e)⟩
        · rw [upd_ne (ne_of_none hb hgH)]; exact s4 _ _ (s3 _ _ hb)
        · rw [upd_ne hlg]; exact s4 _ _ h3
        · rw [upd_same]; rfl
    · rintro σ H4 ⟨v, gone, rfl, s4, h4, g4, hvl, hlo⟩
      have hl4 : ((Quire.nums v).map cV).length = wd.length := by rw [List.length_map, nums_len, hvl]
      refine ⟨_, rfl, l, _, rfl, .inl (SqL.of h4), _, rfl, by rw [hl4]; omega, by rw [hl4]; omega, fun D2 hD2 => ?_⟩
      rw [hl4]
      have hD2H : H D2 = none := by
        cases z : H D2 with
        | none => rfl
        | some o => rw [s4 _ _ z] at hD2; cases hD2
      refine lc_range (n := wd.length) (fun i H' => Same H4 H' ∧ H' D2 = some (.lst ((Quire.nums (keepN v gone i)).map cV))) ⟨Same.new hD2, upd_same⟩ ?_ ?_
      · rintro i H' hi ⟨s5, h5⟩
        have hv : v[i]? = some v[i] := List.getElem?_eq_getElem (by omega)
        have ei : (0 : Int) + (i : Nat) = ((i : Nat) : Int) := by omega
        refine ⟨rfl, _, rfl, _, rfl, g, _, rfl, .inl (SqL.of (s5 _ _ g4)), rfl, flat_nats _, _, rfl, ?_⟩
        rw [ei, show (if true = true then !inV (V.int ((i : Nat) : Int)) (gone.map cV) else inV (V.int ((i : Nat) : Int)) (gone.map cV)) = !decide (i ∈ gone) from congrArg (!·) (in_nats i gone)]
        refine ite2 (fun e => ?_) fun e => ?_
        · have e : ¬ i ∈ gone := by simpa using e
          refine ⟨_, rfl, _, rfl, l, _, _, cV v[i].num, rfl, rfl, SqL.of (s5 _ _ h4), at_of rfl (by rw [List.getElem?_map, nums_get hv]; rfl), ?_⟩
          refine ⟨_, h5, ?_, fun b o hb => ?_, ?_⟩
          · have := keepN_len v gone i
            rw [List.length_map, nums_len]
            exact Nat.lt_of_lt_of_le (show _ < 1000 by omega) (by decide)
          · rw [upd_ne (ne_of_none hb hD2)]; exact s5 _ _ hb
          · rw [upd_same, keepN, if_neg e, hv, nums_app, List.map_append]; rfl
        · have e : i ∈ gone := by simpa using e
          refine ⟨s5, ?_⟩
          rw [keepN, if_pos e, List.append_nil]
          exact h5
      · rintro H5 ⟨s5, h5⟩
        exact q H5 D2 _ (s4.trans s5) hlo (keepN_len _ _ _) h5
theorem sc_cf : FnScope ["row", "place", "partner", "left"] ["row", "place"] (defScope s_cut_from) := ⟨rfl, rfl, rfl, by decide +kernel, rfl, by decide +kernel, by decide +kernel⟩
theorem ok_cf (T : Txt K mg a) (OL : Ok P w K mg base CX0 1 "is_leaf" ["sign"] spLeaf) (OP : Ok P w K mg base CX0 1 "partners_of" ["row"] (spPrt K)) (OF : Ok P w K mg base CX0 2 "lose_from" ["row", "place"] (spLF K Quire.lose)) (d : Df K mg "cut_from" s_cut_from ["row", "place"]) : Ok P w K mg base CX0 3 "cut_from" ["row", "place"] (spLF K Quire.cut) := by
  refine d.ok fun f fd F => ?_
  refine F.ok sc_cf (fun vs H Q E h => ?_) (fun cdv A outer s H vs Q E hr h => ?_)
  · obtain ⟨x, _, _, rfl, _⟩ := h
    rfl
  · obtain ⟨p, wd, pl, rfl, hS, hwl, hpr, hlf, q⟩ := h
    refine ⟨_, pss_cons (ps_set (i := 2) sc_cf.nd rfl (Or.inl rfl) (pe_ix ix_list (pe_f OP hr pass0 (pa_cons (pv 0) pa_nil)) (pv 1) (fun _ _ => rfl)))
      (pss_cons (ps_if (pw_or (pt_cmpR op_eq (pv 2) (pv 1) (nomark _)) (pw_or1 (pt_not (pt_val (pe_f OL hr pass0 (pa_cons (pe_ix ix_list (pv 0) (pv 2) (fun _ _ => rfl)) pa_nil)))))).pt
        (pss_one (ps_ret (pe_f OF hr pass0 (pa_cons (pv 0) (pa_cons (pv 1) pa_nil))))) pss_nil)
      (pss_cons (ps_set (i := 3) sc_cf.nd rfl (Or.inl rfl) (pe_callTy call_list_of (by rfl) T.list boot_list (pa_cons (pv 0) pa_nil)))
      (pss_cons (ps_asg (pe_ifExp (pt_cmpR op_lt (pv 1) (pv 2) (nomark _)) (pe_gi T.STUB_BEFORE) (pe_gi T.STUB_BEHIND)) (pg_sub (pv 3) (pv 1) set_list))
      (pss_one (ps_ret (pv 3)))))), ?_⟩
    have hpl := isLeaf_lt hlf
    refine ⟨_, rfl, p, wd, rfl, hS, hwl, hpr, fun H1 D Pl s1 hD hP => ?_⟩
    obtain ⟨q0, hq, hm⟩ := hP.2 pl hpl
    have hql := mate_lt hm
    have hg : wd[q0]? = some wd[q0] := List.getElem?_eq_getElem hql
    have hli := isLeaf_of hg
    refine ⟨_, rfl, D, _, _, cV q0, rfl, rfl, SqL.of hD, at_of rfl (by rw [List.getElem?_map, hq]; rfl), ?_⟩
    have lo : ∀ H2, Same H H2 → (q0 = pl ∨ Quire.isLeaf wd q0 = false) → spLF K Quire.lose [.ref p, .int (pl : Nat)] H2 Q E := fun H2 s2 h2 =>
      ⟨p, wd, pl, rfl, s2.seq hS, hwl, hpr, hlf, fun H3 D3 wd' s3 e3 l3 h3 => q H3 D3 wd' (s2.trans s3) (by rw [cut_lose hlf hm h2]; exact e3) l3 h3⟩
    refine ⟨_, rfl, _, rfl, rfl, _, rfl, ?_⟩
    refine ite2 (fun e => ?_) fun e => ?_
    · have e : q0 = pl := by
        have := V.int.inj (of_decide_eq_true e)
        omega
      refine iteT ?_
      exact ⟨_, rfl, _, rfl, lo H1 s1 (.inl e)⟩
    · have e : q0 ≠ pl := fun z => e (decide_eq_true (by rw [z]; rfl))
      refine ⟨_, rfl, _, rfl, p, _, _, cV wd[q0].num, rfl, rfl, s1.seq hS, at_of rfl (by rw [List.getElem?_map, nums_get hg]; rfl), wd[q0].num, rfl, fun H2 s2 => ?_⟩
      rw [leafN_num]
      refine ⟨_, rfl, ?_⟩
      cases e2 : wd[q0].leaf with
      | false =>
        refine iteT ?_
        exact ⟨_, rfl, _, rfl, lo H2 (s1.trans s2) (.inr (by rw [hli]; exact e2))⟩
      | true =>
        refine iteF ?_
        refine ⟨_, rfl, p, _, rfl, .inl (s2.seq (s1.seq hS)), fun l hl => ?_⟩
        have s3 : Same H (upd H2 l (.lst ((Quire.nums wd).map cV))) := (s1.trans s2).trans (Same.new hl)
        have hlH : H l = none := by
          cases z : H l with
          | none => rfl
          | some o => rw [s2 _ _ (s1 _ _ z)] at hl; cases hl
        have h3 : upd H2 l (.lst ((Quire.nums wd).map cV)) l = some (.lst ((Quire.nums wd).map cV)) := upd_same
        generalize upd H2 l (.lst ((Quire.nums wd).map cV)) = H3 at s3 h3
        have fin : ∀ s : Quire.Sign, s = (if pl < q0 then .stubOpens else .stubCloses) → Q (.ref l) (upd H3 l (.lst (((Quire.nums wd).map cV).set pl (V.int (s.num : Nat))))) := fun s es => by
          refine q _ l _ (fun b o hb => ?_) (cut_stub hlf hpl hm e (by rw [hli]; exact e2)) (by rw [List.length_set]; exact Nat.le_refl _) ?_
          · rw [upd_ne (ne_of_none hb hlH)]; exact s3 _ _ hb
          · rw [upd_same, nums_set, es]
        refine ⟨_, rfl, _, rfl, _, _, rfl, rfl, _, rfl, ?_⟩
        refine ite2 (fun e3 => ?_) fun e3 => ?_
        · have e3 : pl < q0 := by have := of_decide_eq_true e3; omega
          refine ⟨_, rfl, _, rfl, l, _, _, pl, rfl, rfl, h3, ixN_nat (by rw [List.length_map, nums_len]; exact hpl), ?_⟩
          exact ⟨_, rfl, fin .stubOpens (by rw [if_pos e3])⟩
        · have e3 : ¬ pl < q0 := fun z => e3 (decide_eq_true (by omega))
          refine ⟨_, rfl, _, rfl, l, _, _, pl, rfl, rfl, h3, ixN_nat (by rw [List.length_map, nums_len]; exact hpl), ?_⟩
          exact ⟨_, rfl, fin .stubCloses (by rw [if_neg e3])⟩
end
def ownO (G : Quire.Gath) (i : Nat) : List (Nat × Int) := if 0 < i ∧ G.fate (i - 1) ≠ .lost then [(i, -1)] else []
def gapO (i n : Nat) : List (Nat × Int) := (List.range n).map fun (j : Nat) => (i, (j : Int))
def prgN (G : Quire.Gath) : Nat → List (Nat × Int)
  | 0 => []
  | i + 1 => (orgN G i).map cvO
theorem gapO_cv (k n : Nat) : ((List.range n).map fun (j : Nat) => (2 * k, j)).map cvO = gapO k n := by
  unfold gapO
  rw [List.map_map]
  apply List.map_congr_left
  intro j _
  exact cvO_put k j
theorem prgN_succ (G : Quire.Gath) : ∀ i, prgN G (i + 1) = prgN G i ++ ownO G i ++ gapO i (G.put i).length
  | 0 => by
    have := gapO_cv 0 (G.put 0).length
    rw [Nat.mul_zero] at this
    show (orgN G 0).map cvO = _
    unfold orgN ownO
    rw [if_neg (by omega), List.range_zero, List.flatMap_nil, List.append_nil, this]; rfl
  | i + 1 => by
    show (orgN G (i + 1)).map cvO = (orgN G i).map cvO ++ _ ++ _
    rw [orgN_succ, List.map_append, List.map_append, gapO_cv, ← List.append_assoc]
    congr 2
    have h := leaf_le G i
    unfold ownO
    rw [Nat.add_sub_cancel]
    by_cases e : G.fate i = .lost
    · rw [if_pos e] at h
      rw [if_neg (fun z => z.2 e), List.eq_nil_of_length_eq_zero h]; rfl
    · rw [if_neg e] at h
      rw [if_pos ⟨by omega, e⟩]
      obtain ⟨s, hs⟩ := List.length_eq_one_iff.mp h
      rw [hs]
      show [cvO (2 * i + 1, 0)] = _
      rw [cvO_leaf]
theorem prgN_len {G : Quire.Gath} (h : ∀ k, (G.put k).length ≤ 21) : ∀ i, (prgN G i).length ≤ 22 * i
  | 0 => Nat.zero_le _
  | i + 1 => by
    have h1 := prgN_len h i
    have h2 := h i
    have h3 : (ownO G i).length ≤ 1 := by unfold ownO; split <;> simp
    rw [prgN_succ, List.length_append, List.length_append]
    have h4 : (gapO i (G.put i).length).length = (G.put i).length := by unfold gapO; rw [List.length_map, List.length_range]
    omega
def OrgAll (H : Hp) : List Addr → List (Nat × Int) → Prop
  | [], [] => True
  | t :: ts, o :: os => H t = some (.tup [.int (o.1 : Nat), .int o.2]) ∧ OrgAll H ts os
  | _, _ => False
theorem OrgAll.keep {H H' : Hp} (k : ∀ t xs, H t = some (.tup xs) → H' t = some (.tup xs)) : ∀ {ts : List Addr} {os : List (Nat × Int)}, OrgAll H ts os → OrgAll H' ts os
  | [], [], _ => trivial
  | _ :: _, _ :: _, h => ⟨k _ _ h.1, OrgAll.keep k h.2⟩
  | [], _ :: _, h => h.elim
  | _ :: _, [], h => h.elim
theorem OrgAll.app {H : Hp} : ∀ {ts us : List Addr} {os ps : List (Nat × Int)}, OrgAll H ts os → OrgAll H us ps → OrgAll H (ts ++ us) (os ++ ps)
  | [], _, [], _, _, h => h
  | _ :: _, _, _ :: _, _, h, h2 => ⟨h.1, OrgAll.app h.2 h2⟩
  | [], _, _ :: _, _, h, _ => h.elim
  | _ :: _, _, [], _, h, _ => h.elim
theorem OrgAll.len {H : Hp} : ∀ {ts : List Addr} {os : List (Nat × Int)}, OrgAll H ts os → ts.length = os.length
  | [], [], _ => rfl
  | _ :: _, _ :: _, h => by simp [OrgAll.len h.2]
  | [], _ :: _, h => h.elim
  | _ :: _, [], h => h.elim
theorem OrgAll.get {H : Hp} : ∀ {ts : List Addr} {os : List (Nat × Int)} {p : Nat} {o : Nat × Int}, OrgAll H ts os → os[p]? = some o → ∃ t, ts[p]? = some t ∧ H t = some (.tup [.int (o.1 : Nat), .int o.2])
  | [], [], _, _, _, e => by simp at e
  | t :: _, o' :: _, 0, o, h, e => by
    have : o' = o := by simpa using e
    subst this
    exact ⟨t, rfl, h.1⟩
  | _ :: _, _ :: _, p + 1, o, h, e => by simpa using OrgAll.get (p := p) h.2 (by simpa using e)
  | [], _ :: _, _, _, h, _ => h.elim
  | _ :: _, [], _, _, h, _ => h.elim
theorem tup_upd {H : Hp} {D : Addr} {vs : List V} {o : HO} (hD : H D = some (.lst vs)) : ∀ t xs, H t = some (.tup xs) → upd H D o t = some (.tup xs) := fun t xs h => by
  rw [upd_ne (ne_of h hD (by intro z; cases z))]; exact h
section
variable {P : Program} {w : World} {K : PySem.W.Frag} {mg : Str → Option Value} {base : Heap} {a : Adr}
def spOrg (a : Adr) : Sp := fun vs H Q _ => ∃ (x : GA) (G : Quire.Gath), vs = [.ref x.g] ∧ GAt a H x G ∧ ∀ H' D ts, Same H H' → H' D = some (.lst (ts.map V.ref)) → OrgAll H' ts (G.origins.map cvO) → Q (.ref D) H'
theorem sc_org : FnScope ["gathering", "origins", "k", "place"] ["gathering"] (defScope s_origins_of) := ⟨rfl, rfl, rfl, by decide +kernel, rfl, by decide +kernel, by decide +kernel⟩
theorem ok_org (T : Txt K mg a) (hIT : ∃ t, mg "ITSELF" = some (.int (-1) t)) (d : Df K mg "origins_of" s_origins_of ["gathering"]) : Ok P w K mg base CX0 1 "origins_of" ["gathering"] (spOrg a) := by
  refine d.ok fun f fd F => ?_
  refine F.ok sc_org (fun vs H Q E h => ?_) (fun cdv A outer s H vs Q E hr h => ?_)
  · obtain ⟨x, _, rfl, _⟩ := h
    rfl
  · obtain ⟨x, G, rfl, g, q⟩ := h
    refine ⟨_, pss_cons (ps_set (i := 1) sc_org.nd rfl (Or.inl rfl) (pe_lst pa_nil))
      (pss_cons (ps_for PassesOwn.never rfl (pi_range1 rfl T.range (pa_cons (pe_op op_add (pe_fld (pv 0) rfl) pe_int) pa_nil)) (pg_name (i := 2) sc_org.nd rfl (Or.inr rfl))
        (pss_cut (ps_if (pw_and (pt_cmpR op_gt (pv 2) pe_int (nomark _)) (pw_and1 (pt_cmpR op_ne (pe_ix ix_list (pe_fld (pv 0) rfl) (pv 2) (fun _ _ => rfl)) (pe_gi T.LOST) (nomark _)))).pt
          (pss_one (ps_expr (pe_bm PySem.F.plainAttrs_list PySem.F.slot_list_append PySem.F.type_list_append mt_append (pv 1) (pa_cons (pe_tup (pa_cons (pv 2) (pa_cons (pe_gi hIT) pa_nil))) pa_nil)))) pss_nil)
        (pss_one (ps_expr (pe_bm PySem.F.plainAttrs_list PySem.F.slot_list_extend PySem.F.type_list_extend mt_extend (pv 1) (pa_cons (pe_lc (own := [("place", 3)]) rfl sc_org.nd (pi_range1 rfl T.range (pa_cons (pe_callB call_len_seq (by rfl) T.len PySem.boot_len (pa_cons (pe_ix ix_list (pe_fld (pv 0) rfl) (pv 2) (fun _ _ => rfl)) pa_nil)) pa_nil)) (blkOk_by (by rfl))
          (fun _ _ _ _ _ => pg_name (i := 3) sc_org.nd rfl (Or.inl rfl)) (fun _ _ _ _ _ => pts_nil) (fun _ _ _ _ _ => pe_tup (pa_cons (pv 2) (pa_cons (pv 3) pa_nil)))) pa_nil))))))
      (pss_one (ps_ret (pv 1)))), ?_⟩
    have hsz := g.sz
    refine ⟨Nat.zero_le _, fun D hDn => ?_⟩
    have s1 : Same H (upd H D (.lst [])) := Same.new hDn
    have h1 : upd H D (.lst []) D = some (.lst (([] : List Addr).map V.ref)) := upd_same
    generalize upd H D (.lst []) = H1 at s1 h1
    obtain ⟨dx, ho⟩ := g.obj
    refine ⟨_, rfl, x.g, a.CG, dx, _, _, rfl, s1 _ _ ho, T.clG, T.nGz, gf_size, _, _, rfl, rfl, _, rfl, by omega, by omega, ?_⟩
    rw [show ((G.size : Int) + 1).toNat = G.size + 1 by omega]
    have keep : ∀ {H2 H3 : Hp} {o : HO}, Same H H2 → Same H2 H3 → Same H (upd H3 D o) := fun s2 s3 c o' hc => by rw [upd_ne (ne_of_none hc hDn)]; exact s3 _ _ (s2 _ _ hc)
    refine for_range (n := G.size + 1) (fun i σ H' => ∃ v ts, σ = [some (.ref x.g), some (.ref D), v, none] ∧ Same H H' ∧ H' D = some (.lst (ts.map V.ref)) ∧ OrgAll H' ts (prgN G i)) ⟨none, [], rfl, s1, h1, trivial⟩ ?_ ?_
    · rintro i σ H2 hi ⟨v, ts, rfl, s2, h2, O2⟩
      have ei : (0 : Int) + (i : Nat) = ((i : Nat) : Int) := by omega
      have hpl := prgN_len g.put_len i
      have htl := O2.len
      refine ⟨fun σ H3 => ∃ ts, σ = [some (.ref x.g), some (.ref D), some (.int (0 + (i : Nat))), none] ∧ Same H H3 ∧ H3 D = some (.lst (ts.map V.ref)) ∧ OrgAll H3 ts (prgN G i ++ ownO G i), ?_, ?_⟩
      · obtain ⟨dx2, ho2⟩ := (g.same s2).obj
        have no : ¬ (0 < i ∧ G.fate (i - 1) ≠ .lost) → OrgAll H2 ts (prgN G i ++ ownO G i) := fun z => by
          unfold ownO
          rw [if_neg z, List.append_nil]; exact O2
        refine ⟨_, rfl, _, _, rfl, rfl, _, rfl, ?_⟩
        refine ite2 (fun e => ?_) fun e => ?_
        · have e : 0 < i := by have := of_decide_eq_true e; omega
          have hst := at_of (z := 0 + (i : Nat)) (j := (i - 1) + 1) (by omega) ((g.same s2).fate (k := i - 1) (by omega))
          refine ⟨_, rfl, x.g, a.CG, dx2, _, _, rfl, ho2, T.clG, T.nGt, gf_states, _, rfl, x.st, _, _, _, rfl, rfl, SqL.of (g.same s2).st, hst, rfl, _, rfl, ?_⟩
          have ef : (!decide (cV (fN (G.fate (i - 1))) = V.int 1)) = decide (G.fate (i - 1) ≠ .lost) := by
            cases G.fate (i - 1) <;> rfl
          rw [ef]
          refine ite2 (fun e2 => ?_) fun e2 => ?_
          · have e2 := of_decide_eq_true e2
            refine ⟨_, rfl, .inl ⟨rfl, _, SqL.of h2⟩, _, rfl, by show 2 ≤ sizeLine; decide, fun t ht => ?_⟩
            have s3 : Same H2 (upd H2 t (.tup [.int (0 + (i : Nat)), .int (-1)])) := Same.new ht
            have h3 : upd H2 t (.tup [.int (0 + (i : Nat)), .int (-1)]) t = some (.tup [.int (i : Nat), .int (-1)]) := by rw [upd_same, ei]
            generalize upd H2 t (.tup [.int (0 + (i : Nat)), .int (-1)]) = H3 at s3 h3
            refine ⟨D, _, _, rfl, rfl, s3 _ _ h2, ?_, ?_⟩
            · rw [List.length_map, htl]
              exact Nat.lt_of_le_of_lt (Nat.le_trans hpl (show 22 * i ≤ 1000 by omega)) (by decide)
            · refine ⟨ts ++ [t], rfl, keep s2 s3, by rw [upd_same, List.map_append]; rfl, ?_⟩
              unfold ownO
              rw [if_pos ⟨e, e2⟩]
              refine OrgAll.keep (tup_upd (s3 _ _ h2)) (OrgAll.app (O2.keep fun t xs h => s3 _ _ h) ⟨h3, trivial⟩)
          · exact ⟨ts, rfl, s2, h2, no fun z => e2 (decide_eq_true z.2)⟩
        · refine iteF ?_
          exact ⟨ts, rfl, s2, h2, no fun z => e (decide_eq_true (by omega))⟩
      · rintro σ H3 ⟨ts, rfl, s3, h3, O3⟩
        have g3 := g.same s3
        obtain ⟨dx3, ho3⟩ := g3.obj
        obtain ⟨b, hb, hb2, hbl⟩ := g3.put (k := i) (by omega)
        have hl : ((Quire.nums (G.put i)).map cV).length = (G.put i).length := by rw [List.length_map, nums_len]
        refine ⟨_, rfl, .inl ⟨rfl, _, SqL.of h3⟩, _, rfl, x.g, a.CG, dx3, _, _, rfl, ho3, T.clG, T.nGg, gf_gaps, _, rfl, x.gp, _, _, _, rfl, rfl, SqL.of g3.gp, at_of ei hb, b, _, rfl, .inl (SqL.of hb2), _, rfl, by rw [hl]; omega, by rw [hl]; omega, fun D2 hD2 => ?_⟩
        rw [hl]
        refine lc_range (n := (G.put i).length) (fun j H' => ∃ us, Same H3 H' ∧ H' D2 = some (.lst (us.map V.ref)) ∧ OrgAll H' us (gapO i j)) ⟨[], Same.new hD2, upd_same, trivial⟩ ?_ ?_
        · rintro j H4 hj ⟨us, s4, h4, O4⟩
          have ej : (0 : Int) + (j : Nat) = ((j : Nat) : Int) := by omega
          have hul := O4.len
          refine ⟨rfl, ?_⟩
          unfold tYes
          refine iteT ?_
          refine ⟨_, rfl, _, rfl, by show 2 ≤ sizeLine; decide, fun t ht => ?_⟩
          have s5 : Same H4 (upd H4 t (.tup [.int (0 + (i : Nat)), .int (0 + (j : Nat))])) := Same.new ht
          have h5 : upd H4 t (.tup [.int (0 + (i : Nat)), .int (0 + (j : Nat))]) t = some (.tup [.int (i : Nat), .int (j : Nat)]) := by rw [upd_same, ei, ej]
          generalize upd H4 t (.tup [.int (0 + (i : Nat)), .int (0 + (j : Nat))]) = H5 at s5 h5
          refine ⟨_, s5 _ _ h4, ?_, us ++ [t], fun c o hc => ?_, ?_, ?_⟩
          · rw [List.length_map, hul]
            unfold gapO
            rw [List.length_map, List.length_range]
            exact Nat.lt_of_lt_of_le (show j < 1000 by omega) (by decide)
          · rw [upd_ne (ne_of_none hc hD2)]; exact s5 _ _ (s4 _ _ hc)
          · rw [upd_same, List.map_append]; rfl
          · unfold gapO
            rw [List.range_succ, List.map_append]
            exact OrgAll.keep (tup_upd (s5 _ _ h4)) (OrgAll.app (O4.keep fun t xs h => s5 _ _ h) ⟨h5, trivial⟩)
        · rintro H4 ⟨us, s4, h4, O4⟩
          refine ⟨D, D2, _, _, rfl, rfl, s4 _ _ h3, h4, ?_, _, ts ++ us, rfl, keep s3 s4, ?_, ?_⟩
          · have hp2 := prgN_len g.put_len (i + 1)
            rw [prgN_succ, List.length_append] at hp2
            rw [List.length_map, List.length_map, O3.len, O4.len]
            exact Nat.le_trans hp2 (Nat.le_trans (show 22 * (i + 1) ≤ 1000 by omega) (by decide))
          · rw [upd_same, List.map_append]
          · rw [prgN_succ]
            exact OrgAll.keep (tup_upd (s4 _ _ h3)) (OrgAll.app (O3.keep fun t xs h => s4 _ _ h) O4)
    · rintro σ H2 ⟨v, ts, rfl, s2, h2, O2⟩
      exact ⟨_, rfl, q H2 D ts s2 h2 O2⟩
end
def loseF (G : Quire.Gath) (k : Nat) : List Quire.Fate := if G.fate (G.partner k) = .cut then (G.fates.set k .lost).set (G.partner k) .lost else G.fates.set k .lost
def chF (f : Quire.Fate) (G : Quire.Gath) (k : Nat) : List Quire.Fate := if f = .cut ∧ Quire.cutOk G k = true then G.fates.set k .cut else loseF G k
def chW (f : Quire.Fate) (w : Quire.Word) (p : Nat) : Option Quire.Word := if f = .cut then Quire.cut w p else Quire.lose w p
def chG (f : Quire.Fate) (G : Quire.Gath) (p : Nat) : Quire.Gath := if f = .cut then G.cut p else G.lose p
theorem chG_gap {f : Quire.Fate} {G : Quire.Gath} {p : Nat} {o : Nat × Nat} {v : Quire.Word} (ho : G.origins[p]? = some o) (he : o.1 % 2 = 0) (h : chW f (G.put (o.1 / 2)) o.2 = some v) : chG f G p = { G with puts := G.puts.set (o.1 / 2) v } := by
  obtain ⟨o1, o2⟩ := o
  unfold chG chW at *
  split at h
  · next e =>
    rw [if_pos e]
    unfold Quire.Gath.cut
    rw [ho]
    dsimp only at he h ⊢
    rw [if_pos he, h]; rfl
  · next e =>
    rw [if_neg e]
    unfold Quire.Gath.lose
    rw [ho]
    dsimp only at he h ⊢
    rw [if_pos he, h]; rfl
theorem lose_own {G : Quire.Gath} {p : Nat} {o : Nat × Nat} (ho : G.origins[p]? = some o) (he : ¬ o.1 % 2 = 0) : G.lose p = { G with fates := loseF G (o.1 / 2) } := by
  obtain ⟨o1, o2⟩ := o
  unfold Quire.Gath.lose loseF
  rw [ho]
  dsimp only at he ⊢
  rw [if_neg he]
theorem chG_own {f : Quire.Fate} {G : Quire.Gath} {p : Nat} {o : Nat × Nat} (ho : G.origins[p]? = some o) (he : ¬ o.1 % 2 = 0) : chG f G p = { G with fates := chF f G (o.1 / 2) } := by
  have hl := lose_own ho he
  obtain ⟨o1, o2⟩ := o
  unfold chG chF
  by_cases e : f = .cut
  · rw [if_pos e]
    unfold Quire.Gath.cut
    rw [ho]
    dsimp only at he hl ⊢
    rw [if_neg he]
    by_cases e2 : Quire.cutOk G (o1 / 2) = true
    · rw [if_pos e2, if_pos ⟨e, e2⟩]
    · rw [if_neg e2, if_neg fun z => e2 z.2, hl]
  · rw [if_neg e, if_neg fun z => e z.1, hl]
theorem st_set {fs : List Quire.Fate} {k : Nat} (h : 1 ≤ k) (ft : Quire.Fate) : ((0 :: fs.map fN).map cV).set k (V.int (fN ft : Nat)) = (0 :: (fs.set (k - 1) ft).map fN).map cV := by
  obtain ⟨j, rfl⟩ : ∃ j, k = j + 1 := ⟨k - 1, by omega⟩
  rw [List.map_cons, List.set_cons_succ, List.map_cons, Nat.add_sub_cancel, List.map_set, List.map_set]
  rfl
theorem loseF_len (G : Quire.Gath) (k : Nat) : (loseF G k).length = G.fates.length := by
  unfold loseF; split <;> simp
theorem chG_sig (f : Quire.Fate) (G : Quire.Gath) (p : Nat) : (chG f G p).sig = G.sig := by
  have hl : (G.lose p).sig = G.sig := by
    unfold Quire.Gath.lose
    cases G.origins[p]? with
    | none => rfl
    | some o => obtain ⟨o1, o2⟩ := o; dsimp only; split <;> rfl
  unfold chG
  split
  · unfold Quire.Gath.cut
    cases G.origins[p]? with
    | none => rfl
    | some o =>
      obtain ⟨o1, o2⟩ := o
      dsimp only
      split
      · rfl
      · split
        · rfl
        · exact hl
  · exact hl
section
variable {P : Program} {w : World} {K : PySem.W.Frag} {mg : Str → Option Value} {base : Heap} {a : Adr}
def spLOwn (a : Adr) : Sp := fun vs H Q _ => ∃ (x : GA) (G : Quire.Gath) (k : Nat), vs = [.ref x.g, .int (k : Nat)] ∧ GAt a H x G ∧ 1 ≤ k ∧ k ≤ G.size ∧ ∀ H', Kb [x.st] H H' → GAt a H' x { G with fates := loseF G (k - 1) } → Q .non H'
theorem sc_lown : FnScope ["gathering", "k"] ["gathering", "k"] (defScope s_lose_own_leaf) := ⟨rfl, rfl, rfl, by decide +kernel, rfl, by decide +kernel, by decide +kernel⟩
theorem ok_lown (T : Txt K mg a) (OO : Ok P w K mg base CX0 1 "partner_of" ["gathering", "k"] (spPartnerOf a)) (OS : Ok P w K mg base CX0 2 "partner_state" ["gathering", "k"] (spPState a)) (d : Df K mg "lose_own_leaf" s_lose_own_leaf ["gathering", "k"]) : Ok P w K mg base CX0 3 "lose_own_leaf" ["gathering", "k"] (spLOwn a) := by
  refine d.ok fun f fd F => ?_
  refine F.ok sc_lown (fun vs H Q E h => ?_) (fun cdv A outer s H vs Q E hr h => ?_)
  · obtain ⟨x, _, _, rfl, _⟩ := h
    rfl
  · obtain ⟨x, G, k, rfl, g, k1, k2, q⟩ := h
    refine ⟨_, pss_cut (ps_if (pt_cmpR op_eq (pe_f OS hr pass0 (pa_cons (pv 0) (pa_cons (pv 1) pa_nil))) (pe_gi T.CUT) (nomark _))
        (pss_one (ps_asg (pe_gi T.LOST) (pg_sub (pe_fld (pv 0) rfl) (pe_f OO hr pass0 (pa_cons (pv 0) (pa_cons (pv 1) pa_nil))) set_list))) pss_nil)
      (pss_one (ps_asg (pe_gi T.LOST) (pg_sub (pe_fld (pv 0) rfl) (pv 1) set_list))), ?_⟩
    obtain ⟨dx, ho⟩ := g.obj
    have hnf := g.nf
    have hpt : G.partner (k - 1) + 1 = G.size + 1 - k := by unfold Quire.Gath.partner; omega
    refine ⟨fun σ H2 => ∃ fs, σ = [some (.ref x.g), some (.int (k : Nat))] ∧ Kb [x.st] H H2 ∧ GAt a H2 x { G with fates := fs } ∧ fs.length = G.size ∧ fs.set (k - 1) .lost = loseF G (k - 1), ?_, ?_⟩
    · refine ⟨_, rfl, _, rfl, x, G, k, rfl, g, k1, k2, rfl, _, rfl, ?_⟩
      by_cases e : G.fate (G.partner (k - 1)) = .cut
      · refine (if_pos (by rw [e]; rfl)).mpr ?_
        refine ⟨_, rfl, x.g, a.CG, dx, _, _, rfl, ho, T.clG, T.nGt, gf_states, _, rfl, _, rfl, x, G, k, rfl, g, x.st, _, _, G.partner (k - 1) + 1, rfl, rfl, g.st, ?_, ?_⟩
        · rw [show (G.size : Int) + 1 - (k : Nat) = ((G.partner (k - 1) + 1 : Nat) : Int) by omega]
          exact ixN_nat (by rw [List.length_map, List.length_cons, List.length_map]; omega)
        · rw [show ((0 :: G.fates.map fN).map cV).set (G.partner (k - 1) + 1) (V.int 1) = (0 :: (G.fates.set (G.partner (k - 1)) .lost).map fN).map cV from st_set (by omega) .lost]
          refine ⟨_, rfl, Kb.put (by simp), g.setSt _ (List.length_set ..), by rw [List.length_set]; exact hnf, ?_⟩
          unfold loseF
          rw [if_pos e, set_comm_lost]
      · refine (if_neg (by cases hf : G.fate (G.partner (k - 1)) <;> first | exact absurd hf e | (rw [hf]; decide) | decide)).mpr ?_
        refine ⟨G.fates, rfl, fun _ _ h _ => h, g, hnf, ?_⟩
        unfold loseF
        rw [if_neg e]
    · rintro σ H2 ⟨fs, rfl, kb, g2, hfl, hfs⟩
      obtain ⟨dx2, ho2⟩ := g2.obj
      refine ⟨_, rfl, x.g, a.CG, dx2, _, _, rfl, ho2, T.clG, T.nGt, gf_states, _, rfl, x.st, _, _, k, rfl, rfl, g2.st, ?_, ?_⟩
      · exact ixN_nat (by rw [List.length_map, List.length_cons, List.length_map]; show k < fs.length + 1; omega)
      · have es : ((0 :: fs.map fN).map cV).set k (V.int 1) = (0 :: (fs.set (k - 1) .lost).map fN).map cV := st_set k1 .lost
        rw [hfs] at es
        refine q _ (kb.trans (Kb.put (o := .lst (((0 :: fs.map fN).map cV).set k (V.int 1))) (by simp))) ?_
        rw [es]
        exact g2.setSt (loseF G (k - 1)) (by rw [loseF_len]; show G.fates.length = fs.length; omega)
def spCOwn (a : Adr) : Sp := fun vs H Q _ => ∃ (x : GA) (G : Quire.Gath) (k : Nat) (f : Quire.Fate), vs = [.ref x.g, .int (k : Nat), .int (fN f : Nat)] ∧ GAt a H x G ∧ 1 ≤ k ∧ k ≤ G.size ∧ ∀ H', Kb [x.st] H H' → GAt a H' x { G with fates := chF f G (k - 1) } → Q .non H'
theorem sc_cown : FnScope ["gathering", "k", "state"] ["gathering", "k", "state"] (defScope s_change_own_leaf) := ⟨rfl, rfl, rfl, by decide +kernel, rfl, by decide +kernel, by decide +kernel⟩
theorem ok_cown (T : Txt K mg a) (OM : Ok P w K mg base CX0 3 "may_be_cut" ["gathering", "k"] (spMayCut a)) (OL : Ok P w K mg base CX0 3 "lose_own_leaf" ["gathering", "k"] (spLOwn a)) (d : Df K mg "change_own_leaf" s_change_own_leaf ["gathering", "k", "state"]) : Ok P w K mg base CX0 4 "change_own_leaf" ["gathering", "k", "state"] (spCOwn a) := by
  refine d.ok fun f fd F => ?_
  refine F.ok sc_cown (fun vs H Q E h => ?_) (fun cdv A outer s H vs Q E hr h => ?_)
  · obtain ⟨x, _, _, _, rfl, _⟩ := h
    rfl
  · obtain ⟨x, G, k, ft, rfl, g, k1, k2, q⟩ := h
    refine ⟨_, pss_one (ps_if (pw_and (pt_cmpR op_eq (pv 2) (pe_gi T.CUT) (nomark _)) (pw_and1 (pt_val (pe_f OM hr pass0 (pa_cons (pv 0) (pa_cons (pv 1) pa_nil)))))).pt
        (pss_one (ps_asg (pe_gi T.CUT) (pg_sub (pe_fld (pv 0) rfl) (pv 1) set_list)))
        (pss_one (ps_expr (pe_f OL hr pass0 (pa_cons (pv 0) (pa_cons (pv 1) pa_nil)))))), ?_⟩
    obtain ⟨dx, ho⟩ := g.obj
    have hnf := g.nf
    refine ⟨_, rfl, rfl, _, rfl, ?_⟩
    by_cases e : ft = .cut
    · subst e
      refine (if_pos rfl).mpr ?_
      refine ⟨_, rfl, _, rfl, x, G, k, rfl, g, k1, k2, _, rfl, ?_⟩
      refine ite2 (fun e2 => ?_) fun e2 => ?_
      · refine ⟨_, rfl, x.g, a.CG, dx, _, _, rfl, ho, T.clG, T.nGt, gf_states, _, rfl, x.st, _, _, k, rfl, rfl, g.st, ?_, ?_⟩
        · exact ixN_nat (by rw [List.length_map, List.length_cons, List.length_map]; omega)
        · have ec : chF .cut G (k - 1) = G.fates.set (k - 1) .cut := by unfold chF; rw [if_pos ⟨rfl, e2⟩]
          have es : ((0 :: G.fates.map fN).map cV).set k (V.int 2) = (0 :: (G.fates.set (k - 1) .cut).map fN).map cV := st_set k1 .cut
          rw [es]
          rw [ec] at q
          exact q _ (Kb.put (by simp)) (g.setSt _ (List.length_set ..))
      · have ec : chF .cut G (k - 1) = loseF G (k - 1) := by unfold chF; rw [if_neg fun z => e2 z.2]
        rw [ec] at q
        exact ⟨_, rfl, _, rfl, x, G, k, rfl, g, k1, k2, q⟩
    · have ec : chF ft G (k - 1) = loseF G (k - 1) := by unfold chF; rw [if_neg fun z => e z.1]
      rw [ec] at q
      refine (if_neg (by cases ft <;> first | exact absurd rfl e | decide)).mpr ?_
      refine iteF ?_
      exact ⟨_, rfl, _, rfl, x, G, k, rfl, g, k1, k2, q⟩
def spChg (a : Adr) : Sp := fun vs H Q _ => ∃ (x : GA) (G : Quire.Gath) (p : Nat) (f : Quire.Fate), vs = [.ref x.g, .int (p : Nat), .int (fN f : Nat)] ∧ GAt a H x G ∧ Core G ∧ Quire.isLeaf G.word p = true ∧ ∀ H' ga, Kb [x.st, x.gp] H H' → GAt a H' { x with ga := ga } (chG f G p) → Q .non H'
theorem sc_chg : FnScope ["gathering", "place", "state", "origin", "k"] ["gathering", "place", "state"] (defScope s_change_leaf) := ⟨rfl, rfl, rfl, by decide +kernel, rfl, by decide +kernel, by decide +kernel⟩
theorem ok_chg (T : Txt K mg a) (hIT : ∃ t, mg "ITSELF" = some (.int (-1) t)) (OO : Ok P w K mg base CX0 1 "origins_of" ["gathering"] (spOrg a)) (OC : Ok P w K mg base CX0 4 "change_own_leaf" ["gathering", "k", "state"] (spCOwn a))
    (OT : Ok P w K mg base CX0 3 "cut_from" ["row", "place"] (spLF K Quire.cut)) (OL : Ok P w K mg base CX0 2 "lose_from" ["row", "place"] (spLF K Quire.lose)) (d : Df K mg "change_leaf" s_change_leaf ["gathering", "place", "state"]) : Ok P w K mg base CX0 5 "change_leaf" ["gathering", "place", "state"] (spChg a) := by
  refine d.ok fun f fd F => ?_
  refine F.ok sc_chg (fun vs H Q E h => ?_) (fun cdv A outer s H vs Q E hr h => ?_)
  · obtain ⟨x, _, _, _, rfl, _⟩ := h
    rfl
  · obtain ⟨x, G, p, ft, rfl, g, hC, hlf, q⟩ := h
    refine ⟨_, pss_cons (ps_set (i := 3) sc_chg.nd rfl (Or.inl rfl) (pe_ix ix_list (pe_f OO hr pass0 (pa_cons (pv 0) pa_nil)) (pv 1) (fun _ _ => rfl)))
      (pss_cons (ps_set (i := 4) sc_chg.nd rfl (Or.inl rfl) (pe_ix ix_tup (pv 3) pe_int (fun _ _ => rfl)))
      (pss_one (ps_if (pt_cmpR op_eq (pe_ix ix_tup (pv 3) pe_int (fun _ _ => rfl)) (pe_gi hIT) (nomark _))
        (pss_one (ps_expr (pe_f OC hr pass0 (pa_cons (pv 0) (pa_cons (pv 4) (pa_cons (pv 2) pa_nil))))))
        (pss_one (ps_if (pt_cmpR op_eq (pv 2) (pe_gi T.CUT) (nomark _))
          (pss_one (ps_asg (pe_f OT hr pass0 (pa_cons (pe_ix ix_list (pe_fld (pv 0) rfl) (pv 4) (fun _ _ => rfl)) (pa_cons (pe_ix ix_tup (pv 3) pe_int (fun _ _ => rfl)) pa_nil))) (pg_sub (pe_fld (pv 0) rfl) (pv 4) set_list)))
          (pss_one (ps_asg (pe_f OL hr pass0 (pa_cons (pe_ix ix_list (pe_fld (pv 0) rfl) (pv 4) (fun _ _ => rfl)) (pa_cons (pe_ix ix_tup (pv 3) pe_int (fun _ _ => rfl)) pa_nil))) (pg_sub (pe_fld (pv 0) rfl) (pv 4) set_list)))))))), ?_⟩
    have hpl := isLeaf_lt hlf
    obtain ⟨o, ho, hat, hle, hev, hod⟩ := org_get hpl
    refine ⟨_, rfl, x, G, rfl, g, fun H1 D ts s1 hD O1 => ?_⟩
    obtain ⟨t, ht, htt⟩ := O1.get (p := p) (o := cvO o) (by rw [List.getElem?_map, ho]; rfl)
    refine ⟨_, rfl, D, _, _, V.ref t, rfl, rfl, SqL.of hD, at_of rfl (by rw [List.getElem?_map, ht]; rfl), ?_⟩
    refine ⟨_, rfl, t, _, _, _, rfl, rfl, SqT.of htt, at_of (j := 0) rfl rfl, ?_⟩
    refine ⟨_, rfl, t, _, _, _, rfl, rfl, SqT.of htt, at_of (j := 1) rfl rfl, rfl, _, rfl, ?_⟩
    have g1 := g.same s1
    obtain ⟨dx, hob⟩ := g1.obj
    by_cases he : o.1 % 2 = 0
    · have ec : cvO o = (o.1 / 2, (o.2 : Int)) := by unfold cvO; rw [if_pos he]
      rw [ec] at htt ⊢
      refine (if_neg (by
        intro z
        have z := V.int.inj (of_decide_eq_true z)
        dsimp only at z
        omega)).mpr ?_
      have hk : o.1 / 2 ≤ G.size := by omega
      obtain ⟨b, hb, hb2, hbl⟩ := g1.put hk
      have hgl : x.ga.length = G.size + 1 := by rw [g.ga.len, g.np]
      have hl2 : Quire.isLeaf (G.put (o.1 / 2)) o.2 = true := by
        unfold orgAt at hat
        rw [if_pos he] at hat
        unfold Quire.isLeaf at hlf ⊢
        rw [hat]; exact hlf
      have fin : ∀ H2 D2 wd', Same H1 H2 → chW ft (G.put (o.1 / 2)) o.2 = some wd' → wd'.length ≤ (G.put (o.1 / 2)).length → H2 D2 = some (.lst ((Quire.nums wd').map cV)) →
          ∃ v, v = V.ref D2 ∧ Q .non (upd H2 x.gp (.lst ((x.ga.map V.ref).set (o.1 / 2) v))) := fun H2 D2 wd' s2 e2 l2 h2 => by
        refine ⟨_, rfl, ?_⟩
        rw [show (x.ga.map V.ref).set (o.1 / 2) (V.ref D2) = (x.ga.set (o.1 / 2) D2).map V.ref by rw [List.map_set]]
        refine q _ (x.ga.set (o.1 / 2) D2) ((Same.kb (S := [x.st, x.gp]) (s1.trans s2)).trans (Kb.put (by simp))) ?_
        rw [chG_gap ho he e2]
        exact (g1.same s2).setGp (o.1 / 2) h2 (Nat.le_trans l2 hbl)
      refine ⟨_, rfl, rfl, _, rfl, ?_⟩
      by_cases e : ft = .cut
      · subst e
        refine (if_pos rfl).mpr ?_
        refine ⟨_, rfl, x.g, a.CG, dx, _, _, rfl, hob, T.clG, T.nGg, gf_gaps, _, rfl, x.gp, _, _, _, rfl, rfl, SqL.of g1.gp, at_of rfl hb, _, rfl, t, _, _, _, rfl, rfl, SqT.of htt, at_of (j := 1) rfl rfl, b, G.put (o.1 / 2), o.2, rfl, SqL.of hb2, by omega, paired_put hC _, hl2, fun H2 D2 wd' s2 e2 l2 h2 => ?_⟩
        obtain ⟨v, rfl, fq⟩ := fin H2 D2 wd' s2 e2 l2 h2
        exact ⟨_, rfl, x.g, a.CG, dx, _, _, rfl, s2 _ _ hob, T.clG, T.nGg, gf_gaps, _, rfl, x.gp, _, _, o.1 / 2, rfl, rfl, s2 _ _ g1.gp, ixN_nat (by rw [List.length_map, hgl]; omega), fq⟩
      · refine (if_neg (by cases ft <;> first | exact absurd rfl e | decide)).mpr ?_
        refine ⟨_, rfl, x.g, a.CG, dx, _, _, rfl, hob, T.clG, T.nGg, gf_gaps, _, rfl, x.gp, _, _, _, rfl, rfl, SqL.of g1.gp, at_of rfl hb, _, rfl, t, _, _, _, rfl, rfl, SqT.of htt, at_of (j := 1) rfl rfl, b, G.put (o.1 / 2), o.2, rfl, SqL.of hb2, by omega, paired_put hC _, hl2, fun H2 D2 wd' s2 e2 l2 h2 => ?_⟩
        obtain ⟨v, rfl, fq⟩ := fin H2 D2 wd' s2 (by unfold chW; rw [if_neg e]; exact e2) l2 h2
        exact ⟨_, rfl, x.g, a.CG, dx, _, _, rfl, s2 _ _ hob, T.clG, T.nGg, gf_gaps, _, rfl, x.gp, _, _, o.1 / 2, rfl, rfl, s2 _ _ g1.gp, ixN_nat (by rw [List.length_map, hgl]; omega), fq⟩
    · have ec : cvO o = (o.1 / 2 + 1, -1) := by unfold cvO; rw [if_neg he]
      rw [ec] at htt ⊢
      refine (if_pos rfl).mpr ?_
      refine ⟨_, rfl, _, rfl, _, rfl, x, G, o.1 / 2 + 1, ft, rfl, g1, by omega, by omega, fun H2 k2 g2 => ?_⟩
      rw [Nat.add_sub_cancel, ← chG_own ho he] at g2
      exact q H2 x.ga ((Same.kb (S := [x.st, x.gp]) s1).trans (k2.mono (by simp))) g2
end
theorem MAll.at {a : Adr} {H H' : Hp} {S : List Addr} {x' : GA} {G' : Quire.Gath} (k : Kb S H H') (g' : GAt a H' x' G') : ∀ {xs : List GA} {m : Quire.Make} (i : Nat), MAll a H xs m → i < xs.length → (∀ j y, j ≠ i → xs[j]? = some y → ∀ c ∈ S, c ∉ adsOf y) → MAll a H' (xs.set i x') (m.set i G')
  | x :: xs, G :: m, 0, h, _, n => ⟨g', h.2.keep fun y _ hy gy => by
      obtain ⟨j, hj, e⟩ := List.getElem_of_mem hy
      exact gy.kb k (n (j + 1) y (by omega) (by rw [List.getElem?_cons_succ, List.getElem?_eq_getElem hj, e]))⟩
  | x :: xs, G :: m, i + 1, h, hi, n => ⟨h.1.kb k (n 0 x (by omega) rfl), MAll.at k g' i h.2 (by simpa using hi) fun j y hj hy => n (j + 1) y (by omega) (by simpa using hy)⟩
  | [], [], _, _, hi, _ => absurd hi (by simp)
  | [], _ :: _, _, h, _, _ => h.elim
  | _ :: _, [], _, h, _, _ => h.elim
theorem own_ne {xs : List GA} (h : (ownOf xs).Nodup) {i j : Nat} {x y : GA} (hij : j ≠ i) (hx : xs[i]? = some x) (hy : xs[j]? = some y) : ∀ c ∈ [x.st, x.gp], c ≠ y.st ∧ c ≠ y.gp := by
  induction xs generalizing i j with
  | nil => simp at hx
  | cons z r ih =>
    have hd : (z.st :: z.gp :: ownOf r).Nodup := h
    have hr : (ownOf r).Nodup := by
      rw [List.nodup_cons, List.nodup_cons] at hd; exact hd.2.2
    have far : ∀ {k : Nat} {u : GA}, r[k]? = some u → u.st ∈ ownOf r ∧ u.gp ∈ ownOf r := fun hk => by
      have hm := List.mem_of_getElem? hk
      exact ⟨List.mem_flatMap.mpr ⟨_, hm, by simp⟩, List.mem_flatMap.mpr ⟨_, hm, by simp⟩⟩
    rw [List.nodup_cons, List.nodup_cons] at hd
    cases i with
    | zero =>
      have : z = x := by simpa using hx
      subst this
      cases j with
      | zero => exact absurd rfl hij
      | succ j =>
        obtain ⟨m1, m2⟩ := far (by simpa using hy)
        intro c hc
        simp only [List.mem_cons, List.not_mem_nil, or_false] at hc
        rcases hc with rfl | rfl
        · exact ⟨fun e => hd.1 (by rw [e]; exact List.mem_cons_of_mem _ m1), fun e => hd.1 (by rw [e]; exact List.mem_cons_of_mem _ m2)⟩
        · exact ⟨fun e => hd.2.1 (by rw [e]; exact m1), fun e => hd.2.1 (by rw [e]; exact m2)⟩
    | succ i =>
      cases j with
      | zero =>
        have : z = y := by simpa using hy
        subst this
        obtain ⟨m1, m2⟩ := far (u := x) (by simpa using hx)
        intro c hc
        simp only [List.mem_cons, List.not_mem_nil, or_false] at hc
        rcases hc with rfl | rfl
        · exact ⟨fun e => hd.1 (by rw [← e]; exact List.mem_cons_of_mem _ m1), fun e => hd.2.1 (by rw [← e]; exact m1)⟩
        · exact ⟨fun e => hd.1 (by rw [← e]; exact List.mem_cons_of_mem _ m2), fun e => hd.2.1 (by rw [← e]; exact m2)⟩
      | succ j => exact ih hr (i := i) (j := j) (by omega) (by simpa using hx) (by simpa using hy)
theorem gp_far {a : Adr} {H : Hp} {xs : List GA} {i j : Nat} {x y : GA} {G G2 : Quire.Gath} (h : (ownOf xs).Nodup) (hij : j ≠ i) (hx : xs[i]? = some x) (hy : xs[j]? = some y) (g : GAt a H x G) (gy : GAt a H y G2) : x.gp ∉ adsOf y := by
  have n1 := own_ne h hij hx hy x.gp (by simp)
  obtain ⟨dx, e⟩ := gy.obj
  unfold adsOf
  simp only [List.mem_cons, not_or]
  refine ⟨ne_of g.gp e (by intro z; cases z), ne_of g.gp gy.sig (by intro z; cases z), n1.1, n1.2, fun hb => ?_⟩
  obtain ⟨w, hw⟩ := gy.ga.mem hb
  exact g.gp_ne.2.2.2 x.gp ⟨w, hw⟩ rfl
theorem refs_set {xs : List GA} {i : Nat} {x x' : GA} (hx : xs[i]? = some x) (e : x'.g = x.g) : refs (xs.set i x') = refs xs := by
  unfold refs
  rw [List.map_set]
  apply List.ext_getElem?
  intro j
  rw [List.getElem?_set]
  by_cases hj : i = j
  · subst hj
    have hi := (List.getElem?_eq_some_iff.mp hx).1
    rw [if_pos rfl, if_pos (by rw [List.length_map]; exact hi), List.getElem?_map, hx, e]; rfl
  · rw [if_neg hj]
theorem zero_ne {H : Hp} {b c : Addr} {vs : List V} {w : Quire.Word} (hb : H b = some (.lst (V.int 0 :: vs))) (hc : H c = some (.lst ((Quire.nums w).map cV))) : b ≠ c := by
  refine ne_of hb hc ?_
  intro z
  have z := HO.lst.inj z
  cases w with
  | nil => cases z
  | cons s r =>
    have z : V.int (0 : Int) = V.int (s.num : Nat) := (List.cons.inj z).1
    have := V.int.inj z
    cases s <;> simp [Quire.Sign.num] at this
theorem st_far {a : Adr} {H : Hp} {xs : List GA} {i j : Nat} {x y : GA} {G G2 : Quire.Gath} (h : (ownOf xs).Nodup) (hij : j ≠ i) (hx : xs[i]? = some x) (hy : xs[j]? = some y) (g : GAt a H x G) (gy : GAt a H y G2) : x.st ∉ adsOf y := by
  have n1 := own_ne h hij hx hy x.st (by simp)
  obtain ⟨dx, e⟩ := gy.obj
  unfold adsOf
  simp only [List.mem_cons, not_or]
  refine ⟨ne_of g.st e (by intro z; cases z), ne_of g.st gy.sig (by intro z; cases z), n1.1, n1.2, fun hb => ?_⟩
  obtain ⟨w, hw⟩ := gy.ga.mem hb
  exact zero_ne g.st hw rfl
def ansC (f : Quire.Fate) (t : List Nat) (l : Nat) : QuireB.Answer := QuireB.ofLeaf t l fun m i g _ p => QuireB.gives (m.with_ i (chG f g p))
theorem us1 {M : Value → Value → Value → Option Addr → Value → Value → List Value → Prop} (h : ∀ a b c d e f x0, M a b c d e f [x0]) : ∀ a b c d e f us, us.length = 1 → M a b c d e f us
  | a, b, c, d, e, f, [x0], _ => h a b c d e f x0
theorem us2 {M : Value → Value → Value → Option Addr → Value → Value → List Value → Prop} (h : ∀ a b c d e f x0 x1, M a b c d e f [x0, x1]) : ∀ a b c d e f us, us.length = 2 → M a b c d e f us
  | a, b, c, d, e, f, [x0, x1], _ => h a b c d e f x0 x1
theorem us3 {M : Value → Value → Value → Option Addr → Value → Value → List Value → Prop} (h : ∀ a b c d e f x0 x1 x2, M a b c d e f [x0, x1, x2]) : ∀ a b c d e f us, us.length = 3 → M a b c d e f us
  | a, b, c, d, e, f, [x0, x1, x2], _ => h a b c d e f x0 x1 x2
theorem us4 {M : Value → Value → Value → Option Addr → Value → Value → List Value → Prop} (h : ∀ a b c d e f x0 x1 x2 x3, M a b c d e f [x0, x1, x2, x3]) : ∀ a b c d e f us, us.length = 4 → M a b c d e f us
  | a, b, c, d, e, f, [x0, x1, x2, x3], _ => h a b c d e f x0 x1 x2 x3
def hlG (g : Quire.Gath) : Bool := Quire.hasLeaf g.word
section
variable {P : Program} {w : World} {K : PySem.W.Frag} {mg : Str → Option Value} {base : Heap} {a : Adr}
def spAns (K : PySem.W.Frag) : Sp := fun vs H Q _ => ∃ (tl : Addr) (t : List Nat) (l : Nat) (f : Quire.Fate), vs = [.int (l : Nat), .ref tl, .int (fN f : Nat)] ∧ Fz K H tl (t.map cV) ∧ t.length ≤ 32768 ∧ ∀ H' p, H' p = some (.lst ((ansC f t l).map V.int)) → Q (.ref p) H'
theorem sc_ans : FnScope ["l", "t", "state", "book", "i", "number", "left", "gathering"] ["l", "t", "state"] (defScope s_answer_change) := ⟨rfl, rfl, rfl, by decide +kernel, rfl, by decide +kernel, by decide +kernel⟩
theorem ok_ans (T : Txt K mg a) (hNT : ∃ t, mg "NOT_THERE" = some (.int (-4) t)) (hNL : ∃ t, mg "NOTHING_LEFT" = some (.int (-5) t)) (OB : Ok P w K mg base CX0 11 "read_book" ["text"] (spBook K a)) (OG : Ok P w K mg base CX0 5 "gathering_of_leaf" ["gatherings", "number"] (spGOL a))
    (OF : Ok P w K mg base CX0 5 "first_leaf" ["gatherings", "i"] (spFirst a)) (OW : Ok P w K mg base CX0 4 "word_of" ["gathering"] (spWord a)) (OL : Ok P w K mg base CX0 2 "leaf_place" ["row", "number"] (spLPl K)) (OC : Ok P w K mg base CX0 2 "count_leaves" ["row"] (spCount K))
    (OH : Ok P w K mg base CX0 5 "change_leaf" ["gathering", "place", "state"] (spChg a)) (OT : Ok P w K mg base CX0 7 "tell_formula" ["gatherings"] (spTell a))
    (d : Df K mg "answer_change" s_answer_change ["l", "t", "state"]) : Ok P w K mg base CX0 12 "answer_change" ["l", "t", "state"] (spAns K) := by
  refine d.ok fun f fd F => ?_
  refine F.ok sc_ans (fun vs H Q E h => ?_) (fun cdv A outer s H vs Q E hr h => ?_)
  · obtain ⟨x, _, _, _, rfl, _⟩ := h
    rfl
  · obtain ⟨tl, t, l, ft, rfl, hF, hlen, q⟩ := h
    refine ⟨_, pss_cons (ps_set (i := 3) sc_ans.nd rfl (Or.inl rfl) (pe_f OB hr pass0 (pa_cons (pv 1) pa_nil)))
      (pss_cons (ps_if (pt_cmpR op_ne (pe_fld (pv 3) rfl) (pe_gi T.ACCEPTED) (nomark _)) (pss_one (ps_ret (pe_lst (pa_cons (pe_fld (pv 3) rfl) pa_nil)))) pss_nil)
      (pss_cons (ps_set (i := 4) sc_ans.nd rfl (Or.inl rfl) (pe_f OG hr pass0 (pa_cons (pe_fld (pv 3) rfl) (pa_cons (pv 0) pa_nil))))
      (pss_cons (ps_if (pt_cmpR op_lt (pv 4) pe_int (nomark _)) (pss_one (ps_ret (pe_lst (pa_cons (pe_gi hNT) pa_nil)))) pss_nil)
      (pss_cons (ps_set (i := 5) sc_ans.nd rfl (Or.inl rfl) (pe_op op_sub (pv 0) (pe_f OF hr pass0 (pa_cons (pe_fld (pv 3) rfl) (pa_cons (pv 4) pa_nil)))))
      (pss_cons (ps_expr (pe_f OH hr pass0 (pa_cons (pe_ix ix_list (pe_fld (pv 3) rfl) (pv 4) (fun _ _ => rfl)) (pa_cons (pe_f OL hr pass0 (pa_cons (pe_f OW hr pass0 (pa_cons (pe_ix ix_list (pe_fld (pv 3) rfl) (pv 4) (fun _ _ => rfl)) pa_nil)) (pa_cons (pv 5) pa_nil))) (pa_cons (pv 2) pa_nil)))))
      (pss_cons (ps_setLc (i := 6) (own := [("gathering", 7)]) rfl sc_ans.nd rfl rfl (sw_true rfl rfl rfl rfl) (pi_list (pe_fld (pv 3) rfl)) (blkOk_by (by rfl))
        (fun _ _ _ _ _ => pg_name (i := 7) sc_ans.nd rfl (Or.inl rfl)) (fun _ _ _ _ _ => pts_one (pt_cmpR op_gt (pe_f OC hr pass0 (pa_cons (pe_f OW hr pass0 (pa_cons (pv 7) pa_nil)) pa_nil)) pe_int (nomark _))) (fun _ _ _ _ _ => pv 7))
      (pss_cons (ps_if (pt_cmpR (op_eqL0 hr.units) (pv 6) (pe_lst pa_nil) (nomark _)) (pss_one (ps_ret (pe_lst (pa_cons (pe_gi hNL) pa_nil)))) pss_nil)
      (pss_one (ps_ret (pe_f OT hr pass0 (pa_cons (pv 6) pa_nil))))))))))), ?_⟩
    refine ⟨_, rfl, tl, t, rfl, hF, hlen, fun H1 b dx L rv pl s1 hb hk => ?_⟩
    refine ⟨_, rfl, b, a.CB, dx, _, _, rfl, hb, T.clB, T.nBr, bf_r, rfl, _, rfl, ?_⟩
    unfold BkIs at hk
    have fin : ∀ (H2 : Hp) (l' : List Int), ansC ft t l = l' → ∀ c, H2 c = none → Q (.ref c) (upd H2 c (.lst (l'.map V.int))) := fun H2 l e c hc => q _ c (by rw [upd_same, e])
    by_cases h1 : 16384 < t.length
    · rw [if_pos h1] at hk
      subst hk
      refine (if_pos (by decide)).mpr ?_
      refine ⟨_, rfl, b, a.CB, dx, _, _, rfl, hb, T.clB, T.nBr, bf_r, by show 1 ≤ sizeLine; decide, fun c hc => ?_⟩
      refine fin H1 [-2] ?_ c hc
      unfold ansC QuireB.ofLeaf QuireB.of
      dsimp only
      rw [if_pos (show QuireB.TEXT < t.length from h1)]
      rfl
    · rw [if_neg h1] at hk
      cases z : Quire.read t with
      | error e =>
        rw [z] at hk
        obtain ⟨rfl, rfl⟩ := hk
        refine (if_pos (by decide)).mpr ?_
        refine ⟨_, rfl, b, a.CB, dx, _, _, rfl, hb, T.clB, T.nBr, bf_r, by show 1 ≤ sizeLine; decide, fun c hc => ?_⟩
        refine fin H1 [-6] ?_ c hc
        unfold ansC QuireB.ofLeaf QuireB.of
        dsimp only
        rw [if_neg (show ¬ QuireB.TEXT < t.length from h1), z]
        rfl
      | ok m =>
        rw [z] at hk
        obtain ⟨rfl, xs, hL, hM, hnd, _, hm⟩ := hk
        have ea : ansC ft t l = (match (lvs 0 m)[l]? with
            | none => QuireB.says (-4)
            | some (i, j, p) => match m[i]? with
              | none => QuireB.says (-4)
              | some g => QuireB.gives (m.with_ i (chG ft g p))) := by
          unfold ansC QuireB.ofLeaf QuireB.of
          dsimp only
          rw [if_neg (show ¬ QuireB.TEXT < t.length from h1), z]
          dsimp only
          rw [leavesOf_eq]
          cases (lvs 0 m)[l]? with
          | none => rfl
          | some v =>
            obtain ⟨i, j, p⟩ := v
            dsimp only
            cases m[i]? <;> rfl
        refine (if_neg (by decide)).mpr ?_
        refine ⟨_, rfl, b, a.CB, dx, _, _, rfl, hb, T.clB, T.nBg, bf_g, _, rfl, L, xs, m, l, rfl, hL, hM, hm, fun H2 s2 => ⟨fun i g hG hle hlt => ?_, fun hle => ?_⟩⟩
        · refine ⟨_, rfl, _, _, rfl, rfl, _, rfl, ?_⟩
          refine (if_neg (by simp)).mpr ?_
          have hb2 := s2 _ _ hb
          have hL2 := s2 _ _ hL
          have hM2 := hM.same s2
          refine ⟨_, rfl, _, rfl, b, a.CB, dx, _, _, rfl, hb2, T.clB, T.nBg, bf_g, _, rfl, L, xs, m, i, rfl, hL2, hM2, hm, fun H3 s3 => ?_⟩
          obtain ⟨x, hx, gx⟩ := hM2.get hG
          have gx3 := gx.same s3
          have hb3 := s3 _ _ hb2
          have hL3 := s3 _ _ hL2
          have hM3 := hM2.same s3
          have wl := gx3.word_len
          have hat : atI (refs xs) ((i : Nat) : Int) = some (V.ref x.g) := at_of rfl (by unfold refs; rw [List.getElem?_map, hx]; rfl)
          have ej : (l : Int) - (QuireB.firstLeaf m i : Nat) = ((l - QuireB.firstLeaf m i : Nat) : Int) := by omega
          refine ⟨_, _, rfl, rfl, _, rfl, b, a.CB, dx, _, _, rfl, hb3, T.clB, T.nBg, bf_g, _, rfl, L, _, _, _, rfl, rfl, SqL.of hL3, hat, _, rfl, b, a.CB, dx, _, _, rfl, hb3, T.clB, T.nBg, bf_g, _, rfl, L, _, _, _, rfl, rfl, SqL.of hL3, hat, x, g, rfl, gx3, fun H4 wa s4 _ hw => ?_⟩
          refine ⟨_, rfl, wa, g.word, l - QuireB.firstLeaf m i, ?_, SqL.of hw, wl, hlt, fun H5 s5 => ?_⟩
          · show [V.ref wa, V.int ((l : Int) - (QuireB.firstLeaf m i : Nat))] = _
            rw [ej]
          have hlp : (Quire.leafPlaces g.word).getD (l - QuireB.firstLeaf m i) 0 ∈ lpN g.word g.word.length := by
            rw [← leafPlaces_eq, List.getD_eq_getElem?_getD, List.getElem?_eq_getElem (by rw [lp_len]; exact hlt)]
            exact List.getElem_mem _
          obtain ⟨_, hpl⟩ := lpN_lt hlp
          have hFu := (read_full z).1
          have hC := (hFu g (List.mem_of_getElem? hG)).core
          have e2 := lvs_in m 0 i l hG hle hlt
          rw [Nat.zero_add] at e2
          rw [e2] at ea
          dsimp only at ea
          rw [hG] at ea
          dsimp only at ea
          generalize (Quire.leafPlaces g.word).getD (l - QuireB.firstLeaf m i) 0 = p at ea hpl
          have s35 := s4.trans s5
          have g5 := gx3.same s35
          have hb5 := s35 _ _ hb3
          have hL5 := s35 _ _ hL3
          have hM5 := hM3.same s35
          refine ⟨_, rfl, x, g, p, ft, rfl, g5, hC, hpl, fun H6 ga k6 g6 => ?_⟩
          have hil : i < xs.length := (List.getElem?_eq_some_iff.mp hx).1
          have him : i < m.length := (List.getElem?_eq_some_iff.mp hG).1
          have hLn : L ∉ adsOf x := list_ne g5 hL5 hM5 (by intro e; rw [e] at hil; simp at hil)
          have hLp : L ∉ [x.st, x.gp] := fun e => hLn (by
            simp only [List.mem_cons, List.not_mem_nil, or_false] at e
            rcases e with e | e <;> rw [e] <;> simp [adsOf])
          have hbp : b ∉ [x.st, x.gp] := fun e => by
            simp only [List.mem_cons, List.not_mem_nil, or_false] at e
            rcases e with e | e
            · rw [e, g5.st] at hb5; cases hb5
            · rw [e, g5.gp] at hb5; cases hb5
          have hM6 : MAll a H6 (xs.set i { x with ga := ga }) (m.set i (chG ft g p)) := MAll.at k6 g6 i hM5 hil fun j y hj hy u hu => by
            have hjl := (List.getElem?_eq_some_iff.mp hy).1
            have hjm : j < m.length := by rw [← hM5.len]; exact hjl
            have hGy : m[j]? = some m[j] := List.getElem?_eq_getElem hjm
            obtain ⟨y', hy', gy⟩ := hM5.get hGy
            have : y' = y := by rw [hy] at hy'; exact (Option.some.inj hy').symm
            subst this
            simp only [List.mem_cons, List.not_mem_nil, or_false] at hu
            rcases hu with hu | hu
            · rw [hu]; exact st_far hnd hj hx hy g5 gy
            · rw [hu]; exact gp_far hnd hj hx hy g5 gy
          have hL6 : H6 L = some (.lst (refs (xs.set i { x with ga := ga }))) := by
            rw [refs_set (x' := { x with ga := ga }) hx rfl]; exact k6 _ _ hL5 hLp
          have hb6 := k6 _ _ hb5 hbp
          have hml : (m.set i (chG ft g p)).length ≤ 48 := by rw [List.length_set]; exact hm
          have hwi : (m.set i (chG ft g p)).filter hlG = m.with_ i (chG ft g p) := by
            rw [filter_set (f := hlG) (fun x hx => (hFu x hx).lf) him]; rfl
          have hsg : ∀ g' ∈ m.set i (chG ft g p), g'.sig.ok = true := fun g' hg' => by
            rcases List.mem_or_eq_of_mem_set hg' with hg' | hg'
            · exact (hFu g' hg').core.sg
            · rw [hg', chG_sig]; exact hC.sg
          generalize xs.set i { x with ga := ga } = xs' at hM6 hL6
          generalize m.set i (chG ft g p) = m' at hM6 hml hwi hsg
          have hxl := hM6.len
          refine ⟨_, rfl, b, a.CB, dx, _, _, rfl, hb6, T.clB, T.nBg, bf_g, L, rfl, ⟨_, SqL.of hL6⟩, fun D hD => ?_⟩
          refine lc_list (K := K) (a := L) (xs := refs xs') (fun j H' => Same H6 H' ∧ ∃ ys, H' D = some (.lst (refs ys)) ∧ MAll a H6 ys ((m'.take j).filter hlG)) ⟨Same.new hD, [], upd_same, trivial⟩ (fun j H' _ ⟨s7, _⟩ => SqL.of (s7 _ _ hL6)) ?_ ?_
          · rintro j y H7 hj ⟨s7, ys, h7, M7⟩
            have hjl : j < xs'.length := by have := (List.getElem?_eq_some_iff.mp hj).1; simpa [refs] using this
            have hjm : j < m'.length := by omega
            have hG7 : m'[j]? = some m'[j] := List.getElem?_eq_getElem hjm
            obtain ⟨x1, hx1, gx1⟩ := hM6.get hG7
            have ey : y = V.ref x1.g := by
              unfold refs at hj
              rw [List.getElem?_map, hx1] at hj
              exact (Option.some.inj hj).symm
            subst ey
            have gx7 := gx1.same s7
            have wl7 := gx7.word_len
            have hyl := M7.len
            have hfl : ((m'.take j).filter hlG).length ≤ 48 := Nat.le_trans (List.length_filter_le _ _) (by rw [List.length_take]; omega)
            refine ⟨rfl, _, rfl, x1, m'[j], rfl, gx7, fun H8 l8 s8 _ hl8 => ⟨l8, Quire.nums m'[j].word, rfl, SqL.of hl8, by rw [nums_len]; omega, fun H9 s9 => ?_⟩⟩
            rw [leafN_eq]
            have s79 := s8.trans s9
            have hlp7 := leaves_pos m'[j].word
            refine ⟨_, _, rfl, rfl, _, rfl, ?_⟩
            refine ite2 (fun e => ?_) fun e => ?_
            · have e : hlG m'[j] = true := by
                unfold hlG
                rw [← hlp7]
                refine decide_eq_true ?_
                have := of_decide_eq_true e
                unfold QuireB.leavesIn
                omega
              refine ⟨_, rfl, _, s79 _ _ h7, ?_, fun c o hc => ?_, ys ++ [x1], ?_, ?_⟩
              · unfold refs
                rw [List.length_map, hyl]
                exact Nat.lt_of_le_of_lt hfl (by decide)
              · rw [upd_ne (ne_of_none hc hD)]; exact s79 _ _ (s7 _ _ hc)
              · rw [upd_same]; unfold refs; rw [List.map_append]; rfl
              · rw [List.take_succ, hG7, List.filter_append]
                refine MAll.app M7 ?_
                show MAll a H6 [x1] (List.filter hlG [m'[j]])
                rw [List.filter_cons, if_pos e, List.filter_nil]
                exact ⟨gx1, trivial⟩
            · have e : ¬ hlG m'[j] = true := fun z => e (decide_eq_true (by
                unfold hlG at z
                rw [← hlp7] at z
                have := of_decide_eq_true z
                unfold QuireB.leavesIn at this
                omega))
              refine ⟨s7.trans s79, ys, s79 _ _ h7, ?_⟩
              rw [List.take_succ, hG7, List.filter_append]
              show MAll a H6 ys (_ ++ List.filter hlG [m'[j]])
              rw [List.filter_cons, if_neg e, List.filter_nil, List.append_nil]
              exact M7
          · rintro H7 ⟨s7, ys, h7, M7⟩
            have el : (refs xs').length = m'.length := by simp only [refs, List.length_map, hxl]
            rw [el, List.take_length, hwi] at M7
            have hyl := M7.len
            refine ⟨_, rfl, Nat.zero_le _, fun o1 ho1 => ?_⟩
            have s8 : Same H7 (upd H7 o1 (.lst [])) := Same.new ho1
            refine ⟨D, o1, _, rfl, rfl, SqL.of (s8 _ _ h7), SqL.of upd_same, _, rfl, ?_⟩
            generalize upd H7 o1 (.lst []) = H8 at s8
            unfold QuireB.gives at ea
            by_cases e0 : m.with_ i (chG ft g p) = []
            · have ey : ys = [] := by
                rw [e0] at hyl
                exact List.eq_nil_of_length_eq_zero hyl
              refine (if_pos (by simp [ey, refs])).mpr ?_
              refine ⟨by show 1 ≤ sizeLine; decide, fun c hc => fin H8 [-5] ?_ c hc⟩
              rw [ea, if_pos (by rw [e0]; rfl)]; rfl
            · have ey : ys ≠ [] := fun z => e0 (by
                rw [z] at hyl
                exact List.eq_nil_of_length_eq_zero hyl.symm)
              refine (if_neg (by simp [ey, refs])).mpr ?_
              refine ⟨_, rfl, D, ys, m.with_ i (chG ft g p), rfl, s8 _ _ h7, M7.same (s7.trans s8), fun g' hg' => ?_, ?_, fun H9 p9 hp9 => q H9 p9 ?_⟩
              · rw [← hwi] at hg'
                exact hsg g' (List.mem_filter.mp hg').1
              · rw [← hwi]
                exact Nat.le_trans (List.length_filter_le _ _) hml
              · rw [ea, if_neg (by simpa using e0)]
                exact hp9
        · rw [lvs_out m 0 l hle] at ea
          refine ⟨_, rfl, _, _, rfl, rfl, _, rfl, ?_⟩
          refine (if_pos (by decide)).mpr ?_
          refine ⟨by show 1 ≤ sizeLine; decide, fun c hc => ?_⟩
          exact fin H2 [-4] ea c hc
end
section
variable {P : Program} {w : World} {K : PySem.W.Frag} {mg : Str → Option Value} {base : Heap} {a : Adr}
def spCutF (K : PySem.W.Frag) : Sp := fun vs H Q _ => ∃ (tl : Addr) (t : List Nat) (l : Nat), vs = [.int (l : Nat), .ref tl] ∧ Fz K H tl (t.map cV) ∧ t.length ≤ 32768 ∧ ∀ H' p, H' p = some (.lst ((QuireB.answer (.cut t l)).map V.int)) → Q (.ref p) H'
theorem sc_cutF : FnScope ["l", "t"] ["l", "t"] (defScope s_cut) := ⟨rfl, rfl, rfl, by decide +kernel, rfl, by decide +kernel, by decide +kernel⟩
theorem fn_cut (T : Txt K mg a) (OA : Ok P w K mg base CX0 12 "answer_change" ["l", "t", "state"] (spAns K)) {f : Addr} {fd : FuncData} (F : Fun K "cut" "cut" s_cut f fd) : FnOk P w K mg base CX0 13 f fd ["l", "t"] (spCutF K) := by
  refine F.ok sc_cutF (fun vs H Q E h => ?_) (fun cdv A outer s H vs Q E hr h => ?_)
  · obtain ⟨x, _, _, rfl, _⟩ := h
    rfl
  · obtain ⟨tl, t, l, rfl, hF, hlen, q⟩ := h
    refine ⟨_, pss_one (ps_ret (pe_f OA hr pass0 (pa_cons (pv 0) (pa_cons (pv 1) (pa_cons (pe_gi T.CUT) pa_nil))))), ?_⟩
    exact ⟨_, rfl, _, rfl, tl, t, l, .cut, rfl, hF, hlen, q⟩
theorem chg_of (T : Txt K mg a) (D : Rdg K mg a) (hIT : ∃ t, mg "ITSELF" = some (.int (-1) t)) (d1 : Df K mg "partners_of" s_partners_of ["row"]) (d2 : Df K mg "lose_from" s_lose_from ["row", "place"]) (d3 : Df K mg "cut_from" s_cut_from ["row", "place"]) (d4 : Df K mg "origins_of" s_origins_of ["gathering"]) (d5 : Df K mg "lose_own_leaf" s_lose_own_leaf ["gathering", "k"])
    (d6 : Df K mg "change_own_leaf" s_change_own_leaf ["gathering", "k", "state"]) (d7 : Df K mg "change_leaf" s_change_leaf ["gathering", "place", "state"]) : Ok P w K mg base CX0 5 "change_leaf" ["gathering", "place", "state"] (spChg a) := by
  have oL : Ok P w K mg base CX0 2 "lose_from" _ _ := ok_lf T (leaf_of T D) (ok_prt T d1) d2
  exact ok_chg T hIT (ok_org T hIT d4) (ok_cown T (mcut_of T D) (ok_lown T (ok_pof T D.partner_of) (pstate_of T D) d5) d6) (ok_cf T (leaf_of T D) (ok_prt T d1) oL d3) oL d7
end
end Pg
end
section
namespace PySem.W.Fast
def tw16204241753207500659 : Unit := ()
def tw14685451766385575593 : Unit := ()
def tw7044683521896953788 : Unit := ()
def tw17827557808249796632 : Unit := ()
def tw10196074188399400205 : Unit := ()
def tw5501492668833197083 : Unit := ()
def tw11773726557167314593 : Unit := ()
def tw6745568251239008479 : Unit := ()
def tw14794212384977238809 : Unit := ()
def tw16529806793162231905 : Unit := ()
def tw1352802033496454054 : Unit := ()
def tw2569730049039763730 : Unit := ()
def tw15299728838698954854 : Unit := ()
def tw18287017935364207126 : Unit := ()
def tw4532757987634845293 : Unit := ()
def tw9283847012560675196 : Unit := ()
def tw2210392218196179058 : Unit := ()
def tw17890430161422311009 : Unit := ()
def tw6919737842688569321 : Unit := ()
def tw1966722086839103761 : Unit := ()
def tw4182090099018422764 : Unit := ()
def tw16352830120864276533 : Unit := ()
def tw12433164452478080914 : Unit := ()
def tw1325522421794861538 : Unit := ()
def tw3968299992551129315 : Unit := ()
def tw6884684918677148774 : Unit := ()
def tw16609197508620688707 : Unit := ()
def tw4881605758886561339 : Unit := ()
def tw13474493669368423161 : Unit := ()
def tw17790201706912513577 : Unit := ()
def tw1914653737937590270 : Unit := ()
def tw13561454353856882515 : Unit := ()
def tw16458110929361616640 : Unit := ()
def tw14875977181577223224 : Unit := ()
def tw9396496496693101210 : Unit := ()
def tw15683340934037826121 : Unit := ()
def tw2649346446977542154 : Unit := ()
def tw445323308241248635 : Unit := ()
def tw13017837734564142616 : Unit := ()
def tw1738166229055490342 : Unit := ()
def tw10142908719513002728 : Unit := ()
def tw9200480115847835496 : Unit := ()
def tw4584990076536200773 : Unit := ()
def tw8616187435598553575 : Unit := ()
def tw14035927586693909816 : Unit := ()
def tw11518465977956338699 : Unit := ()
def tw12839782101345524381 : Unit := ()
def tw11971256435703402972 : Unit := ()
def tw8310320272293889660 : Unit := ()
def tw1988536330026258224 : Unit := ()
def tw15517189897901315820 : Unit := ()
def tw8263809836153945199 : Unit := ()
def tw4270193196197045802 : Unit := ()
def tw9387806630957842186 : Unit := ()
def tw5087187850240745930 : Unit := ()
def tw13448230468442769641 : Unit := ()
def tw9185233166612330126 : Unit := ()
def tw4270993957658054228 : Unit := ()
def tw10236818724251987850 : Unit := ()
def tw850266214580645181 : Unit := ()
def tw12038212661072975583 : Unit := ()
def tw4812440391944463817 : Unit := ()
def tw14420361569136302231 : Unit := ()
def tw1486659549327053342 : Unit := ()
def tw6072280277844768768 : Unit := ()
def tw4215617692858393802 : Unit := ()
def tw15304606006333153147 : Unit := ()
def tw9249026055982773587 : Unit := ()
def tw2788507025819506247 : Unit := ()
def tw5451105036261850069 : Unit := ()
def tw10704417199191775370 : Unit := ()
def tw2321758020068723387 : Unit := ()
def tw11559272746854526810 : Unit := ()
def tw818334015084706822 : Unit := ()
def tw12374405064847016181 : Unit := ()
def tw17984440517280983596 : Unit := ()
def tw9987505116739585933 : Unit := ()
def tw11033835422289535642 : Unit := ()
def tw8443502152170167655 : Unit := ()
def tw16760988897869921293 : Unit := ()
def tw16718508410453679948 : Unit := ()
def tw4688380878178166405 : Unit := ()
def tw11922014246321227445 : Unit := ()
def tw10056495076133974959 : Unit := ()
def tw10591403793369258221 : Unit := ()
def tw13915738557662224438 : Unit := ()
def tw12004878478009941350 : Unit := ()
def tw5028924296615524444 : Unit := ()
def tw11258533822478992847 : Unit := ()
end PySem.W.Fast
open PySem PySem.W PyProof.Rows
set_option maxRecDepth 100000 in
set_option maxHeartbeats 0 in
theorem PySem.Challenge.cw_makeups_s06_cut_holds : PySem.Challenge.rw_makeups_s06_cut.Holds := by
  w_on; k_headS; (case hw => exact ⟨[.int 0, .list []], by decide +kernel, by decide +kernel⟩)
  k_fillS
  refine L2.walk_specK (r := PySem.Challenge.rw_makeups_s06_cut) (k := 13) (CX := L2.CX0) (ps := ["l", "t"]) (sp := Pg.spCutF) (by decide +kernel) rfl rfl ⟨rfl, by decide, by decide⟩ (fun w h Y => PySem.W.kIn_of Y) ?F ?S (fun _ _ _ _ z => z)
  case F =>
    intro w mg fa h Y KX G hmg
    obtain ⟨a, c⟩ : ∃ a, Pg.Cl (L2.KOf KX) mg a := by
      dsimp only [L2.KOf]
      refine' Pg.cl_mk KX G ?aR ?aG ?aB ?aF ?oF ?iF ?adg ?ard ?ars ?aos ?clR ?nRt ?nRp ?clG ?nGs ?nGz ?nGt ?nGg ?clB ?nBg ?nBr ?nBp ?xF ?xFp ?sdg ?srd ?srs ?sos ?ginit ?finit ?rinit ?peek ?advance ?expect ?read_number ?binit
      (case aR => k_is)
      (case aG => k_is)
      (case aB => k_is)
      (case aF => k_is)
      (case oF => k_is)
      (case iF => k_is)
      (case adg => k_is)
      (case ard => k_is)
      (case ars => k_is)
      (case aos => k_is)
      (case clR => (refine' Pg.cls_mk ?a ?b ?c ?d; (case a => k_is); (case b => k_is); (case c => k_is); (case d => k_is)))
      (case nRt => (unfold L2.NoAttr; k_is))
      (case nRp => (unfold L2.NoAttr; k_is))
      (case clG => (refine' Pg.cls_mk ?a ?b ?c ?d; (case a => k_is); (case b => k_is); (case c => k_is); (case d => k_is)))
      (case nGs => (unfold L2.NoAttr; k_is))
      (case nGz => (unfold L2.NoAttr; k_is))
      (case nGt => (unfold L2.NoAttr; k_is))
      (case nGg => (unfold L2.NoAttr; k_is))
      (case clB => (refine' Pg.cls_mk ?a ?b ?c ?d; (case a => k_is); (case b => k_is); (case c => k_is); (case d => k_is)))
      (case nBg => (unfold L2.NoAttr; k_is))
      (case nBr => (unfold L2.NoAttr; k_is))
      (case nBp => (unfold L2.NoAttr; k_is))
      (case xF => (refine' Pg.xcls_mk ?o ?ln ?ha ?i ?sa ?ga ?gh ?fn ?lf ?hfc ?kp ?fs; (case o => k_is); (case ln => k_is); (case ha => rfl); (case i => k_is); (case sa => k_is); (case ga => k_is); (case gh => k_is); (case fn => k_is); (case lf => k_is); (case hfc => rfl); (case kp => k_is); (case fs => k_is)))
      (case xFp => (refine' Pg.xno_place ?e; (case e => k_is)))
      (case sdg => (refine' Pg.gt_mk ?l ?v ?s; (case l => k_is); (case v => repeat (first | exact .nil | refine .cons ⟨_, rfl⟩ ?_)); (case s => decide)))
      (case srd => (refine' Pg.gt_mk ?l ?v ?s; (case l => k_is); (case v => repeat (first | exact .nil | refine .cons ⟨_, rfl⟩ ?_)); (case s => decide)))
      (case srs => (refine' Pg.gt_mk ?l ?v ?s; (case l => k_is); (case v => repeat (first | exact .nil | refine .cons ⟨_, rfl⟩ ?_)); (case s => decide)))
      (case sos => (refine' Pg.gt_mk ?l ?v ?s; (case l => k_is); (case v => repeat (first | exact .nil | refine .cons ⟨_, rfl⟩ ?_)); (case s => decide)))
      (case ginit => (refine' Pg.di_mk KX G ?z ?a ?i ?l ?c ?k ?m ?kc ?b; (case z => k_is); (case a => k_is); (case i => k_is); (case l => k_is); (case c => k_is); (case k => k_is); (case m => k_is); (case kc => k_is); (case b => exact Pg.us3 fun _ _ _ _ _ _ _ _ _ => rfl)))
      (case finit => (refine' Pg.dx_mk ?l ?c ?k ?b; (case l => k_is); (case c => k_is); (case k => k_is); (case b => exact Pg.us2 fun _ _ _ _ _ _ _ _ => rfl)))
      (case rinit => (refine' Pg.di_mk KX G ?z ?a ?i ?l ?c ?k ?m ?kc ?b; (case z => k_is); (case a => k_is); (case i => k_is); (case l => k_is); (case c => k_is); (case k => k_is); (case m => k_is); (case kc => k_is); (case b => exact Pg.us2 fun _ _ _ _ _ _ _ _ => rfl)))
      (case peek => (refine' Pg.dm_mk ?a ?i ?l ?c ?k ?b; (case a => k_is); (case i => k_is); (case l => k_is); (case c => k_is); (case k => k_is); (case b => exact Pg.us1 fun _ _ _ _ _ _ _ => rfl)))
      (case advance => (refine' Pg.dm_mk ?a ?i ?l ?c ?k ?b; (case a => k_is); (case i => k_is); (case l => k_is); (case c => k_is); (case k => k_is); (case b => exact Pg.us1 fun _ _ _ _ _ _ _ => rfl)))
      (case expect => (refine' Pg.dm_mk ?a ?i ?l ?c ?k ?b; (case a => k_is); (case i => k_is); (case l => k_is); (case c => k_is); (case k => k_is); (case b => exact Pg.us2 fun _ _ _ _ _ _ _ _ => rfl)))
      (case read_number => (refine' Pg.dm_mk ?a ?i ?l ?c ?k ?b; (case a => k_is); (case i => k_is); (case l => k_is); (case c => k_is); (case k => k_is); (case b => exact Pg.us2 fun _ _ _ _ _ _ _ _ => rfl)))
      (case binit => (refine' Pg.di_mk KX G ?z ?a ?i ?l ?c ?k ?m ?kc ?b; (case z => k_is); (case a => k_is); (case i => k_is); (case l => k_is); (case c => k_is); (case k => k_is); (case m => k_is); (case kc => k_is); (case b => exact Pg.us4 fun _ _ _ _ _ _ _ _ _ _ => rfl)))
    have i_len : mg "len" = none := by refine' PySem.W.mg_none_of KX G ?e; (case e => k_is)
    have i_range : mg "range" = none := by refine' PySem.W.mg_none_of KX G ?e; (case e => k_is)
    have i_any : mg "any" = none := by refine' PySem.W.mg_none_of KX G ?e; (case e => k_is)
    have i_ord : mg "ord" = none := by refine' PySem.W.mg_none_of KX G ?e; (case e => k_is)
    have i_list : mg "list" = none := by refine' PySem.W.mg_none_of KX G ?e; (case e => k_is)
    have i_le : ∃ t, mg "LETTERS" = some (.str Pg.lettersS t) := by refine' Pg.gs_mk KX G ?e; (case e => k_is)
    have i_ALONE : ∃ t, mg "ALONE" = some (.int 1 t) := by refine' Pg.gi_mk KX G ?e; (case e => k_is)
    have i_LEAF_BEFORE : ∃ t, mg "LEAF_BEFORE" = some (.int 2 t) := by refine' Pg.gi_mk KX G ?e; (case e => k_is)
    have i_LEAF_BEHIND : ∃ t, mg "LEAF_BEHIND" = some (.int 3 t) := by refine' Pg.gi_mk KX G ?e; (case e => k_is)
    have i_STUB_BEFORE : ∃ t, mg "STUB_BEFORE" = some (.int 4 t) := by refine' Pg.gi_mk KX G ?e; (case e => k_is)
    have i_STUB_BEHIND : ∃ t, mg "STUB_BEHIND" = some (.int 5 t) := by refine' Pg.gi_mk KX G ?e; (case e => k_is)
    have i_MOST_PLACES : ∃ t, mg "MOST_PLACES" = some (.int 21 t) := by refine' Pg.gi_mk KX G ?e; (case e => k_is)
    have i_MOST_COUNTED : ∃ t, mg "MOST_COUNTED" = some (.int 9 t) := by refine' Pg.gi_mk KX G ?e; (case e => k_is)
    have i_WHOLE : ∃ t, mg "WHOLE" = some (.int 0 t) := by refine' Pg.gi_mk KX G ?e; (case e => k_is)
    have i_LOST : ∃ t, mg "LOST" = some (.int 1 t) := by refine' Pg.gi_mk KX G ?e; (case e => k_is)
    have i_CUT : ∃ t, mg "CUT" = some (.int 2 t) := by refine' Pg.gi_mk KX G ?e; (case e => k_is)
    have i_FIRST_SMALL_SIGN : ∃ t, mg "FIRST_SMALL_SIGN" = some (.int 23 t) := by refine' Pg.gi_mk KX G ?e; (case e => k_is)
    have i_FIRST_OTHER_SIGN : ∃ t, mg "FIRST_OTHER_SIGN" = some (.int 46 t) := by refine' Pg.gi_mk KX G ?e; (case e => k_is)
    have i_LETTERS_OF_A_KIND : ∃ t, mg "LETTERS_OF_A_KIND" = some (.int 23 t) := by refine' Pg.gi_mk KX G ?e; (case e => k_is)
    have i_MOST_TIMES : ∃ t, mg "MOST_TIMES" = some (.int 99 t) := by refine' Pg.gi_mk KX G ?e; (case e => k_is)
    have i_MOST_SIZE : ∃ t, mg "MOST_SIZE" = some (.int 20 t) := by refine' Pg.gi_mk KX G ?e; (case e => k_is)
    have i_BLANK : ∃ t, mg "BLANK" = some (.int 32 t) := by refine' Pg.gi_mk KX G ?e; (case e => k_is)
    have i_OPEN : ∃ t, mg "OPEN" = some (.int 40 t) := by refine' Pg.gi_mk KX G ?e; (case e => k_is)
    have i_CLOSE : ∃ t, mg "CLOSE" = some (.int 41 t) := by refine' Pg.gi_mk KX G ?e; (case e => k_is)
    have i_PLUS : ∃ t, mg "PLUS" = some (.int 43 t) := by refine' Pg.gi_mk KX G ?e; (case e => k_is)
    have i_COMMA : ∃ t, mg "COMMA" = some (.int 44 t) := by refine' Pg.gi_mk KX G ?e; (case e => k_is)
    have i_DIVIDED : ∃ t, mg "DIVIDED" = some (.int 247 t) := by refine' Pg.gi_mk KX G ?e; (case e => k_is)
    have i_DASH : ∃ t, mg "DASH" = some (.int 8211 t) := by refine' Pg.gi_mk KX G ?e; (case e => k_is)
    have i_MINUS : ∃ t, mg "MINUS" = some (.int 8722 t) := by refine' Pg.gi_mk KX G ?e; (case e => k_is)
    have i_ANGLE_OPEN : ∃ t, mg "ANGLE_OPEN" = some (.int 10216 t) := by refine' Pg.gi_mk KX G ?e; (case e => k_is)
    have i_ANGLE_CLOSE : ∃ t, mg "ANGLE_CLOSE" = some (.int 10217 t) := by refine' Pg.gi_mk KX G ?e; (case e => k_is)
    have i_END : ∃ t, mg "END" = some (.int (-1) t) := by refine' Pg.gi_mk KX G ?e; (case e => k_is)
    have i_MOST_DIGITS : ∃ t, mg "MOST_DIGITS" = some (.int 7 t) := by refine' Pg.gi_mk KX G ?e; (case e => k_is)
    have i_MOST_GATHERINGS : ∃ t, mg "MOST_GATHERINGS" = some (.int 48 t) := by refine' Pg.gi_mk KX G ?e; (case e => k_is)
    have i_MOST_CHARACTERS : ∃ t, mg "MOST_CHARACTERS" = some (.int 16384 t) := by refine' Pg.gi_mk KX G ?e; (case e => k_is)
    have i_ACCEPTED : ∃ t, mg "ACCEPTED" = some (.int 0 t) := by refine' Pg.gi_mk KX G ?e; (case e => k_is)
    have i_TOO_LONG : ∃ t, mg "TOO_LONG" = some (.int (-2) t) := by refine' Pg.gi_mk KX G ?e; (case e => k_is)
    have i_NO_FORMULA : ∃ t, mg "NO_FORMULA" = some (.int (-6) t) := by refine' Pg.gi_mk KX G ?e; (case e => k_is)
    have T : Pg.Txt (L2.KOf KX) mg a := ⟨c.clR, c.nRt, c.nRp, c.clG, c.nGs, c.nGz, c.nGt, c.nGg, c.clB, c.nBg, c.nBr, c.nBp, c.xF, c.xFp, c.mF, i_len, i_range, i_any, i_ord, i_list, c.dg, c.dgS, c.rd, c.rdS, c.rs, c.rsS, c.os, c.osS, i_le, i_ALONE, i_LEAF_BEFORE, i_LEAF_BEHIND, i_STUB_BEFORE, i_STUB_BEHIND, i_MOST_PLACES, i_MOST_COUNTED, i_WHOLE, i_LOST, i_CUT, i_FIRST_SMALL_SIGN, i_FIRST_OTHER_SIGN, i_LETTERS_OF_A_KIND, i_MOST_TIMES, i_MOST_SIZE, i_BLANK, i_OPEN, i_CLOSE, i_PLUS, i_COMMA, i_DIVIDED, i_DASH, i_MINUS, i_ANGLE_OPEN, i_ANGLE_CLOSE, i_END, i_MOST_DIGITS, i_MOST_GATHERINGS, i_MOST_CHARACTERS, i_ACCEPTED, i_TOO_LONG, i_NO_FORMULA⟩
    have f_may_be_partners : Pg.Df (L2.KOf KX) mg "may_be_partners" Pg.s_may_be_partners ["before", "behind"] := by
      dsimp only [L2.KOf]; refine' Pg.df_mk KX G ?a ?l ?c ?k ?b; (case a => k_is); (case l => k_is); (case c => k_is); (case k => k_is); (case b => exact Pg.us2 fun _ _ _ _ _ _ _ _ => rfl)
    have f_is_gathering : Pg.Df (L2.KOf KX) mg "is_gathering" Pg.s_is_gathering ["row"] := by
      dsimp only [L2.KOf]; refine' Pg.df_mk KX G ?a ?l ?c ?k ?b; (case a => k_is); (case l => k_is); (case c => k_is); (case k => k_is); (case b => exact Pg.us1 fun _ _ _ _ _ _ _ => rfl)
    have f_is_leaf : Pg.Df (L2.KOf KX) mg "is_leaf" Pg.s_is_leaf ["sign"] := by
      dsimp only [L2.KOf]; refine' Pg.df_mk KX G ?a ?l ?c ?k ?b; (case a => k_is); (case l => k_is); (case c => k_is); (case k => k_is); (case b => exact Pg.us1 fun _ _ _ _ _ _ _ => rfl)
    have f_count_leaves : Pg.Df (L2.KOf KX) mg "count_leaves" Pg.s_count_leaves ["row"] := by
      dsimp only [L2.KOf]; refine' Pg.df_mk KX G ?a ?l ?c ?k ?b; (case a => k_is); (case l => k_is); (case c => k_is); (case k => k_is); (case b => exact Pg.us1 fun _ _ _ _ _ _ _ => rfl)
    have f_leaves_alone : Pg.Df (L2.KOf KX) mg "leaves_alone" Pg.s_leaves_alone ["count"] := by
      dsimp only [L2.KOf]; refine' Pg.df_mk KX G ?a ?l ?c ?k ?b; (case a => k_is); (case l => k_is); (case c => k_is); (case k => k_is); (case b => exact Pg.us1 fun _ _ _ _ _ _ _ => rfl)
    have f_is_counted : Pg.Df (L2.KOf KX) mg "is_counted" Pg.s_is_counted ["row"] := by
      dsimp only [L2.KOf]; refine' Pg.df_mk KX G ?a ?l ?c ?k ?b; (case a => k_is); (case l => k_is); (case c => k_is); (case k => k_is); (case b => exact Pg.us1 fun _ _ _ _ _ _ _ => rfl)
    have f_signature_behind : Pg.Df (L2.KOf KX) mg "signature_behind" Pg.s_signature_behind ["signature"] := by
      dsimp only [L2.KOf]; refine' Pg.df_mk KX G ?a ?l ?c ?k ?b; (case a => k_is); (case l => k_is); (case c => k_is); (case k => k_is); (case b => exact Pg.us1 fun _ _ _ _ _ _ _ => rfl)
    have f_is_size : Pg.Df (L2.KOf KX) mg "is_size" Pg.s_is_size ["number"] := by
      dsimp only [L2.KOf]; refine' Pg.df_mk KX G ?a ?l ?c ?k ?b; (case a => k_is); (case l => k_is); (case c => k_is); (case k => k_is); (case b => exact Pg.us1 fun _ _ _ _ _ _ _ => rfl)
    have f_has_notes : Pg.Df (L2.KOf KX) mg "has_notes" Pg.s_has_notes ["gathering"] := by
      dsimp only [L2.KOf]; refine' Pg.df_mk KX G ?a ?l ?c ?k ?b; (case a => k_is); (case l => k_is); (case c => k_is); (case k => k_is); (case b => exact Pg.us1 fun _ _ _ _ _ _ _ => rfl)
    have f_are_one_item : Pg.Df (L2.KOf KX) mg "are_one_item" Pg.s_are_one_item ["before", "behind"] := by
      dsimp only [L2.KOf]; refine' Pg.df_mk KX G ?a ?l ?c ?k ?b; (case a => k_is); (case l => k_is); (case c => k_is); (case k => k_is); (case b => exact Pg.us2 fun _ _ _ _ _ _ _ _ => rfl)
    have f_partner_of : Pg.Df (L2.KOf KX) mg "partner_of" Pg.s_partner_of ["gathering", "k"] := by
      dsimp only [L2.KOf]; refine' Pg.df_mk KX G ?a ?l ?c ?k ?b; (case a => k_is); (case l => k_is); (case c => k_is); (case k => k_is); (case b => exact Pg.us2 fun _ _ _ _ _ _ _ _ => rfl)
    have f_partner_state : Pg.Df (L2.KOf KX) mg "partner_state" Pg.s_partner_state ["gathering", "k"] := by
      dsimp only [L2.KOf]; refine' Pg.df_mk KX G ?a ?l ?c ?k ?b; (case a => k_is); (case l => k_is); (case c => k_is); (case k => k_is); (case b => exact Pg.us2 fun _ _ _ _ _ _ _ _ => rfl)
    have f_may_be_cut : Pg.Df (L2.KOf KX) mg "may_be_cut" Pg.s_may_be_cut ["gathering", "k"] := by
      dsimp only [L2.KOf]; refine' Pg.df_mk KX G ?a ?l ?c ?k ?b; (case a => k_is); (case l => k_is); (case c => k_is); (case k => k_is); (case b => exact Pg.us2 fun _ _ _ _ _ _ _ _ => rfl)
    have f_leaf_row : Pg.Df (L2.KOf KX) mg "leaf_row" Pg.s_leaf_row ["gathering", "k"] := by
      dsimp only [L2.KOf]; refine' Pg.df_mk KX G ?a ?l ?c ?k ?b; (case a => k_is); (case l => k_is); (case c => k_is); (case k => k_is); (case b => exact Pg.us2 fun _ _ _ _ _ _ _ _ => rfl)
    have f_word_of : Pg.Df (L2.KOf KX) mg "word_of" Pg.s_word_of ["gathering"] := by
      dsimp only [L2.KOf]; refine' Pg.df_mk KX G ?a ?l ?c ?k ?b; (case a => k_is); (case l => k_is); (case c => k_is); (case k => k_is); (case b => exact Pg.us1 fun _ _ _ _ _ _ _ => rfl)
    have f_position : Pg.Df (L2.KOf KX) mg "position" Pg.s_position ["characters", "character"] := by
      dsimp only [L2.KOf]; refine' Pg.df_mk KX G ?a ?l ?c ?k ?b; (case a => k_is); (case l => k_is); (case c => k_is); (case k => k_is); (case b => exact Pg.us2 fun _ _ _ _ _ _ _ _ => rfl)
    have f_signature_sign : Pg.Df (L2.KOf KX) mg "signature_sign" Pg.s_signature_sign ["character"] := by
      dsimp only [L2.KOf]; refine' Pg.df_mk KX G ?a ?l ?c ?k ?b; (case a => k_is); (case l => k_is); (case c => k_is); (case k => k_is); (case b => exact Pg.us1 fun _ _ _ _ _ _ _ => rfl)
    have f_row_sign : Pg.Df (L2.KOf KX) mg "row_sign" Pg.s_row_sign ["character"] := by
      dsimp only [L2.KOf]; refine' Pg.df_mk KX G ?a ?l ?c ?k ?b; (case a => k_is); (case l => k_is); (case c => k_is); (case k => k_is); (case b => exact Pg.us1 fun _ _ _ _ _ _ _ => rfl)
    have f_check : Pg.Df (L2.KOf KX) mg "check" Pg.s_check ["right", "place"] := by
      dsimp only [L2.KOf]; refine' Pg.df_mk KX G ?a ?l ?c ?k ?b; (case a => k_is); (case l => k_is); (case c => k_is); (case k => k_is); (case b => exact Pg.us2 fun _ _ _ _ _ _ _ _ => rfl)
    have f_read_notes : Pg.Df (L2.KOf KX) mg "read_notes" Pg.s_read_notes ["reader", "gathering"] := by
      dsimp only [L2.KOf]; refine' Pg.df_mk KX G ?a ?l ?c ?k ?b; (case a => k_is); (case l => k_is); (case c => k_is); (case k => k_is); (case b => exact Pg.us2 fun _ _ _ _ _ _ _ _ => rfl)
    have f_read_note : Pg.Df (L2.KOf KX) mg "read_note" Pg.s_read_note ["reader", "gathering", "rank_before"] := by
      dsimp only [L2.KOf]; refine' Pg.df_mk KX G ?a ?l ?c ?k ?b; (case a => k_is); (case l => k_is); (case c => k_is); (case k => k_is); (case b => exact Pg.us3 fun _ _ _ _ _ _ _ _ _ => rfl)
    have f_read_leaf_note : Pg.Df (L2.KOf KX) mg "read_leaf_note" Pg.s_read_leaf_note ["reader", "gathering", "rank_before", "state"] := by
      dsimp only [L2.KOf]; refine' Pg.df_mk KX G ?a ?l ?c ?k ?b; (case a => k_is); (case l => k_is); (case c => k_is); (case k => k_is); (case b => exact Pg.us4 fun _ _ _ _ _ _ _ _ _ _ => rfl)
    have f_may_become : Pg.Df (L2.KOf KX) mg "may_become" Pg.s_may_become ["gathering", "k", "state"] := by
      dsimp only [L2.KOf]; refine' Pg.df_mk KX G ?a ?l ?c ?k ?b; (case a => k_is); (case l => k_is); (case c => k_is); (case k => k_is); (case b => exact Pg.us3 fun _ _ _ _ _ _ _ _ _ => rfl)
    have f_read_gap_note : Pg.Df (L2.KOf KX) mg "read_gap_note" Pg.s_read_gap_note ["reader", "gathering", "rank_before"] := by
      dsimp only [L2.KOf]; refine' Pg.df_mk KX G ?a ?l ?c ?k ?b; (case a => k_is); (case l => k_is); (case c => k_is); (case k => k_is); (case b => exact Pg.us3 fun _ _ _ _ _ _ _ _ _ => rfl)
    have f_read_counted_row : Pg.Df (L2.KOf KX) mg "read_counted_row" Pg.s_read_counted_row ["reader", "start"] := by
      dsimp only [L2.KOf]; refine' Pg.df_mk KX G ?a ?l ?c ?k ?b; (case a => k_is); (case l => k_is); (case c => k_is); (case k => k_is); (case b => exact Pg.us2 fun _ _ _ _ _ _ _ _ => rfl)
    have f_read_told_row : Pg.Df (L2.KOf KX) mg "read_told_row" Pg.s_read_told_row ["reader", "start"] := by
      dsimp only [L2.KOf]; refine' Pg.df_mk KX G ?a ?l ?c ?k ?b; (case a => k_is); (case l => k_is); (case c => k_is); (case k => k_is); (case b => exact Pg.us2 fun _ _ _ _ _ _ _ _ => rfl)
    have f_read_formula : Pg.Df (L2.KOf KX) mg "read_formula" Pg.s_read_formula ["text"] := by
      dsimp only [L2.KOf]; refine' Pg.df_mk KX G ?a ?l ?c ?k ?b; (case a => k_is); (case l => k_is); (case c => k_is); (case k => k_is); (case b => exact Pg.us1 fun _ _ _ _ _ _ _ => rfl)
    have f_read_item : Pg.Df (L2.KOf KX) mg "read_item" Pg.s_read_item ["reader", "before"] := by
      dsimp only [L2.KOf]; refine' Pg.df_mk KX G ?a ?l ?c ?k ?b; (case a => k_is); (case l => k_is); (case c => k_is); (case k => k_is); (case b => exact Pg.us2 fun _ _ _ _ _ _ _ _ => rfl)
    have f_read_signatures : Pg.Df (L2.KOf KX) mg "read_signatures" Pg.s_read_signatures ["reader", "taken"] := by
      dsimp only [L2.KOf]; refine' Pg.df_mk KX G ?a ?l ?c ?k ?b; (case a => k_is); (case l => k_is); (case c => k_is); (case k => k_is); (case b => exact Pg.us2 fun _ _ _ _ _ _ _ _ => rfl)
    have f_signatures_from : Pg.Df (L2.KOf KX) mg "signatures_from" Pg.s_signatures_from ["first", "last", "taken", "start"] := by
      dsimp only [L2.KOf]; refine' Pg.df_mk KX G ?a ?l ?c ?k ?b; (case a => k_is); (case l => k_is); (case c => k_is); (case k => k_is); (case b => exact Pg.us4 fun _ _ _ _ _ _ _ _ _ _ => rfl)
    have f_is_free : Pg.Df (L2.KOf KX) mg "is_free" Pg.s_is_free ["signature", "taken"] := by
      dsimp only [L2.KOf]; refine' Pg.df_mk KX G ?a ?l ?c ?k ?b; (case a => k_is); (case l => k_is); (case c => k_is); (case k => k_is); (case b => exact Pg.us2 fun _ _ _ _ _ _ _ _ => rfl)
    have f_read_signature : Pg.Df (L2.KOf KX) mg "read_signature" Pg.s_read_signature ["reader"] := by
      dsimp only [L2.KOf]; refine' Pg.df_mk KX G ?a ?l ?c ?k ?b; (case a => k_is); (case l => k_is); (case c => k_is); (case k => k_is); (case b => exact Pg.us1 fun _ _ _ _ _ _ _ => rfl)
    have f_read_size : Pg.Df (L2.KOf KX) mg "read_size" Pg.s_read_size ["reader"] := by
      dsimp only [L2.KOf]; refine' Pg.df_mk KX G ?a ?l ?c ?k ?b; (case a => k_is); (case l => k_is); (case c => k_is); (case k => k_is); (case b => exact Pg.us1 fun _ _ _ _ _ _ _ => rfl)
    have f_read_book : Pg.Df (L2.KOf KX) mg "read_book" Pg.s_read_book ["text"] := by
      dsimp only [L2.KOf]; refine' Pg.df_mk KX G ?a ?l ?c ?k ?b; (case a => k_is); (case l => k_is); (case c => k_is); (case k => k_is); (case b => exact Pg.us1 fun _ _ _ _ _ _ _ => rfl)
    have D : Pg.Rdg (L2.KOf KX) mg a := ⟨f_may_be_partners, f_is_gathering, f_is_leaf, f_count_leaves, f_leaves_alone, f_is_counted, c.ginit, f_signature_behind, f_is_size, f_has_notes, f_are_one_item, f_partner_of, f_partner_state, f_may_be_cut, f_leaf_row, f_word_of, f_position, f_signature_sign, f_row_sign, c.finit, f_check, c.rinit, c.peek, c.advance, c.expect, c.read_number, f_read_notes, f_read_note, f_read_leaf_note, f_may_become, f_read_gap_note, f_read_counted_row, f_read_told_row, f_read_formula, f_read_item, f_read_signatures, f_signatures_from, f_is_free, f_read_signature, f_read_size, c.binit, f_read_book⟩
    have f_write_number : Pg.Df (L2.KOf KX) mg "write_number" Pg.s_write_number ["number", "digits"] := by
      dsimp only [L2.KOf]; refine' Pg.df_mk KX G ?a ?l ?c ?k ?b; (case a => k_is); (case l => k_is); (case c => k_is); (case k => k_is); (case b => exact Pg.us2 fun _ _ _ _ _ _ _ _ => rfl)
    have f_signature_character : Pg.Df (L2.KOf KX) mg "signature_character" Pg.s_signature_character ["sign"] := by
      dsimp only [L2.KOf]; refine' Pg.df_mk KX G ?a ?l ?c ?k ?b; (case a => k_is); (case l => k_is); (case c => k_is); (case k => k_is); (case b => exact Pg.us1 fun _ _ _ _ _ _ _ => rfl)
    have f_row_character : Pg.Df (L2.KOf KX) mg "row_character" Pg.s_row_character ["sign"] := by
      dsimp only [L2.KOf]; refine' Pg.df_mk KX G ?a ?l ?c ?k ?b; (case a => k_is); (case l => k_is); (case c => k_is); (case k => k_is); (case b => exact Pg.us1 fun _ _ _ _ _ _ _ => rfl)
    have f_write_signature : Pg.Df (L2.KOf KX) mg "write_signature" Pg.s_write_signature ["signature"] := by
      dsimp only [L2.KOf]; refine' Pg.df_mk KX G ?a ?l ?c ?k ?b; (case a => k_is); (case l => k_is); (case c => k_is); (case k => k_is); (case b => exact Pg.us1 fun _ _ _ _ _ _ _ => rfl)
    have f_write_row : Pg.Df (L2.KOf KX) mg "write_row" Pg.s_write_row ["row"] := by
      dsimp only [L2.KOf]; refine' Pg.df_mk KX G ?a ?l ?c ?k ?b; (case a => k_is); (case l => k_is); (case c => k_is); (case k => k_is); (case b => exact Pg.us1 fun _ _ _ _ _ _ _ => rfl)
    have f_join_texts : Pg.Df (L2.KOf KX) mg "join_texts" Pg.s_join_texts ["texts", "between"] := by
      dsimp only [L2.KOf]; refine' Pg.df_mk KX G ?a ?l ?c ?k ?b; (case a => k_is); (case l => k_is); (case c => k_is); (case k => k_is); (case b => exact Pg.us2 fun _ _ _ _ _ _ _ _ => rfl)
    have f_write_notes : Pg.Df (L2.KOf KX) mg "write_notes" Pg.s_write_notes ["gathering"] := by
      dsimp only [L2.KOf]; refine' Pg.df_mk KX G ?a ?l ?c ?k ?b; (case a => k_is); (case l => k_is); (case c => k_is); (case k => k_is); (case b => exact Pg.us1 fun _ _ _ _ _ _ _ => rfl)
    have f_item_end : Pg.Df (L2.KOf KX) mg "item_end" Pg.s_item_end ["gatherings", "start"] := by
      dsimp only [L2.KOf]; refine' Pg.df_mk KX G ?a ?l ?c ?k ?b; (case a => k_is); (case l => k_is); (case c => k_is); (case k => k_is); (case b => exact Pg.us2 fun _ _ _ _ _ _ _ _ => rfl)
    have f_write_item : Pg.Df (L2.KOf KX) mg "write_item" Pg.s_write_item ["gatherings"] := by
      dsimp only [L2.KOf]; refine' Pg.df_mk KX G ?a ?l ?c ?k ?b; (case a => k_is); (case l => k_is); (case c => k_is); (case k => k_is); (case b => exact Pg.us1 fun _ _ _ _ _ _ _ => rfl)
    have f_write_formula : Pg.Df (L2.KOf KX) mg "write_formula" Pg.s_write_formula ["gatherings"] := by
      dsimp only [L2.KOf]; refine' Pg.df_mk KX G ?a ?l ?c ?k ?b; (case a => k_is); (case l => k_is); (case c => k_is); (case k => k_is); (case b => exact Pg.us1 fun _ _ _ _ _ _ _ => rfl)
    have f_tell_formula : Pg.Df (L2.KOf KX) mg "tell_formula" Pg.s_tell_formula ["gatherings"] := by
      dsimp only [L2.KOf]; refine' Pg.df_mk KX G ?a ?l ?c ?k ?b; (case a => k_is); (case l => k_is); (case c => k_is); (case k => k_is); (case b => exact Pg.us1 fun _ _ _ _ _ _ _ => rfl)
    have f_first_leaf : Pg.Df (L2.KOf KX) mg "first_leaf" Pg.s_first_leaf ["gatherings", "i"] := by
      dsimp only [L2.KOf]; refine' Pg.df_mk KX G ?a ?l ?c ?k ?b; (case a => k_is); (case l => k_is); (case c => k_is); (case k => k_is); (case b => exact Pg.us2 fun _ _ _ _ _ _ _ _ => rfl)
    have f_gathering_of_leaf : Pg.Df (L2.KOf KX) mg "gathering_of_leaf" Pg.s_gathering_of_leaf ["gatherings", "number"] := by
      dsimp only [L2.KOf]; refine' Pg.df_mk KX G ?a ?l ?c ?k ?b; (case a => k_is); (case l => k_is); (case c => k_is); (case k => k_is); (case b => exact Pg.us2 fun _ _ _ _ _ _ _ _ => rfl)
    have f_leaf_place : Pg.Df (L2.KOf KX) mg "leaf_place" Pg.s_leaf_place ["row", "number"] := by
      dsimp only [L2.KOf]; refine' Pg.df_mk KX G ?a ?l ?c ?k ?b; (case a => k_is); (case l => k_is); (case c => k_is); (case k => k_is); (case b => exact Pg.us2 fun _ _ _ _ _ _ _ _ => rfl)
    have f_partners_of : Pg.Df (L2.KOf KX) mg "partners_of" Pg.s_partners_of ["row"] := by
      dsimp only [L2.KOf]; refine' Pg.df_mk KX G ?a ?l ?c ?k ?b; (case a => k_is); (case l => k_is); (case c => k_is); (case k => k_is); (case b => exact Pg.us1 fun _ _ _ _ _ _ _ => rfl)
    have f_lose_from : Pg.Df (L2.KOf KX) mg "lose_from" Pg.s_lose_from ["row", "place"] := by
      dsimp only [L2.KOf]; refine' Pg.df_mk KX G ?a ?l ?c ?k ?b; (case a => k_is); (case l => k_is); (case c => k_is); (case k => k_is); (case b => exact Pg.us2 fun _ _ _ _ _ _ _ _ => rfl)
    have f_cut_from : Pg.Df (L2.KOf KX) mg "cut_from" Pg.s_cut_from ["row", "place"] := by
      dsimp only [L2.KOf]; refine' Pg.df_mk KX G ?a ?l ?c ?k ?b; (case a => k_is); (case l => k_is); (case c => k_is); (case k => k_is); (case b => exact Pg.us2 fun _ _ _ _ _ _ _ _ => rfl)
    have f_origins_of : Pg.Df (L2.KOf KX) mg "origins_of" Pg.s_origins_of ["gathering"] := by
      dsimp only [L2.KOf]; refine' Pg.df_mk KX G ?a ?l ?c ?k ?b; (case a => k_is); (case l => k_is); (case c => k_is); (case k => k_is); (case b => exact Pg.us1 fun _ _ _ _ _ _ _ => rfl)
    have f_lose_own_leaf : Pg.Df (L2.KOf KX) mg "lose_own_leaf" Pg.s_lose_own_leaf ["gathering", "k"] := by
      dsimp only [L2.KOf]; refine' Pg.df_mk KX G ?a ?l ?c ?k ?b; (case a => k_is); (case l => k_is); (case c => k_is); (case k => k_is); (case b => exact Pg.us2 fun _ _ _ _ _ _ _ _ => rfl)
    have f_change_own_leaf : Pg.Df (L2.KOf KX) mg "change_own_leaf" Pg.s_change_own_leaf ["gathering", "k", "state"] := by
      dsimp only [L2.KOf]; refine' Pg.df_mk KX G ?a ?l ?c ?k ?b; (case a => k_is); (case l => k_is); (case c => k_is); (case k => k_is); (case b => exact Pg.us3 fun _ _ _ _ _ _ _ _ _ => rfl)
    have f_change_leaf : Pg.Df (L2.KOf KX) mg "change_leaf" Pg.s_change_leaf ["gathering", "place", "state"] := by
      dsimp only [L2.KOf]; refine' Pg.df_mk KX G ?a ?l ?c ?k ?b; (case a => k_is); (case l => k_is); (case c => k_is); (case k => k_is); (case b => exact Pg.us3 fun _ _ _ _ _ _ _ _ _ => rfl)
    have f_answer_change : Pg.Df (L2.KOf KX) mg "answer_change" Pg.s_answer_change ["l", "t", "state"] := by
      dsimp only [L2.KOf]; refine' Pg.df_mk KX G ?a ?l ?c ?k ?b; (case a => k_is); (case l => k_is); (case c => k_is); (case k => k_is); (case b => exact Pg.us3 fun _ _ _ _ _ _ _ _ _ => rfl)
    have i_NOT_THERE : ∃ t, mg "NOT_THERE" = some (.int (-4) t) := by refine' Pg.gi_mk KX G ?e; (case e => k_is)
    have i_NOTHING_LEFT : ∃ t, mg "NOTHING_LEFT" = some (.int (-5) t) := by refine' Pg.gi_mk KX G ?e; (case e => k_is)
    have i_ITSELF : ∃ t, mg "ITSELF" = some (.int (-1) t) := by refine' Pg.gi_mk KX G ?e; (case e => k_is)
    have i_sum : mg "sum" = none := by refine' PySem.W.mg_none_of KX G ?e; (case e => k_is)
    refine' Pg.fin_mk (st := Pg.s_cut) KX G hmg ?H ?b ?a ?l ?c ?k
    (case H => exact fun base f fd F => Pg.fn_cut T (Pg.ok_ans T i_NOT_THERE i_NOTHING_LEFT (Pg.book_of T D) (Pg.ok_gol T (Pg.count_of T D) (Pg.word_of_ T D) f_gathering_of_leaf) (Pg.ok_first T i_sum (Pg.count_of T D) (Pg.word_of_ T D) f_first_leaf) (Pg.word_of_ T D) (Pg.ok_lpl T (Pg.leaf_of T D) f_leaf_place) (Pg.count_of T D) (Pg.chg_of T D i_ITSELF f_partners_of f_lose_from f_cut_from f_origins_of f_lose_own_leaf f_change_own_leaf f_change_leaf) (Pg.tell_of T D f_write_number f_signature_character f_row_character f_write_signature f_write_row f_join_texts f_write_notes f_item_end f_write_item f_write_formula f_tell_formula) f_answer_change) F)
    (case b => exact Pg.us2 fun _ _ _ _ _ _ _ _ => rfl); (case a => k_is); (case l => k_is); (case c => k_is); (case k => k_is)
  case S =>
    intro K H xs a hO hwi hask hx
    cases hx with
    | cons h1 h2 =>
      cases h1
      cases h2 with
      | cons h3 h4 =>
        cases h4
        cases h3 with
        | lst hs ha =>
          have e := L2.ints_dw a.2.1 _ ha
          subst e
          have q : (Codec.inInt 0 2147483647 a.1 && ((Codec.inLen 0 32768 a.2.1 && a.2.1.all (Codec.inInt 0 2147483647)) && true)) = true := hwi
          rw [Bool.and_eq_true, Bool.and_eq_true, Bool.and_eq_true] at q
          have hnn : ∀ n ∈ a.2.1, 0 ≤ n := fun n hn => (Codec.inInt_iff.mp (List.all_eq_true.mp q.2.1.2 n hn)).1
          have hz := Pg.fz_of hO hs
          rw [Pg.ints_nats a.2.1 hnn] at hz
          exact ⟨_, a.2.1.map Int.toNat, a.1.toNat, by rw [Int.toNat_of_nonneg (Codec.inInt_iff.mp q.1).1], hz, by rw [List.length_map]; exact (Codec.inNat_iff.mp q.2.1.1).2, fun H' p hp => .lst (L2.SqL.of hp) (L2.dw_ints _)⟩
#print axioms PySem.Challenge.cw_makeups_s06_cut_holds
end
