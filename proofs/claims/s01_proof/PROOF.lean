import PyProof.Rows.All
import Wide.All
import OpenK.AllK
import Wide.FinOn
import PyProof.EqAt
import PyProof.EqKinds
import PyProof.TupleCall
import KE.BitLaws
import PyProof.Rows.SetFrom
import Open.SpecLaws
import KE.OsHead
import KE.OsGo
import PySem.Challenge.RW_hoopgame_s01_answers
set_option Elab.async false
set_option linter.all false
set_option maxRecDepth 100000
namespace L2
open PySem PySem.Spec PyProof.Rows
abbrev Key := Sum Int Str
def keyIs : Key → Value → Bool
  | .inl k, v => Value.isInt k v
  | .inr x, v => Value.isStrOf x v
def keyH (w : World) : Key → Int
  | .inl k => hashInt k
  | .inr x => hashStr w x
theorem keyIs_shape : ∀ {k : Key} {v : Value}, keyIs k v = true → (∃ i t, k = Sum.inl i ∧ v = Value.int i t) ∨ (∃ x t, k = Sum.inr x ∧ v = Value.str x t)
  | .inl i, v, h => by
    obtain ⟨t, e⟩ := Value.isInt_shape (k := i) (v := v) h
    exact .inl ⟨i, t, rfl, e⟩
  | .inr x, v, h => by
    obtain ⟨t, e⟩ := Value.isStrOf_shape (x := x) (v := v) h
    exact .inr ⟨x, t, rfl, e⟩
theorem keyIs_int (i : Int) (t : Tok) : keyIs (.inl i) (.int i t) = true := by simp [keyIs, Value.isInt]
theorem key_ll (a b : Int) : decide ((Sum.inl a : Key) = Sum.inl b) = (a == b) := by
  by_cases e : a = b
  · subst e; simp
  · have h : ¬ (Sum.inl a : Key) = Sum.inl b := fun q => e (Sum.inl.inj q)
    rw [decide_eq_false h]
    exact (beq_eq_false_iff_ne.mpr e).symm
theorem key_rr (a b : Str) : decide ((Sum.inr a : Key) = Sum.inr b) = decide (a = b) := by
  by_cases e : a = b
  · subst e; simp
  · have h : ¬ (Sum.inr a : Key) = Sum.inr b := fun q => e (Sum.inr.inj q)
    rw [decide_eq_false h, decide_eq_false e]
theorem key_lr (a : Int) (b : Str) : decide ((Sum.inl a : Key) = Sum.inr b) = false := decide_eq_false (fun q => nomatch q)
theorem key_rl (a : Str) (b : Int) : decide ((Sum.inr a : Key) = Sum.inl b) = false := decide_eq_false (fun q => nomatch q)
def mixKind (prog : Program) (w : World) : PySem.KeyKind prog w Key where
  is := keyIs
  hash := keyH w
  inj := fun v a b ha hb => by
    rcases keyIs_shape ha with ⟨i, t, rfl, rfl⟩ | ⟨x, t, rfl, rfl⟩
    · rcases keyIs_shape hb with ⟨j, u, rfl, e⟩ | ⟨y, u, rfl, e⟩
      · injection e with e1 _; rw [e1]
      · exact nomatch e
    · rcases keyIs_shape hb with ⟨j, u, rfl, e⟩ | ⟨y, u, rfl, e⟩
      · exact nomatch e
      · injection e with e1 _; rw [e1]
  byValue := fun k v h => by
    rcases keyIs_shape h with ⟨i, t, rfl, rfl⟩ | ⟨x, t, rfl, rfl⟩ <;> rfl
  pyHash := fun hv h => by
    rcases keyIs_shape hv with ⟨i, t, rfl, rfl⟩ | ⟨x, t, rfl, rfl⟩
    · exact wpAny_pyHash_int h
    · exact wpAny_pyHash_str h
  eqBool := fun hu hv h => by
    rcases keyIs_shape hu with ⟨i, t, rfl, rfl⟩ | ⟨x, t, rfl, rfl⟩
    · rcases keyIs_shape hv with ⟨j, u, rfl, rfl⟩ | ⟨y, u, rfl, rfl⟩
      · rw [key_ll] at h; exact wpAny_eqBool_int h
      · rw [key_lr] at h; exact SeqAt.EqAt.int_str i t y u _ _ _ _ h
    · rcases keyIs_shape hv with ⟨j, u, rfl, rfl⟩ | ⟨y, u, rfl, rfl⟩
      · rw [key_rl] at h; exact SeqAt.EqAt.str_int x t j u _ _ _ _ h
      · rw [key_rr] at h; exact wpAny_eqBool_str h
  «strs» := fun k x t v h => by
    rcases keyIs_shape h with ⟨i, u, rfl, e⟩ | ⟨y, u, rfl, e⟩
    · exact nomatch e
    · injection e with e1 _
      subst e1
      cases v <;> rfl
theorem mixKind_int (prog : Program) (w : World) (i : Int) (t : Tok) : (mixKind prog w).is (.inl i) (.int i t) = true := keyIs_int i t
end L2
namespace L2
open PySem PySem.Spec PyProof.Rows
inductive V where
  | non | bl (b : Bool) | int (i : Int) | str (x : Str) | byt (b : Array UInt8) | flt (b : UInt64) | ref (a : Addr) | ty (n : String)
  deriving DecidableEq
def RelV : V → Value → Prop
  | .non, u => u = Value.none
  | .bl b, u => u = Value.bool b
  | .int i, u => ∃ t, u = Value.int i t
  | .str x, u => ∃ t, u = Value.str x t
  | .byt b, u => ∃ t, u = Value.bytes b t
  | .flt b, u => ∃ t, u = Value.float b t
  | .ref a, u => u = Value.ref a
  | .ty n, u => u = Value.type n
abbrev Vals : List V → List Value → Prop := Paired RelV
theorem Vals.length {xs : List V} {us : List Value} (r : Vals xs us) : xs.length = us.length := Paired.length r
theorem Vals.get : ∀ {xs : List V} {us : List Value} {i : Nat} {x : V}, Vals xs us → xs[i]? = some x → ∃ u, us[i]? = some u ∧ RelV x u
  | _, _, _, _, .nil, e => by simp at e
  | _, _, 0, _, .cons r _, e => by simp at e; subst e; exact ⟨_, rfl, r⟩
  | _, _, i + 1, x, .cons _ t, e => by
    obtain ⟨u, h1, h2⟩ := Vals.get (i := i) (x := x) t (by simpa using e)
    exact ⟨u, by simpa using h1, h2⟩
theorem Vals.set {x : V} {u : Value} (r : RelV x u) : ∀ {xs : List V} {us : List Value} (i : Nat), Vals xs us → Vals (xs.set i x) (us.set i u)
  | _, _, _, .nil => .nil
  | _, _, 0, .cons _ t => .cons r t
  | _, _, i + 1, .cons q t => .cons q (Vals.set r i t)
theorem Vals.append : ∀ {xs ys : List V} {us ws : List Value}, Vals xs us → Vals ys ws → Vals (xs ++ ys) (us ++ ws)
  | _, _, _, _, .nil, s => s
  | _, _, _, _, .cons r t, s => .cons r (Vals.append t s)
theorem Vals.take : ∀ {xs : List V} {us : List Value} (n : Nat), Vals xs us → Vals (xs.take n) (us.take n)
  | _, _, 0, _ => .nil
  | _, _, _ + 1, .nil => .nil
  | _, _, n + 1, .cons r t => .cons r (Vals.take n t)
theorem Vals.drop : ∀ {xs : List V} {us : List Value} (n : Nat), Vals xs us → Vals (xs.drop n) (us.drop n)
  | _, _, 0, r => r
  | _, _, _ + 1, .nil => .nil
  | _, _, n + 1, .cons _ t => Vals.drop n t
def RelO : Option V → Option Value → Prop
  | some v, some u => RelV v u
  | none, none => True
  | _, _ => False
def KV {κ : Type} : List (κ × V) → List (κ × Value) → Prop := Paired fun (p : κ × V) (q : κ × Value) => p.1 = q.1 ∧ RelV p.2 q.2
def kV : Key → V
  | .inl i => .int i
  | .inr x => .str x
inductive HO where
  /-- a list -/
  | lst (xs : List V)
  /-- a tuple (never changes) -/
  | tup (xs : List V)
  /-- a dict whose keys are ints and texts; one whose keys are tuples of ints and texts (the empty one is both) -/
  | dK (kvs : List (Key × V)) | dT (kvs : List (List Key × V))
  /-- a set of ints: its members, its size -/
  | set (S : Int → Bool) (n : Nat)
  /-- an instance of the class at C, its dict at dx, its attributes -/
  | ins (C dx : Addr) (fs : List (Str × V))
  /-- the dict of the instance at x -/
  | own (x : Addr)
  /-- the dict of an exception -/
  | xd (fs : List (Str × V))
  /-- a bound method, f of x -/
  | met (f x : Addr)
  /-- a range object lo, lo + 1, .. below hi -/
  | rng (lo hi : Int)
  /-- a thing that is known to the object (the script; a dict while a loop walks it): read, never written while it is so -/
  | frz (o : Obj) (u : HO)
  /-- a code object's table -/
  | tbl (ps : Array Value)
  /-- any other thing, by what is true of its one object (a def of one's own: SetO a S n := HO.ext fun h => ..) -/
  | ext (φ : Heap → Prop)
abbrev Hp := Addr → Option HO
def upd (H : Hp) (a : Addr) (o : HO) : Hp := fun b => if b = a then some o else H b
theorem upd_same {H : Hp} {a : Addr} {o : HO} : upd H a o a = some o := by unfold upd; rw [if_pos rfl]
theorem upd_ne {H : Hp} {a b : Addr} {o : HO} (h : b ≠ a) : upd H a o b = H b := by unfold upd; rw [if_neg h]
theorem upd_upd {H : Hp} {a : Addr} {o u : HO} : upd (upd H a o) a u = upd H a u := by
  funext b; unfold upd; split <;> rfl
theorem ne_of {H : Hp} {a b : Addr} {o u : HO} (h : H a = some o) (h' : H b = some u) (d : o ≠ u) : a ≠ b := by
  intro e; subst e; rw [h] at h'; exact d (Option.some.inj h')
theorem ne_of_none {H : Hp} {a b : Addr} {o : HO} (h : H a = some o) (h' : H b = none) : a ≠ b := by
  intro e; subst e; rw [h] at h'; cases h'
section
variable (P : Program) (w : World)
def ObjOk (H : Hp) (h : Heap) (a : Addr) : HO → Prop
  | .lst xs => xs.length ≤ sizeLine ∧ ∃ (its : List Value) (n : Nat), Vals xs its ∧ h.get? a = some { cls := .type "list", data := .seq its.toArray n }
  | .tup xs => xs.length ≤ sizeLine ∧ ∃ its : List Value, Vals xs its ∧ IsTup h a its.toArray
  | .dK kvs => kvs.length ≤ sizeLine ∧ (a == sysModules) = false ∧ ∃ vs, KV kvs vs ∧ h.DictOf (mixKind P w) a vs
  | .dT kvs => kvs.length ≤ sizeLine ∧ (a == sysModules) = false ∧ ∃ xs : List (List Key × Addr × Value),
      Paired (fun (p : List Key × V) (q : List Key × Addr × Value) => p.1 = q.1 ∧ H q.2.1 = some (.tup (p.1.map kV)) ∧ RelV p.2 q.2.2) kvs xs ∧
      ∃ o es ep, h.get? a = some o ∧ o.ExactDict ∧ o.data = .dict es ep ∧ es.toList = xs.map (entryOfKey (tupleKind (mixKind P w))) ∧ (xs.map (·.1)).Nodup
  | .set S n => h.SetOf (intKind P w) a S n
  | .ins C dx fs => H dx = some (.own a) ∧ fs.length ≤ 1000 ∧ dx ≠ a ∧ h.get? a = some (PySem.W.instObj C dx) ∧
      ∃ mA, h.Ns1 dx mA ∧ (∀ f, RelO (fs.lookup f) (mA f)) ∧ PySem.Within mA (fs.map (·.1))
  | .own _ => ∃ o, h.get? a = some o
  | .xd fs => ∃ mA, h.Ns1 a mA ∧ ∀ f, RelO (fs.lookup f) (mA f)
  | .rng lo hi => ∃ t u v, h.get? a = some { cls := .type "range", data := .fields #[.int lo t, .int hi u, .int 1 v] }
  | .frz o u => h.get? a = some o ∧ ObjOk H h a u
  | .tbl ps => h.get? a = some { cls := .none, data := .fields ps }
  | .met f x => h.get? a = some (PySem.W.methodObj (.ref f) (.ref x))
  | .ext φ => φ h ∧ (∃ o, h.get? a = some o) ∧ ∀ h1 h2 : Heap, φ h1 → (∀ o, h1.get? a = some o → h2.get? a = some o) → φ h2
def HOk (H : Hp) (h : Heap) : Prop := ∀ a o, H a = some o → ObjOk P w H h a o
end
section
variable {P : Program} {w : World} {H H' : Hp} {h h' : Heap} {a : Addr} {o : HO}
theorem ObjOk.lt (x : ObjOk P w H h a o) : a < h.objs.size := by
  cases o with
  | lst xs => obtain ⟨_, _, _, _, e⟩ := x; exact Heap.lt_size e
  | tup xs => obtain ⟨_, _, _, p⟩ := x; exact p.lt
  | dK kvs => obtain ⟨_, _, _, _, o, _, _, e, _⟩ := x; exact Heap.lt_size e
  | dT kvs => obtain ⟨_, _, _, _, o, _, _, e, _⟩ := x; exact Heap.lt_size e
  | set S n => obtain ⟨o, _, _, _, e, _⟩ := x; exact Heap.lt_size e
  | ins C dx fs => obtain ⟨_, _, _, e, _⟩ := x; exact Heap.lt_size e
  | own y => obtain ⟨_, e⟩ := x; exact Heap.lt_size e
  | xd fs => obtain ⟨_, ⟨_, _, _, e, _⟩, _⟩ := x; exact Heap.lt_size e
  | rng lo hi => obtain ⟨_, _, _, e⟩ := x; exact Heap.lt_size e
  | frz ob u => obtain ⟨e, _⟩ := x; exact Heap.lt_size e
  | tbl ps => exact Heap.lt_size (show h.get? a = some _ from x)
  | met f y => exact Heap.lt_size (show h.get? a = some _ from x)
  | ext φ => obtain ⟨_, ⟨_, e⟩, _⟩ := x; exact Heap.lt_size e
theorem Paired.mapP {α β : Type} {F G : α → β → Prop} : ∀ {l₁ : List α} {l₂ : List β}, Paired F l₁ l₂ → (∀ a b, F a b → G a b) → Paired G l₁ l₂
  | _, _, .nil, _ => .nil
  | _, _, .cons r t, f => .cons (f _ _ r) (Paired.mapP t f)
theorem ObjOk.stay (x : ObjOk P w H h a o) (k : ∀ b u, (b = a ∨ H b = some (.own a)) → h.get? b = some u → h'.get? b = some u)
    (ho : ∀ b, H b = some (.own a) → H' b = some (.own a)) (ht : ∀ b xs, H b = some (.tup xs) → H' b = some (.tup xs)) : ObjOk P w H' h' a o := by
  induction o with
  | lst xs => obtain ⟨z, its, n, r, e⟩ := x; exact ⟨z, its, n, r, k _ _ (.inl rfl) e⟩
  | tup xs => obtain ⟨z, its, r, ob, e, c⟩ := x; exact ⟨z, its, r, ob, k _ _ (.inl rfl) e, c⟩
  | dK kvs => obtain ⟨z, y, vs, r, ob, es, ep, e, c⟩ := x; exact ⟨z, y, vs, r, ob, es, ep, k _ _ (.inl rfl) e, c⟩
  | dT kvs =>
    obtain ⟨z, y, xs, r, ob, es, ep, e, c⟩ := x
    exact ⟨z, y, xs, Paired.mapP r fun p q z => ⟨z.1, ht _ _ z.2.1, z.2.2⟩, ob, es, ep, k _ _ (.inl rfl) e, c⟩
  | set S n => obtain ⟨ob, es, ep, t, e, c⟩ := x; exact ⟨ob, es, ep, t, k _ _ (.inl rfl) e, c⟩
  | ins C dx fs =>
    obtain ⟨d, z, ne, e, mA, ⟨od, es, ep, e2, c⟩, r⟩ := x
    exact ⟨ho _ d, z, ne, k _ _ (.inl rfl) e, mA, ⟨od, es, ep, k _ _ (.inr d) e2, c⟩, r⟩
  | own y => obtain ⟨ob, e⟩ := x; exact ⟨ob, k _ _ (.inl rfl) e⟩
  | xd fs => obtain ⟨mA, ⟨od, es, ep, e, c⟩, r⟩ := x; exact ⟨mA, ⟨od, es, ep, k _ _ (.inl rfl) e, c⟩, r⟩
  | rng lo hi => obtain ⟨t, u, v, e⟩ := x; exact ⟨t, u, v, k _ _ (.inl rfl) e⟩
  | frz ob u ih => obtain ⟨e, q⟩ := x; exact ⟨k _ _ (.inl rfl) e, ih q⟩
  | tbl ps =>
    have e : h.get? a = some { cls := .none, data := .fields ps } := x
    show h'.get? a = some { cls := .none, data := .fields ps }
    exact k a _ (.inl rfl) e
  | met f y =>
    have e : h.get? a = some (PySem.W.methodObj (.ref f) (.ref y)) := x
    show h'.get? a = some (PySem.W.methodObj (.ref f) (.ref y))
    exact k a _ (.inl rfl) e
  | ext φ => obtain ⟨p, ⟨o, e⟩, st⟩ := x; exact ⟨st _ _ p fun o q => k _ _ (.inl rfl) q, ⟨o, k _ _ (.inl rfl) e⟩, st⟩
theorem HOk.lt (x : HOk P w H h) (e : H a = some o) : a < h.objs.size := (x a o e).lt
theorem HOk.fresh (x : HOk P w H h) (e : h.objs.size ≤ a) : H a = none := by
  cases q : H a with
  | none => rfl
  | some u => exact absurd (Nat.lt_of_lt_of_le (x.lt q) e) (Nat.lt_irrefl _)
theorem HOk.kept (x : HOk P w H h) (k : ∀ b u, h.get? b = some u → h'.get? b = some u) : HOk P w H h' := fun a o e =>
  (x a o e).stay (fun b u _ q => k b u q) (fun _ q => q) fun _ _ q => q
theorem HOk.laid (x : HOk P w H h) (k : ∀ b u, h.get? b = some u → h'.get? b = some u) (hp : h.objs.size ≤ a) (new : ObjOk P w (upd H a o) h' a o) : HOk P w (upd H a o) h' := fun b u e => by
  have hn := x.fresh hp
  by_cases hb : b = a
  · subst hb; rw [upd_same] at e; cases e; exact new
  · rw [upd_ne hb] at e
    exact (x b u e).stay (fun c v _ q => k c v q) (fun c q => by rw [upd_ne (ne_of_none q hn)]; exact q) fun c xs q => by rw [upd_ne (ne_of_none q hn)]; exact q
end
def Rd (H : Hp) (a : Addr) (u : HO) : Prop := H a = some u ∨ ∃ o, H a = some (.frz o u)
theorem Rd.ok {P : Program} {w : World} {H : Hp} {h : Heap} {a : Addr} {u : HO} (r : Rd H a u) (x : HOk P w H h) : ObjOk P w H h a u := by
  rcases r with r | ⟨o, r⟩
  · exact x a u r
  · obtain ⟨_, q⟩ := x a _ r
    exact q
def Mut : Option HO → Prop
  | some (.lst _) => True
  | some (.dK _) => True
  | some (.dT _) => True
  | some (.set _ _) => True
  | some (.ins _ _ _) => True
  | some (.ext _) => True
  | _ => False
section
variable {P : Program} {w : World} {H : Hp} {h h' : Heap} {x e : Addr} {o' : HO}
theorem HOk.write (ok : HOk P w H h) (mu : Mut (H x)) (he : e = x ∨ H e = some (.own x)) (k : ∀ b u, b ≠ e → h.get? b = some u → h'.get? b = some u) (heo : ∃ u, h'.get? e = some u)
    (new : ObjOk P w (upd H x o') h' x o') : HOk P w (upd H x o') h' := fun b u q => by
  have nown : ∀ c y, H c = some (.own y) → c ≠ x := fun c y r z => by subst z; rw [r] at mu; exact mu
  have ntup : ∀ c xs, H c = some (.tup xs) → c ≠ x := fun c xs r z => by subst z; rw [r] at mu; exact mu
  by_cases hb : b = x
  · subst hb; rw [upd_same] at q; cases q; exact new
  · rw [upd_ne hb] at q
    by_cases hbe : b = e
    · have q' : H b = some (.own x) := by
        rcases he with z | z
        · exact absurd (hbe.trans z) hb
        · rw [hbe]; exact z
      rw [q] at q'; cases q'
      obtain ⟨v, hv⟩ := heo
      exact ⟨v, by rw [hbe]; exact hv⟩
    · refine (ok b u q).stay (fun c v hc r => k c v ?_ r) (fun c r => by rw [upd_ne (nown c b r)]; exact r) fun c xs r => by rw [upd_ne (ntup c xs r)]; exact r
      rcases hc with rfl | hc
      · exact hbe
      · rintro rfl
        rcases he with z | z
        · exact nown c b hc z
        · rw [hc] at z; cases z; exact hb rfl
end
structure Un (fs ex : List Addr) (H H' : Hp) (h h' : Heap) : Prop where
  keep : ∀ b o, h.get? b = some o → H b = none → b ∉ fs → b ∉ ex → h'.get? b = some o
  slot : ∀ b o, h.get? b = some o → H b = none → b ∈ fs → b ∉ ex → ∃ sl, h'.get? b = some { o with slots := sl }
  free : ∀ b o, h.get? b = some o → H b = none → b ∉ ex → H' b = none
  there : ∀ b o, h.get? b = some o → b ∉ ex → ∃ o', h'.get? b = some o'
  tups : ∀ b xs, H b = some (.tup xs) → H' b = some (.tup xs)
  frzs : ∀ b o u, H b = some (.frz o u) → H' b = some (.frz o u)
  tbls : ∀ b ps, H b = some (.tbl ps) → ∃ more, H' b = some (.tbl (ps ++ more))
section
variable {fs fs' ex ex' : List Addr} {H H1 H2 : Hp} {h h1 h2 h' : Heap} {a x e : Addr} {o : HO}
theorem Un.any (u : Un fs ex H H1 h h1) {b : Addr} {ob : Obj} (q : h.get? b = some ob) (n : H b = none) (hx : b ∉ ex) : ∃ sl, h1.get? b = some { ob with slots := sl } := by
  by_cases hb : b ∈ fs
  · exact u.slot b ob q n hb hx
  · exact ⟨ob.slots, u.keep b ob q n hb hx⟩
theorem Un.kept (k : ∀ b u, h.get? b = some u → h'.get? b = some u) : Un fs ex H H h h' :=
  ⟨fun b ob q _ _ _ => k b ob q, fun b ob q _ _ _ => ⟨ob.slots, k b ob q⟩, fun _ _ _ n _ => n, fun b ob q _ => ⟨ob, k b ob q⟩, fun _ _ q => q, fun _ _ _ q => q, fun _ ps q => ⟨#[], by rw [q]; simp⟩⟩
theorem Un.refl : Un fs ex H H h h := Un.kept fun _ _ q => q
theorem Un.laid (k : ∀ b u, h.get? b = some u → h'.get? b = some u) (hp : h.objs.size ≤ a) (hn : H a = none) : Un fs ex H (upd H a o) h h' where
  keep := fun b u q _ _ _ => k b u q
  slot := fun b u q _ _ _ => ⟨u.slots, k b u q⟩
  free := fun b u q n _ => by rw [upd_ne (Nat.ne_of_lt (Nat.lt_of_lt_of_le (Heap.lt_size q) hp))]; exact n
  there := fun b u q _ => ⟨u, k b u q⟩
  tups := fun b xs q => by rw [upd_ne (ne_of_none q hn)]; exact q
  frzs := fun b u xs q => by rw [upd_ne (ne_of_none q hn)]; exact q
  tbls := fun b ps q => ⟨#[], by rw [upd_ne (ne_of_none q hn), q]; simp⟩
theorem Un.write (mu : Mut (H x)) (he : e = x ∨ H e = some (.own x)) (k : ∀ b u, b ≠ e → h.get? b = some u → h'.get? b = some u) (heo : ∃ u, h'.get? e = some u) : Un fs ex H (upd H x o) h h' := by
  have hx : ∀ b, H b = none → b ≠ x := fun b n z => by subst z; rw [n] at mu; exact mu
  have hb : ∀ b, H b = none → b ≠ e := fun b n z => by
    subst z
    rcases he with r | r
    · exact hx b n r
    · rw [n] at r; cases r
  have hm : ∀ b u, H b = some u → ¬ Mut (some u) → b ≠ x := fun b u q nm z => by subst z; rw [q] at mu; exact nm mu
  refine ⟨fun b u q n _ _ => k b u (hb b n) q, fun b u q n _ _ => ⟨u.slots, k b u (hb b n) q⟩, fun b u q n _ => by rw [upd_ne (hx b n)]; exact n, fun b u q _ => ?_,
    fun b xs q => by rw [upd_ne (hm b _ q fun z => z)]; exact q, fun b u xs q => by rw [upd_ne (hm b _ q fun z => z)]; exact q, fun b ps q => ⟨#[], by rw [upd_ne (hm b _ q fun z => z), q]; simp⟩⟩
  by_cases hbe : b = e
  · subst hbe; exact heo
  · exact ⟨u, k b u hbe q⟩
end
def trk (h : Heap) (H : Hp) : List Addr := (List.range h.objs.size).filter fun a => (H a).isSome
def hidT (h : Heap) (H : Hp) : Heap := PySem.W.hideAll h (trk h H)
theorem hidT_size (h : Heap) (H : Hp) : (hidT h H).objs.size = h.objs.size := PySem.W.hideAll_size _ _
theorem hidT_get {h : Heap} {H : Hp} {b : Addr} {o : Obj} (e : h.get? b = some o) (n : H b = none) : (hidT h H).get? b = some o :=
  PySem.W.hideAll_get _ e fun hm => by
    have q : (H b).isSome = true := (List.mem_filter.mp hm).2
    rw [n] at q; simp at q
theorem of_hidT {h : Heap} {H : Hp} {b : Addr} {o : Obj} (e : (hidT h H).get? b = some o) : h.get? b = some o ∧ H b = none := by
  have e' : h.get? b = some o := PySem.W.of_hideAll (trk h H) e
  refine ⟨e', ?_⟩
  cases q : H b with
  | none => rfl
  | some x =>
    have hm : b ∈ trk h H := List.mem_filter.mpr ⟨List.mem_range.mpr (Heap.lt_size e'), by simp [q]⟩
    have z : (hidT h H).get? b = none := PySem.W.hideAll_none (trk h H) hm
    rw [z] at e; cases e
end L2
namespace L2
open PySem PySem.Spec PyProof.Rows
structure Mod (K : PySem.W.Frag) (mg : Str → Option Value) (base : Heap) : Prop where
  kin : K.In base
  glob : base.Ns mainGlobals mg
  blt : ∃ mb, base.Ns builtinsNs mb ∧ ∀ x : Str, x ≠ "__name__" → mb x = bootBuiltins x
  nolimit : base.NoLimit
structure Cx where
  prog : Program
  w : World
  K : PySem.W.Frag
  mg : Str → Option Value
  base : Heap
  A : Around
  N : List Str
  s_0 : Shared
  H_0 : Hp
  env : Env
  outer : List Env
  stack : List Env
  ex : List Addr
  fn : Str → Bool
  calm : Bool
  pn : List (Addr × Obj)
  xe : Value → Shared → Prop
def frs (l : List Env) : List Addr := l.filterMap (·.frame)
abbrev Cx.fs (X : Cx) : List Addr := frs X.outer
def Vis (sc : Scope) (x : Str) : Prop := sc.names.lookup x = some .local ∨ sc.names.lookup x = some .cell ∨ sc.names.lookup x = some .free
def Loc (sc : Scope) (x : Str) : Prop := sc.names.lookup x = some .local ∨ sc.names.lookup x = some .cell
def Look (env : Env) (h : Heap) (m : Str → Option Value) (x : Str) (u : Value) : Prop :=
  (env.kindOf x = some .local ∧ m x = some u) ∨ ((env.kindOf x = some .cell ∨ env.kindOf x = some .free) ∧ ∃ c, env.cells.lookup x = some c ∧ h.IsCell c (some u))
structure Cx.Ok (X : Cx) : Prop where
  mod : Mod X.K X.mg X.base
  kind : X.env.scope.kind = .function
  glob : X.env.globals = mainGlobals
  blt : X.env.builtins = builtinsNs
  above : X.s_0.heap.objs.size ≤ X.env.locals
  inj : ∀ x y c, X.env.cells.lookup x = some c → X.env.cells.lookup y = some c → x = y
  has : ∀ x, (X.env.kindOf x = some .cell ∨ X.env.kindOf x = some .free) → ∃ c, X.env.cells.lookup x = some c
  cab : ∀ x c, X.fn x = true → X.env.cells.lookup x = some c → X.s_0.heap.objs.size ≤ c
  hd : X.calm = true → X.A.handled = none
  frames : X.A.frames = some X.stack
  stk : X.stack = X.outer ∨ (X.stack = X.env :: X.outer ∧ X.env.frame = some X.env.locals)
  exf : ∀ b ∈ X.ex, b ≠ X.env.locals ∧ ∀ x c, X.env.cells.lookup x = some c → c ≠ b
  bs : ∀ b o, X.base.get? b = some o → X.s_0.heap.get? b = some o ∧ X.H_0 b = none
  bsz : X.base.objs.size ≤ X.s_0.heap.objs.size
  noex : ∀ b o, X.base.get? b = some o → b ∉ X.ex
  exfs : ∀ b ∈ X.ex, b ∉ X.fs
  funs : X.s_0.heap.FunFrames X.base X.outer
  frf : ∀ b ∈ X.fs, X.H_0 b = none
structure Inv (X : Cx) (pins : List (Addr × Obj)) (σ : List (Option V)) (H : Hp) (s : Shared) : Prop where
  ok : X.Ok
  os : s.os = X.s_0.os
  bare : AllBare s.gens
  base : Un X.fs X.ex X.H_0 H X.s_0.heap s.heap
  loc : ∃ m, s.heap.Ns X.env.locals m ∧ ∀ (i : Nat) (x : Str) (v : V), X.N[i]? = some x → σ[i]? = some (some v) → Vis X.env.scope x → ∃ u, RelV v u ∧ Look X.env s.heap m x u
  cell : ∀ x c, X.env.cells.lookup x = some c → ∃ v, s.heap.IsCell c v
  free : H X.env.locals = none
  freeC : ∀ x c, X.env.cells.lookup x = some c → H c = none
  pin : ∀ p ∈ X.pn ++ pins, s.heap.get? p.1 = some p.2 ∧ H p.1 = none ∧ p.1 ≠ X.env.locals ∧ p.1 ∉ X.fs ∧ ∀ v, p.2.data ≠ .cell v
  hok : HOk X.prog X.w H s.heap
  len : σ.length = X.N.length
section
variable {X : Cx} {pins : List (Addr × Obj)} {σ : List (Option V)} {H H' : Hp} {s : Shared} {h' : Heap}
theorem Cx.Ok.nofr (ok : X.Ok) {b : Addr} {o : Obj} (e : X.base.get? b = some o) : b ∉ X.fs := fun hb => by
  have := (ok.funs.mem hb).1
  rw [e] at this; cases this
theorem Inv.bs (I : Inv X pins σ H s) : ∀ b o, X.base.get? b = some o → s.heap.get? b = some o ∧ H b = none := fun b o e =>
  ⟨I.base.keep b o (I.ok.bs b o e).1 (I.ok.bs b o e).2 (I.ok.nofr e) (I.ok.noex b o e), I.base.free b o (I.ok.bs b o e).1 (I.ok.bs b o e).2 (I.ok.noex b o e)⟩
theorem Inv.bk (I : Inv X pins σ H s) : ∀ b o, X.base.get? b = some o → s.heap.get? b = some o := fun b o e => (I.bs b o e).1
theorem Inv.mod (I : Inv X pins σ H s) : Mod X.K X.mg X.base := I.ok.mod
theorem Inv.kIn (I : Inv X pins σ H s) : X.K.In s.heap := I.ok.mod.kin.keeps I.bk
theorem Inv.lt (I : Inv X pins σ H s) : X.env.locals < s.heap.objs.size := let ⟨_, hn, _⟩ := I.loc; hn.lt
theorem Inv.sz (I : Inv X pins σ H s) : X.s_0.heap.objs.size ≤ s.heap.objs.size := Nat.le_trans I.ok.above (Nat.le_of_lt I.lt)
theorem Inv.nofs (I : Inv X pins σ H s) {a : Addr} (h : s.heap.objs.size ≤ a) : a ∉ X.fs := fun hb => by
  obtain ⟨_, o, ho, _⟩ := I.ok.funs.mem hb
  exact absurd (Nat.lt_of_lt_of_le (Heap.lt_size ho) (Nat.le_trans I.sz h)) (Nat.lt_irrefl _)
theorem Inv.cne (I : Inv X pins σ H s) : ∀ x c, X.env.cells.lookup x = some c → c ≠ X.env.locals := fun x c e z => by
  obtain ⟨v, o, ho, hd⟩ := I.cell x c e
  obtain ⟨m, ⟨o', es, ep, ho', hd', _⟩, _⟩ := I.loc
  rw [z, ho'] at ho; cases ho; rw [hd'] at hd; cases hd
theorem Inv.funs (I : Inv X pins σ H s) : s.heap.FunFrames X.base X.outer := by
  have all : ∀ (l : List Env), (∀ b ∈ frs l, b ∈ X.fs) → X.s_0.heap.FunFrames X.base l → s.heap.FunFrames X.base l := by
    intro l
    induction l with
    | nil => intro _ _; trivial
    | cons env r ih =>
      intro hs hl
      obtain ⟨hk, ⟨L, o, hf, hn, ho, hd⟩, hr⟩ := hl
      have hL : L ∈ X.fs := hs L (by unfold frs; rw [List.filterMap_cons, hf]; exact List.mem_cons_self)
      obtain ⟨sl, e⟩ := I.base.slot L o ho (I.ok.frf L hL) hL fun z => I.ok.exfs L z hL
      exact ⟨hk, ⟨L, _, hf, hn, e, hd⟩, ih (fun b hb => hs b (by unfold frs; rw [List.filterMap_cons, hf]; exact List.mem_cons_of_mem _ hb)) hr⟩
  exact all X.outer (fun _ hb => hb) I.ok.funs
theorem Inv.stack (I : Inv X pins σ H s) : s.heap.FunFrames X.base X.stack := by
  rcases I.ok.stk with e | ⟨e, hf⟩
  · rw [e]; exact I.funs
  · rw [e]
    obtain ⟨m, hn, _⟩ := I.loc
    refine .cons (by rw [I.ok.kind]; decide) hf hn ?_ I.funs
    exact Heap.get?_none_of_le (Nat.le_trans I.ok.bsz I.ok.above)
theorem Inv.stkSub (I : Inv X pins σ H s) : ∀ b ∈ frs X.stack, b ∈ X.env.locals :: X.fs := fun b hb => by
  rcases I.ok.stk with e | ⟨e, hf⟩
  · rw [e] at hb; exact List.mem_cons_of_mem _ hb
  · rw [e] at hb
    unfold frs at hb
    rw [List.filterMap_cons, hf] at hb
    exact hb
theorem Inv.stkFree (I : Inv X pins σ H s) : ∀ b ∈ frs X.stack, H b = none := fun b hb => by
  rcases List.mem_cons.mp (I.stkSub b hb) with e | hb
  · rw [e]; exact I.free
  · obtain ⟨_, o, ho, _⟩ := I.ok.funs.mem hb
    exact I.base.free b o ho (I.ok.frf b hb) fun z => I.ok.exfs b z hb
theorem Inv.step {g' : Array GenState} {t' : Nat} {d' : Drawn} {ch : List Addr} (I : Inv X pins σ H s)
    (hch : ∀ b ∈ ch, (b ∈ X.ex ∨ X.s_0.heap.objs.size ≤ b) ∧ b ≠ X.env.locals ∧ (∀ x c, X.env.cells.lookup x = some c → c ≠ b) ∧ ∀ p ∈ X.pn ++ pins, p.1 ≠ b)
    (keep : ∀ b o, b ≠ X.env.locals → b ∉ X.fs → b ∉ ch → s.heap.get? b = some o → H b = none → h'.get? b = some o)
    (slot : ∀ b o, b ≠ X.env.locals → b ∈ X.fs → b ∉ ch → s.heap.get? b = some o → H b = none → ∃ sl, h'.get? b = some { o with slots := sl }) (free : ∀ b o, b ∉ ch → s.heap.get? b = some o → H b = none → H' b = none)
    (there : ∀ b o, b ∉ ch → s.heap.get? b = some o → ∃ o', h'.get? b = some o')
    (tups : ∀ b xs, H b = some (.tup xs) → H' b = some (.tup xs)) (frzs : ∀ b o u, H b = some (.frz o u) → H' b = some (.frz o u)) (tbls : ∀ b ps, H b = some (.tbl ps) → ∃ more, H' b = some (.tbl (ps ++ more)))
    (ns : ∀ m, s.heap.Ns X.env.locals m → h'.Ns X.env.locals m) (hok : HOk X.prog X.w H' h') (hg : AllBare g') :
    Inv X pins σ H' { s with heap := h', gens := g', drawn := d', toks := t' } := by
  have neL : ∀ b o, X.s_0.heap.get? b = some o → b ≠ X.env.locals := fun b o e => Nat.ne_of_lt (Nat.lt_of_lt_of_le (Heap.lt_size e) I.ok.above)
  have neC : ∀ b o, X.s_0.heap.get? b = some o → b ∉ X.ex → b ∉ ch := fun b o e hx hb => by
    rcases (hch b hb).1 with z | z
    · exact hx z
    · exact absurd (Nat.lt_of_lt_of_le (Heap.lt_size e) z) (Nat.lt_irrefl _)
  have cellK : ∀ x c, X.env.cells.lookup x = some c → ∀ v, s.heap.IsCell c v → h'.IsCell c v := fun x c e v ⟨o, ho, hd⟩ => by
    have nch : c ∉ ch := fun z => (hch c z).2.2.1 x c e rfl
    by_cases hc : c ∈ X.fs
    · obtain ⟨sl, q⟩ := slot c o (I.cne x c e) hc nch ho (I.freeC x c e)
      exact ⟨_, q, hd⟩
    · exact ⟨o, keep c o (I.cne x c e) hc nch ho (I.freeC x c e), hd⟩
  refine ⟨I.ok, I.os, hg, ⟨fun b o e n hb hx => ?_, fun b o e n hb hx => ?_, fun b o e n hx => ?_, fun b o e hx => ?_, fun b xs e => tups b xs (I.base.tups b xs e), fun b o xs e => frzs b o xs (I.base.frzs b o xs e), fun b ps e => ?_⟩, ?_, fun x c e => ?_, ?_, fun x c e => ?_, fun p hp => ?_, hok, I.len⟩
  · exact keep b o (neL b o e) hb (neC b o e hx) (I.base.keep b o e n hb hx) (I.base.free b o e n hx)
  · obtain ⟨sl, e1⟩ := I.base.slot b o e n hb hx
    obtain ⟨sl', e2⟩ := slot b _ (neL b o e) hb (neC b o e hx) e1 (I.base.free b o e n hx)
    exact ⟨sl', e2⟩
  · obtain ⟨o', e1⟩ := I.base.there b o e hx
    exact free b o' (neC b o e hx) e1 (I.base.free b o e n hx)
  · obtain ⟨o', e1⟩ := I.base.there b o e hx
    exact there b o' (neC b o e hx) e1
  · obtain ⟨m1, e1⟩ := I.base.tbls b ps e
    obtain ⟨m2, e2⟩ := tbls b _ e1
    exact ⟨m1 ++ m2, by rw [e2, Array.append_assoc]⟩
  · obtain ⟨m, hn, hl⟩ := I.loc
    refine ⟨m, ns m hn, fun i x v e1 e2 e3 => ?_⟩
    obtain ⟨u, r, l⟩ := hl i x v e1 e2 e3
    refine ⟨u, r, ?_⟩
    rcases l with l | ⟨k, c, e, z⟩
    · exact .inl l
    · exact .inr ⟨k, c, e, cellK x c e _ z⟩
  · obtain ⟨v, z⟩ := I.cell x c e
    exact ⟨v, cellK x c e v z⟩
  · obtain ⟨m, ⟨o, _, _, ho, _⟩, _⟩ := I.loc
    exact free _ o (fun z => (hch _ z).2.1 rfl) ho I.free
  · obtain ⟨v, o, ho, hd⟩ := I.cell x c e
    exact free c o (fun z => (hch c z).2.2.1 x c e rfl) ho (I.freeC x c e)
  · obtain ⟨e, n, ne, nf, d⟩ := I.pin p hp
    have nch : p.1 ∉ ch := fun z => (hch p.1 z).2.2.2 p hp rfl
    exact ⟨keep p.1 p.2 ne nf nch e n, free p.1 p.2 nch e n, ne, nf, d⟩
theorem Inv.un {t' : Nat} (I : Inv X pins σ H s) (u : Un X.fs [] H H' s.heap h') (hok : HOk X.prog X.w H' h') : Inv X pins σ H' { s with heap := h', toks := t' } := by
  obtain ⟨m, ⟨o, es, ep, ho, r⟩, _⟩ := id I.loc
  obtain ⟨sl, hL⟩ := u.any ho I.free (by simp)
  exact I.step (g' := s.gens) (d' := s.drawn) (ch := []) (fun _ z => nomatch z) (fun b o _ hb _ e n => u.keep b o e n hb (by simp)) (fun b o _ hb _ e n => u.slot b o e n hb (by simp)) (fun b o _ e n => u.free b o e n (by simp)) (fun b o _ e => u.there b o e (by simp)) u.tups u.frzs u.tbls (fun m' hm => by
    obtain ⟨o', es', ep', ho', r'⟩ := hm
    rw [ho] at ho'; cases ho'
    exact ⟨_, es', ep', hL, r'⟩) hok I.bare
theorem Inv.call {g' : Array GenState} {t' : Nat} {d' : Drawn} {ch : List Addr} (I : Inv X pins σ H s) (u : Un (frs X.stack) ch H H' s.heap h') (hok : HOk X.prog X.w H' h') (hg : AllBare g')
    (hch : ∀ b ∈ ch, (b ∈ X.ex ∨ X.s_0.heap.objs.size ≤ b) ∧ b ≠ X.env.locals ∧ (∀ x c, X.env.cells.lookup x = some c → c ≠ b) ∧ ∀ p ∈ X.pn ++ pins, p.1 ≠ b) :
    Inv X pins σ H' { s with heap := h', gens := g', drawn := d', toks := t' } := by
  obtain ⟨m, ⟨o, es, ep, ho, r⟩, _⟩ := id I.loc
  obtain ⟨sl, hL⟩ := u.any ho I.free fun z => (hch _ z).2.1 rfl
  exact I.step (ch := ch) hch (fun b o hL hb hc e n => u.keep b o e n (fun z => (List.mem_cons.mp (I.stkSub b z)).elim hL hb) hc) (fun b o _ _ hc e n => u.any e n hc) (fun b o hc e n => u.free b o e n hc) (fun b o hc e => u.there b o e hc) u.tups u.frzs u.tbls (fun m' hm => by
    obtain ⟨o', es', ep', ho', r'⟩ := hm
    rw [ho] at ho'; cases ho'
    exact ⟨_, es', ep', hL, r'⟩) hok hg
theorem Inv.turned {t' : Nat} {it : Addr} (I : Inv X pins σ H s) (k : ∀ b o, b ≠ it → s.heap.get? b = some o → h'.get? b = some o) (hn : H it = none) (hL : it ≠ X.env.locals)
    (h1 : it ∈ X.ex ∨ X.s_0.heap.objs.size ≤ it) (h2 : ∀ x c, X.env.cells.lookup x = some c → c ≠ it) (h3 : ∀ p ∈ X.pn ++ pins, p.1 ≠ it) : Inv X pins σ H { s with heap := h', toks := t' } := by
  have nit : ∀ b u, H b = some u → b ≠ it := fun b u e z => by rw [z, hn] at e; cases e
  refine I.step (g' := s.gens) (d' := s.drawn) (ch := [it]) (fun b hb => ?_) (fun b o _ _ hc e _ => k b o (fun z => hc (by simp [z])) e) (fun b o _ _ hc e _ => ⟨o.slots, k b o (fun z => hc (by simp [z])) e⟩) (fun _ _ _ _ n => n)
    (fun b o hc e => ⟨o, k b o (fun z => hc (by simp [z])) e⟩) (fun _ _ e => e) (fun _ _ _ e => e) (fun b ps e => ⟨#[], by rw [e]; simp⟩) (fun m hm => ?_) (fun b u e => ?_) I.bare
  · have e : b = it := by simpa using hb
    subst e
    exact ⟨h1, hL, h2, h3⟩
  · obtain ⟨o, es, ep, ho, r⟩ := hm
    exact ⟨o, es, ep, k _ o (Ne.symm hL) ho, r⟩
  · refine (I.hok b u e).stay (fun c v hc q => k c v ?_ q) (fun _ q => q) fun _ _ q => q
    rcases hc with z | z
    · rw [z]; exact nit b u e
    · exact nit c _ z
theorem Inv.tok (I : Inv X pins σ H s) (t : Nat) : Inv X pins σ H { s with toks := t } := I.un (h' := s.heap) (t' := t) Un.refl I.hok
theorem Inv.kept {t' : Nat} (I : Inv X pins σ H s) (k : ∀ b u, s.heap.get? b = some u → h'.get? b = some u) : Inv X pins σ H { s with heap := h', toks := t' } := I.un (Un.kept k) (I.hok.kept k)
theorem Inv.laid {a : Addr} {o : HO} {t' : Nat} (I : Inv X pins σ H s) (k : ∀ b u, s.heap.get? b = some u → h'.get? b = some u) (hp : s.heap.objs.size ≤ a) (new : ObjOk X.prog X.w (upd H a o) h' a o) :
    Inv X pins σ (upd H a o) { s with heap := h', toks := t' } := I.un (Un.laid k hp (I.hok.fresh hp)) (I.hok.laid k hp new)
theorem Inv.write {x e : Addr} {o : HO} {t' : Nat} (I : Inv X pins σ H s) (mu : Mut (H x)) (he : e = x ∨ H e = some (.own x)) (k : ∀ b u, b ≠ e → s.heap.get? b = some u → h'.get? b = some u) (heo : ∃ u, h'.get? e = some u)
    (new : ObjOk X.prog X.w (upd H x o) h' x o) : Inv X pins σ (upd H x o) { s with heap := h', toks := t' } := I.un (Un.write mu he k heo) (I.hok.write mu he k heo new)
theorem Inv.weak {σ' : List (Option V)} (I : Inv X pins σ H s) (hl : σ'.length = σ.length) (w : ∀ (i : Nat) v, σ'[i]? = some (some v) → σ[i]? = some (some v)) : Inv X pins σ' H s :=
  ⟨I.ok, I.os, I.bare, I.base, let ⟨m, hn, hl'⟩ := I.loc; ⟨m, hn, fun i x v e1 e2 e3 => hl' i x v e1 (w i v e2) e3⟩, I.cell, I.free, I.freeC, I.pin, I.hok, hl.trans I.len⟩
theorem Inv.pins_of {pins' : List (Addr × Obj)} (I : Inv X pins σ H s) (h : ∀ p ∈ pins', s.heap.get? p.1 = some p.2 ∧ H p.1 = none ∧ p.1 ≠ X.env.locals ∧ p.1 ∉ X.fs ∧ ∀ v, p.2.data ≠ .cell v) : Inv X pins' σ H s :=
  ⟨I.ok, I.os, I.bare, I.base, I.loc, I.cell, I.free, I.freeC, fun p hp => (List.mem_append.mp hp).elim (fun z => I.pin p (List.mem_append_left _ z)) (h p), I.hok, I.len⟩
theorem nodup_ix {N : List Str} (hN : N.Nodup) {i j : Nat} {x : Str} (a : N[i]? = some x) (b : N[j]? = some x) : i = j := by
  obtain ⟨h1, e1⟩ := List.getElem?_eq_some_iff.mp a
  obtain ⟨h2, e2⟩ := List.getElem?_eq_some_iff.mp b
  exact (List.getElem_inj hN).mp (e1.trans e2.symm)
theorem store_ok2 {M : Model} {A : Around} {E : Value → Shared → Prop} {i : Nat} {x : Str} {v : V} {u : Value} {Q : Unit → Shared → Prop} (I : Inv X pins σ H s) (hN : X.N.Nodup) (hi : X.N[i]? = some x) (hx : Loc X.env.scope x) (r : RelV v u)
    (h : ∀ s', Inv X pins (σ.set i (some v)) H s' → (∃ a, Heap.SameBut a s.heap s'.heap ∧ (a = X.env.locals ∨ X.env.cells.lookup x = some a)) → Q () s') (hf : X.fn x = true ∨ X.env.scope.names.lookup x = some .local := by first | exact .inl rfl | exact .inr rfl | assumption) : wpAny M A (storeName X.env x u) Q E s := by
  obtain ⟨m, hn, hl⟩ := id I.loc
  have hcls : (X.env.scope.kind == .class || (X.env.scope.kind == .module && X.env.locals != X.env.globals)) = false := by rw [I.ok.kind]; rfl
  have hiσ : i < σ.length := by rw [I.len]; exact (List.getElem?_eq_some_iff.mp hi).1
  have cne := I.cne
  have tracked : ∀ {a : Addr} {h' : Heap}, (∃ o, s.heap.get? a = some o ∧ H a = none) → Heap.SameBut a s.heap h' → HOk X.prog X.w H h' := fun {a h'} ha hs b ob e => by
    obtain ⟨_, _, hfree⟩ := ha
    refine (I.hok b ob e).stay (fun c w' hc q => (hs.2 c ?_).trans q) (fun _ q => q) fun _ _ q => q
    rintro rfl
    rcases hc with rfl | hc
    · rw [hfree] at e; cases e
    · rw [hfree] at hc; cases hc
  rcases hx with hk | hk
  · refine wpAny_storeName_local hk hn (fun h' hn' hs => ?_) hcls
    obtain ⟨oL, _, _, hoL, _⟩ := id hn
    refine h _ ⟨I.ok, I.os, I.bare, ⟨fun b o e n hb hx => ?_, fun b o e n hb hx => ?_, I.base.free, fun b o e hx => ?_, I.base.tups, I.base.frzs, I.base.tbls⟩, ⟨_, hn', fun j y v' e1 e2 e3 => ?_⟩, fun y c e => ?_, I.free, I.freeC, fun p hp => ?_, tracked ⟨oL, hoL, I.free⟩ hs, by simpa using I.len⟩ ⟨_, hs, .inl rfl⟩
    · exact (hs.2 b (Nat.ne_of_lt (Nat.lt_of_lt_of_le (Heap.lt_size e) I.ok.above))).trans (I.base.keep b o e n hb hx)
    · obtain ⟨sl, e1⟩ := I.base.slot b o e n hb hx
      exact ⟨sl, (hs.2 b (Nat.ne_of_lt (Nat.lt_of_lt_of_le (Heap.lt_size e) I.ok.above))).trans e1⟩
    · obtain ⟨o', e1⟩ := I.base.there b o e hx
      exact ⟨o', (hs.2 b (Nat.ne_of_lt (Nat.lt_of_lt_of_le (Heap.lt_size e) I.ok.above))).trans e1⟩
    · by_cases hj : j = i
      · subst hj
        rw [hi] at e1; cases e1
        rw [List.getElem?_set_self hiσ] at e2
        cases e2
        exact ⟨u, r, .inl ⟨hk, by simp⟩⟩
      · rw [List.getElem?_set_ne (Ne.symm hj)] at e2
        obtain ⟨u', r', q⟩ := hl j y v' e1 e2 e3
        refine ⟨u', r', ?_⟩
        rcases q with ⟨k, e⟩ | ⟨k, c, e, z⟩
        · refine .inl ⟨k, ?_⟩
          have : y ≠ x := fun e => hj (nodup_ix hN e1 (e ▸ hi))
          simp [this, e]
        · exact .inr ⟨k, c, e, z.sameBut hs (cne y c e)⟩
    · obtain ⟨w', z⟩ := I.cell y c e
      exact ⟨w', z.sameBut hs (cne y c e)⟩
    · obtain ⟨e, n, ne, nf, d⟩ := I.pin p hp
      exact ⟨(hs.2 p.1 ne).trans e, n, ne, nf, d⟩
  · have hfn : X.fn x = true := by
      rcases hf with z | z
      · exact z
      · rw [z] at hk; cases hk
    obtain ⟨c, hc⟩ := I.ok.has x (.inl hk)
    obtain ⟨w', z⟩ := I.cell x c hc
    refine wpAny_storeName_cell I.ok.kind hk hc z (fun h' hc' hs => ?_)
    obtain ⟨oc, hoc, hocd⟩ := id z
    refine h { s with heap := h' } ⟨I.ok, I.os, I.bare, ⟨fun b o e n hb hx => ?_, fun b o e n hb hx => ?_, I.base.free, fun b o e hx => ?_, I.base.tups, I.base.frzs, I.base.tbls⟩, ⟨m, hn.sameBut hs (Ne.symm (cne x c hc)), fun j y v' e1 e2 e3 => ?_⟩, fun y c' e => ?_, I.free, I.freeC, fun p hp => ?_, tracked ⟨oc, hoc, I.freeC x c hc⟩ hs, by simpa using I.len⟩ ⟨c, hs, .inr hc⟩
    · exact (hs.2 b (Nat.ne_of_lt (Nat.lt_of_lt_of_le (Heap.lt_size e) (I.ok.cab x c hfn hc)))).trans (I.base.keep b o e n hb hx)
    · obtain ⟨sl, e1⟩ := I.base.slot b o e n hb hx
      exact ⟨sl, (hs.2 b (Nat.ne_of_lt (Nat.lt_of_lt_of_le (Heap.lt_size e) (I.ok.cab x c hfn hc)))).trans e1⟩
    · obtain ⟨o', e1⟩ := I.base.there b o e hx
      exact ⟨o', (hs.2 b (Nat.ne_of_lt (Nat.lt_of_lt_of_le (Heap.lt_size e) (I.ok.cab x c hfn hc)))).trans e1⟩
    · by_cases hj : j = i
      · subst hj
        rw [hi] at e1; cases e1
        rw [List.getElem?_set_self hiσ] at e2
        cases e2
        exact ⟨u, r, .inr ⟨.inl hk, c, hc, hc'⟩⟩
      · rw [List.getElem?_set_ne (Ne.symm hj)] at e2
        obtain ⟨u', r', q⟩ := hl j y v' e1 e2 e3
        refine ⟨u', r', ?_⟩
        rcases q with q | ⟨k, c', e, z'⟩
        · exact .inl q
        · refine .inr ⟨k, c', e, z'.sameBut hs ?_⟩
          rintro rfl
          exact hj (nodup_ix hN e1 (I.ok.inj _ _ _ e hc ▸ hi))
    · by_cases hcc : c' = c
      · subst hcc; exact ⟨_, hc'⟩
      · obtain ⟨w2, z2⟩ := I.cell y c' e
        exact ⟨w2, z2.sameBut hs hcc⟩
    · obtain ⟨e, n, ne, nf, d⟩ := I.pin p hp
      refine ⟨(hs.2 p.1 ?_).trans e, n, ne, nf, d⟩
      intro q
      rw [q, hoc] at e
      have q' : oc = p.2 := Option.some.inj e
      exact d w' (by rw [← q']; exact hocd)
theorem store_ok {M : Model} {A : Around} {E : Value → Shared → Prop} {i : Nat} {x : Str} {v : V} {u : Value} {Q : Unit → Shared → Prop} (I : Inv X pins σ H s) (hN : X.N.Nodup) (hi : X.N[i]? = some x) (hx : Loc X.env.scope x) (r : RelV v u)
    (h : ∀ s', Inv X pins (σ.set i (some v)) H s' → Q () s') (hf : X.fn x = true ∨ X.env.scope.names.lookup x = some .local := by first | exact .inl rfl | exact .inr rfl | assumption) : wpAny M A (storeName X.env x u) Q E s :=
  store_ok2 I hN hi hx r (fun s' I' _ => h s' I') hf
theorem Inv.call' {s' : Shared} {ch : List Addr} (I : Inv X pins σ H s) (ho : s'.os = s.os) (u : Un (frs X.stack) ch H H' s.heap s'.heap) (hok : HOk X.prog X.w H' s'.heap) (hg : AllBare s'.gens)
    (hch : ∀ b ∈ ch, (b ∈ X.ex ∨ X.s_0.heap.objs.size ≤ b) ∧ b ≠ X.env.locals ∧ (∀ x c, X.env.cells.lookup x = some c → c ≠ b) ∧ ∀ p ∈ X.pn ++ pins, p.1 ≠ b) : Inv X pins σ H' s' := by
  obtain ⟨h', g', d', t', o'⟩ := s'
  have e : o' = s.os := ho
  subst e
  exact I.call (g' := g') (t' := t') (d' := d') u hok hg hch
end
abbrev XK := Value → Option Addr → Hp → Prop
abbrev St := List (Option V)
abbrev VK := V → Hp → Prop
abbrev TE := St → Hp → VK → Prop
abbrev TT := St → Hp → (Bool → Hp → Prop) → Prop
abbrev TA := St → Hp → (List V → Hp → Prop) → Prop
structure Ends where
  nx : St → Hp → Prop
  rt : VK
  bk : St → Hp → Prop := fun _ _ => False
  ct : St → Hp → Prop := fun _ _ => False
abbrev TS := Ends → St → Hp → Prop
def EP (X : Cx) (pins : List (Addr × Obj)) (σ : St) (Q : VK) (u : Value) (s' : Shared) : Prop := ∃ v H', Inv X pins σ H' s' ∧ RelV v u ∧ Q v H'
def TP (X : Cx) (pins : List (Addr × Obj)) (σ : St) (Q : Bool → Hp → Prop) (b : Bool) (s' : Shared) : Prop := ∃ H', Inv X pins σ H' s' ∧ Q b H'
def AP (X : Cx) (pins : List (Addr × Obj)) (σ : St) (Q : List V → Hp → Prop) (us : List Value) (s' : Shared) : Prop := ∃ vs H', Inv X pins σ H' s' ∧ Vals vs us ∧ Q vs H'
def SP (X : Cx) (pins : List (Addr × Obj)) (D : Ends) (f : Flow) (s' : Shared) : Prop :=
  match f with
  | .next => ∃ σ' H', Inv X pins σ' H' s' ∧ D.nx σ' H'
  | .brk => ∃ σ' H', Inv X pins σ' H' s' ∧ D.bk σ' H'
  | .cont => ∃ σ' H', Inv X pins σ' H' s' ∧ D.ct σ' H'
  | .ret u => ∃ v σ' H', Inv X pins σ' H' s' ∧ RelV v u ∧ D.rt v H'
def PE (X : Cx) (e : Expr) (t : TE) : Prop :=
  ∀ (pins : List (Addr × Obj)) (s : Shared) (σ : St) (H : Hp) (Q : VK), Inv X pins σ H s → t σ H Q → wpAny (model X.prog X.w) X.A (eval e X.env) (EP X pins σ Q) X.xe s
def PT (X : Cx) (e : Expr) (t : TT) : Prop :=
  ∀ (pins : List (Addr × Obj)) (s : Shared) (σ : St) (H : Hp) (Q : Bool → Hp → Prop), Inv X pins σ H s → t σ H Q → wpAny (model X.prog X.w) X.A (isTrue e X.env (eval e X.env)) (TP X pins σ Q) X.xe s
def PW (X : Cx) (e : Expr) (t : TT) : Prop :=
  ∀ (whole : Sem Value) (pins : List (Addr × Obj)) (s : Shared) (σ : St) (H : Hp) (Q : Bool → Hp → Prop), Inv X pins σ H s → t σ H Q → wpAny (model X.prog X.w) X.A (isTrue e X.env whole) (TP X pins σ Q) X.xe s
theorem PW.pt {X : Cx} {e : Expr} {t : TT} (h : PW X e t) : PT X e t := h _
def PA (X : Cx) (es : List Expr) (t : TA) : Prop :=
  ∀ (pos : Pos) (pins : List (Addr × Obj)) (s : Shared) (σ : St) (H : Hp) (Q : List V → Hp → Prop), Inv X pins σ H s → t σ H Q → wpAny (model X.prog X.w) X.A (spliced (backTo pos (starEach es X.env))) (AP X pins σ Q) X.xe s
def PS (X : Cx) (st : Stmt) (t : TS) : Prop :=
  ∀ (pins : List (Addr × Obj)) (s : Shared) (σ : St) (H : Hp) (D : Ends), Inv X pins σ H s → t D σ H → wpAny (model X.prog X.w) X.A (exec st X.env) (SP X pins D) X.xe s
def PSs (X : Cx) (st : List Stmt) (t : TS) : Prop :=
  ∀ (pins : List (Addr × Obj)) (s : Shared) (σ : St) (H : Hp) (D : Ends), Inv X pins σ H s → t D σ H → wpAny (model X.prog X.w) X.A (execs st X.env) (SP X pins D) X.xe s
theorem thn {α : Type} {t : Sem α} {Q Q' : α → Shared → Prop} {M : Model} {A : Around} {E : Value → Shared → Prop} {s : Shared} (h : wpAny M A t Q E s) (hQ : ∀ a s, Q a s → Q' a s) : wpAny M A t Q' E s := wpAny_mono h hQ fun _ _ x => x
end L2
namespace L2
open PySem PySem.Spec PyProof.Rows
section
variable {X : Cx}
def tVar (i : Nat) : TE := fun σ H Q => ∃ v, σ[i]? = some (some v) ∧ Q v H
def tC (v : V) : TE := fun _ H Q => Q v H
theorem pe_var {i : Nat} {x : Str} {pos : Pos} (hN : X.N[i]? = some x) (hv : Vis X.env.scope x) (hd : (x == ("__debug__" : Str)) = false := by decide) (hcd : (x == ("__classdict__" : Str)) = false := by decide) : PE X (.Name x pos) (tVar i) := by
  intro pins s σ H Q I h
  obtain ⟨v, e, h⟩ := h
  obtain ⟨m, hn, hl⟩ := I.loc
  obtain ⟨u, r, l⟩ := hl i x v hN e hv
  have fin : EP X pins σ Q u s := ⟨v, H, I, r, h⟩
  rcases l with ⟨hk, hm⟩ | ⟨hk, c, hc, hcell⟩
  · exact wpAny_Name (wpAny_loadName_local I.ok.kind hk hn hm fin) hd
  · rcases hk with hk | hk
    · exact wpAny_Name (wpAny_loadName_cell I.ok.kind hk hc hcell fin) hd
    · exact wpAny_Name (wpAny_loadName_free I.ok.kind hk hc hcell fin hcd) hd
theorem pe_int {i j pos} : PE X (.Constant (.int i) j pos) (tC (.int i)) := fun _ _ _ H _ I h => wpAny_Constant_int ⟨.int i, H, I.tok _, ⟨_, rfl⟩, h⟩
theorem pe_bl {b j pos} : PE X (.Constant (.bool b) j pos) (tC (.bl b)) := fun _ _ _ H _ I h => Constant_bool ⟨.bl b, H, I, rfl, h⟩
theorem pe_non {j pos} : PE X (.Constant .none j pos) (tC .non) := fun _ _ _ H _ I h => Constant_none ⟨.non, H, I, rfl, h⟩
def Gl (X : Cx) (x : Str) : Prop := X.env.kindOf x = some .globalImplicit
theorem ld_glob {E : Value → Shared → Prop} {pins : List (Addr × Obj)} {s : Shared} {σ : St} {H : Hp} {x : Str} {u : Value} {pos : Pos} {Q : Value → Shared → Prop} (I : Inv X pins σ H s) (hg : Gl X x) (hm : X.mg x = some u) (h : Q u s)
    (hd : (x == ("__debug__" : Str)) = false := by decide) : wpAny (model X.prog X.w) X.A (eval (.Name x pos) X.env) Q E s :=
  Calls.Name_function_global I.ok.kind hg (Calls.loadGlobal_global (by rw [I.ok.glob]; exact I.mod.glob.keeps I.bk) hm h) hd
theorem ld_blt {E : Value → Shared → Prop} {pins : List (Addr × Obj)} {s : Shared} {σ : St} {H : Hp} {x : Str} {u : Value} {pos : Pos} {Q : Value → Shared → Prop} (I : Inv X pins σ H s) (hg : Gl X x) (hm : X.mg x = none) (hv : bootBuiltins x = some u) (h : Q u s)
    (hn : x ≠ "__name__" := by decide) (hd : (x == ("__debug__" : Str)) = false := by decide) : wpAny (model X.prog X.w) X.A (eval (.Name x pos) X.env) Q E s := by
  obtain ⟨mb, h1, h2⟩ := I.mod.blt
  exact Calls.Name_function_global I.ok.kind hg (Calls.loadGlobal_builtin (by rw [I.ok.glob]; exact I.mod.glob.keeps I.bk) hm (by rw [I.ok.blt]; exact h1.keeps I.bk) ((h2 x hn).trans hv) h) hd
theorem pe_glob {x : Str} {v : V} {u : Value} {pos : Pos} (hg : Gl X x) (hm : X.mg x = some u) (r : RelV v u) (hd : (x == ("__debug__" : Str)) = false := by decide) : PE X (.Name x pos) (tC v) :=
  fun _ _ _ H _ I h => ld_glob I hg hm ⟨v, H, I, r, h⟩ hd
variable {a b : Expr} {ta tb : TE} {pos : Pos}
def tB (t : TE) : TT := fun σ H Q => t σ H fun x H1 => ∃ c, x = .bl c ∧ Q c H1
theorem pt_val {e : Expr} {t : TE} (h : PE X e t) (he : ∀ whole, isTrue e X.env whole = (do let v ← whole; standAt e.pos; holding [v] (truthy v)) := by intro _; rfl) : PT X e (tB t) := by
  intro pins s σ H Q I hw
  refine isTrue_plain (thn (h pins s σ H _ I hw) fun v s1 ⟨x, H1, I1, r1, q1⟩ => ?_) (he _)
  obtain ⟨d, rfl, q⟩ := q1
  cases r1
  exact wpAny_truthy_bool ⟨H1, I1, q⟩
variable {tA tB' : TT} {rest : List Expr}
def tAnd (t u : TT) : TT := fun σ H Q => t σ H fun c H1 => if c = true then u σ H1 Q else Q false H1
def tOr (t u : TT) : TT := fun σ H Q => t σ H fun c H1 => if c = true then Q true H1 else u σ H1 Q
def tNot (t : TT) : TT := fun σ H Q => t σ H fun c H1 => Q (!c) H1
theorem pw_and1 (ha : PT X a tA) : PW X (.BoolOp .And [a] pos) tA := by
  intro wh pins s σ H Q I h
  refine isTrue_and (thn (ha pins s σ H Q I h) fun c s1 e => ?_)
  cases c with
  | true => exact isTrue_and_nil e
  | false => exact e
theorem pw_or1 (ha : PT X a tA) : PW X (.BoolOp .Or [a] pos) tA := by
  intro wh pins s σ H Q I h
  refine isTrue_or (thn (ha pins s σ H Q I h) fun c s1 e => ?_)
  cases c with
  | false => exact isTrue_or_nil e
  | true => exact e
theorem pw_and (ha : PT X a tA) (hb : PW X (.BoolOp .And (b :: rest) pos) tB') : PW X (.BoolOp .And (a :: b :: rest) pos) (tAnd tA tB') := by
  intro wh pins s σ H Q I h
  refine isTrue_and (thn (ha pins s σ H _ I h) fun c s1 ⟨H1, I1, q1⟩ => ?_)
  cases c with
  | true => exact hb wh pins s1 σ H1 Q I1 q1
  | false => exact ⟨H1, I1, q1⟩
theorem pw_or (ha : PT X a tA) (hb : PW X (.BoolOp .Or (b :: rest) pos) tB') : PW X (.BoolOp .Or (a :: b :: rest) pos) (tOr tA tB') := by
  intro wh pins s σ H Q I h
  refine isTrue_or (thn (ha pins s σ H _ I h) fun c s1 ⟨H1, I1, q1⟩ => ?_)
  cases c with
  | true => exact ⟨H1, I1, q1⟩
  | false => exact hb wh pins s1 σ H1 Q I1 q1
theorem pt_not (ha : PT X a tA) : PT X (.UnaryOp .Not a pos) (tNot tA) := by
  intro pins s σ H Q I h
  exact isTrue_not (ha pins s σ H (fun c H1 => Q (!c) H1) I h)
def tAndV (ta tb : TE) : TE := fun σ H Q => ta σ H fun x H1 => ∃ c, x = .bl c ∧ if c = true then tb σ H1 Q else Q (.bl false) H1
def tOrV (ta tb : TE) : TE := fun σ H Q => ta σ H fun x H1 => ∃ c, x = .bl c ∧ if c = true then Q (.bl true) H1 else tb σ H1 Q
def tNotV (ta : TE) : TE := fun σ H Q => ta σ H fun x H1 => ∃ c, x = .bl c ∧ Q (.bl (!c)) H1
theorem pe_one {op} {t : TE} (h : PE X a t) : PE X (.BoolOp op [a] pos) t := fun pins s σ H Q I hw => BoolOp_one (h pins s σ H Q I hw)
theorem pe_and (ha : PE X a ta) (hb : PE X (.BoolOp .And (b :: rest) pos) tb) : PE X (.BoolOp .And (a :: b :: rest) pos) (tAndV ta tb) := by
  intro pins s σ H Q I h
  refine BoolOp_and (thn (ha pins s σ H _ I h) fun v s1 ⟨x, H1, I1, r1, q1⟩ => ?_)
  obtain ⟨c, rfl, q1⟩ := q1
  cases r1
  refine wpAny_truthy_bool ?_
  cases c with
  | true => exact hb pins s1 σ H1 Q I1 q1
  | false => exact ⟨.bl false, H1, I1, rfl, q1⟩
theorem pe_or (ha : PE X a ta) (hb : PE X (.BoolOp .Or (b :: rest) pos) tb) : PE X (.BoolOp .Or (a :: b :: rest) pos) (tOrV ta tb) := by
  intro pins s σ H Q I h
  refine BoolOp_or (thn (ha pins s σ H _ I h) fun v s1 ⟨x, H1, I1, r1, q1⟩ => ?_)
  obtain ⟨c, rfl, q1⟩ := q1
  cases r1
  refine wpAny_truthy_bool ?_
  cases c with
  | false => exact hb pins s1 σ H1 Q I1 q1
  | true => exact ⟨.bl true, H1, I1, rfl, q1⟩
theorem pe_not (ha : PE X a ta) : PE X (.UnaryOp .Not a pos) (tNotV ta) := by
  intro pins s σ H Q I h
  refine UnaryOp_ (thn (ha pins s σ H _ I h) fun v s1 ⟨x, H1, I1, r1, q1⟩ => ?_)
  obtain ⟨c, rfl, q1⟩ := q1
  cases r1
  exact not_of (wpAny_truthy_bool ⟨.bl (!c), H1, I1, rfl, q1⟩)
def tIf (t : TT) (ta tb : TE) : TE := fun σ H Q => t σ H fun c H1 => if c = true then ta σ H1 Q else tb σ H1 Q
theorem pe_ifExp {c : Expr} (hc : PT X c tA) (ha : PE X a ta) (hb : PE X b tb) : PE X (.IfExp c a b pos) (tIf tA ta tb) := by
  intro pins s σ H Q I h
  refine wpAny_IfExp (thn (hc pins s σ H _ I h) fun d s1 ⟨H1, I1, q1⟩ => ?_)
  cases d with
  | true => exact ha pins s1 σ H1 Q I1 q1
  | false => exact hb pins s1 σ H1 Q I1 q1
end
end L2
namespace L2
open PySem PySem.Spec PyProof.Rows
def SqL (K : PySem.W.Frag) (H : Hp) (a : Addr) (xs : List V) : Prop :=
  Rd H a (.lst xs) ∨
    ∃ (o : Obj) (its : Array Value) (n : Nat), K.lookup a = some o ∧ o.cls = .type "list" ∧ o.dict = none ∧ o.data = .seq its n ∧ its.size ≤ sizeLine ∧ Vals xs its.toList
def SqT (K : PySem.W.Frag) (H : Hp) (a : Addr) (xs : List V) : Prop :=
  Rd H a (.tup xs) ∨
    ∃ (o : Obj) (its : Array Value) (n : Nat), K.lookup a = some o ∧ o.cls = .type "tuple" ∧ o.data = .seq its n ∧ its.size ≤ sizeLine ∧ Vals xs its.toList
def absV : Value → Option V
  | .none => some .non
  | .bool b => some (.bl b)
  | .int i _ => some (.int i)
  | .str x _ => some (.str x)
  | .bytes b _ => some (.byt b)
  | .float b _ => some (.flt b)
  | .ref a => some (.ref a)
  | .type n => some (.ty n)
  | _ => none
theorem RelV.abs {x : V} {u : Value} (r : RelV x u) : absV u = some x := by
  cases x with
  | non => cases r; rfl
  | bl _ => cases r; rfl
  | int _ => obtain ⟨t, rfl⟩ := r; rfl
  | str _ => obtain ⟨t, rfl⟩ := r; rfl
  | byt _ => obtain ⟨t, rfl⟩ := r; rfl
  | flt _ => obtain ⟨t, rfl⟩ := r; rfl
  | ref _ => cases r; rfl
  | ty _ => cases r; rfl
theorem RelV.inj {x y : V} {u : Value} (r : RelV x u) (q : RelV y u) : x = y := Option.some.inj (r.abs.symm.trans q.abs)
theorem Vals.inj : ∀ {xs ys : List V} {us : List Value}, Vals xs us → Vals ys us → xs = ys
  | _, _, _, .nil, .nil => rfl
  | _, _, _, .cons r t, .cons r' t' => by rw [r.inj r', Vals.inj t t']
section
variable {X : Cx} {pins : List (Addr × Obj)} {σ : St} {H : Hp} {s : Shared} {a : Addr} {xs ys : List V}
theorem SqL.of {K : PySem.W.Frag} (h : H a = some (.lst xs)) : SqL K H a xs := .inl (.inl h)
theorem SqT.of {K : PySem.W.Frag} (h : H a = some (.tup xs)) : SqT K H a xs := .inl (.inl h)
theorem Inv.list (I : Inv X pins σ H s) (h : SqL X.K H a xs) : ∃ its : List Value, Vals xs its ∧ PlainL s.heap a its.toArray ∧ xs.length ≤ sizeLine := by
  rcases h with h | ⟨o, its, n, hk, hc, hd, hs, hz, r⟩
  · obtain ⟨z, its, n, r, e⟩ := h.ok I.hok
    exact ⟨its, r, ⟨_, n, e, rfl, rfl, rfl⟩, z⟩
  · refine ⟨its.toList, r, ⟨o, n, I.kIn a o hk, hc, hd, by simpa using hs⟩, ?_⟩
    have e := r.length
    simp only [Array.length_toList] at e
    omega
theorem Inv.tuple (I : Inv X pins σ H s) (h : SqT X.K H a xs) : ∃ its : List Value, Vals xs its ∧ IsTup s.heap a its.toArray ∧ xs.length ≤ sizeLine := by
  rcases h with h | ⟨o, its, n, hk, hc, hs, hz, r⟩
  · obtain ⟨z, its, r, p⟩ := h.ok I.hok
    exact ⟨its, r, p, z⟩
  · refine ⟨its.toList, r, ⟨o, I.kIn a o hk, hc, n, by simpa using hs⟩, ?_⟩
    have e := r.length
    simp only [Array.length_toList] at e
    omega
theorem Inv.list_inj (I : Inv X pins σ H s) (h : SqL X.K H a xs) (h' : SqL X.K H a ys) : xs = ys := by
  obtain ⟨its, r, ⟨o, n, e, _, _, d⟩, _⟩ := I.list h
  obtain ⟨its', r', ⟨o', n', e', _, _, d'⟩, _⟩ := I.list h'
  rw [e] at e'; cases e'
  rw [d] at d'
  injection d' with d1 _
  have : its = its' := by simpa using congrArg Array.toList d1
  subst this
  exact r.inj r'
theorem Inv.tuple_inj (I : Inv X pins σ H s) (h : SqT X.K H a xs) (h' : SqT X.K H a ys) : xs = ys := by
  obtain ⟨its, r, ⟨o, e, _, n, d⟩, _⟩ := I.tuple h
  obtain ⟨its', r', ⟨o', e', _, n', d'⟩, _⟩ := I.tuple h'
  rw [e] at e'; cases e'
  rw [d] at d'
  injection d' with d1 _
  have : its = its' := by simpa using congrArg Array.toList d1
  subst this
  exact r.inj r'
end
abbrev Cx.wish (X : Cx) (E : Value → Shared → Prop) : Cx := { X with xe := E }
abbrev Cx.nox (X : Cx) : Cx := X.wish fun _ _ => False
theorem Cx.Ok.wish {X : Cx} (ok : X.Ok) (E : Value → Shared → Prop) : (X.wish E).Ok :=
  ⟨ok.mod, ok.kind, ok.glob, ok.blt, ok.above, ok.inj, ok.has, ok.cab, ok.hd, ok.frames, ok.stk, ok.exf, ok.bs, ok.bsz, ok.noex, ok.exfs, ok.funs, ok.frf⟩
theorem Cx.Ok.unwish {X : Cx} {E : Value → Shared → Prop} (ok : (X.wish E).Ok) : X.Ok :=
  ⟨ok.mod, ok.kind, ok.glob, ok.blt, ok.above, ok.inj, ok.has, ok.cab, ok.hd, ok.frames, ok.stk, ok.exf, ok.bs, ok.bsz, ok.noex, ok.exfs, ok.funs, ok.frf⟩
section
variable {X : Cx} {pins : List (Addr × Obj)} {σ : St} {H : Hp} {s : Shared} {E : Value → Shared → Prop}
theorem Inv.wish (I : Inv X pins σ H s) (E : Value → Shared → Prop) : Inv (X.wish E) pins σ H s := ⟨I.ok.wish E, I.os, I.bare, I.base, I.loc, I.cell, I.free, I.freeC, I.pin, I.hok, I.len⟩
theorem Inv.unwish (I : Inv (X.wish E) pins σ H s) : Inv X pins σ H s := ⟨I.ok.unwish, I.os, I.bare, I.base, I.loc, I.cell, I.free, I.freeC, I.pin, I.hok, I.len⟩
theorem SP.unwish {D : Ends} {f : Flow} {s' : Shared} (h : SP (X.wish E) pins D f s') : SP X pins D f s' := by
  cases f with
  | next => obtain ⟨σ', H', I, q⟩ := h; exact ⟨σ', H', I.unwish, q⟩
  | brk => obtain ⟨σ', H', I, q⟩ := h; exact ⟨σ', H', I.unwish, q⟩
  | cont => obtain ⟨σ', H', I, q⟩ := h; exact ⟨σ', H', I.unwish, q⟩
  | ret u => obtain ⟨v, σ', H', I, r, q⟩ := h; exact ⟨v, σ', H', I.unwish, r, q⟩
theorem PSs.nox {st : List Stmt} {t : TS} (h : PSs X.nox st t) : PSs X st t := fun pins s σ H D I hw =>
  wpAny_mono (h pins s σ H D (I.wish _) hw) (fun _ _ q => q.unwish) fun _ _ z => False.elim z
end
section
variable {X : Cx} {st : Stmt} {rest : List Stmt} {t u : TS} {e : Expr} {te : TE} {pos : Pos}
def tNext : TS := fun D σ H => D.nx σ H
def tSeq (t u : TS) : TS := fun D σ H => t { D with nx := u D } σ H
theorem pss_nil : PSs X [] tNext := fun _ _ σ H _ I h => wpAny_execs_nil ⟨σ, H, I, h⟩
theorem pss_cons (h1 : PS X st t) (h2 : PSs X rest u) : PSs X (st :: rest) (tSeq t u) := by
  intro pins s σ H D I h
  refine wpAny_execs_cons (thn (h1 pins s σ H { D with nx := u D } I h) fun f s1 q => ?_)
  cases f with
  | next =>
    obtain ⟨σ', H', I', q⟩ := q
    exact h2 pins s1 σ' H' D I' q
  | ret v => exact q
  | brk => exact q
  | cont => exact q
theorem pss_one (h1 : PS X st t) : PSs X [st] t := by
  intro pins s σ H D I h
  refine wpAny_execs_cons (thn (h1 pins s σ H D I h) fun f s1 q => ?_)
  cases f with
  | next => exact wpAny_execs_nil q
  | ret v => exact q
  | brk => exact q
  | cont => exact q
theorem Inv.quiet {pins : List (Addr × Obj)} {σ : St} {H : Hp} {s : Shared} (I : Inv X pins σ H s) : interactive X.env = false := by simp [interactive, I.ok.kind]
def tDrop (te : TE) : TS := fun D σ H => te σ H fun _ H1 => D.nx σ H1
theorem ps_expr (he : PE X e te) (hs : swapsWith e none pos.line X.env = pure false := by rfl) : PS X (.Expr e pos) (tDrop te) := by
  intro pins s σ H D I h
  exact wpAny_Expr_any (thn (he pins s σ H _ I h) fun v s1 ⟨x, H1, I1, r1, q1⟩ => ⟨σ, H1, I1, q1⟩) I.quiet hs
def tRet (te : TE) : TS := fun D σ H => te σ H D.rt
theorem ps_ret (he : PE X e te) : PS X (.Return (some e) pos) (tRet te) := by
  intro pins s σ H D I h
  exact wpAny_Return_some (thn (he pins s σ H _ I h) fun v s1 ⟨x, H1, I1, r1, q1⟩ => ⟨x, σ, H1, I1, r1, q1⟩)
def tRetN : TS := fun D _ H => D.rt .non H
theorem ps_retN : PS X (.Return none pos) tRetN := fun _ _ σ H _ I h => wpAny_Return_none ⟨.non, σ, H, I, rfl, h⟩
def tIfS (c : TT) (t u : TS) : TS := fun D σ H => c σ H fun b H1 => if b = true then t D σ H1 else u D σ H1
theorem ps_if {c : Expr} {a b : List Stmt} {tc : TT} (hc : PT X c tc) (ha : PSs X a t) (hb : PSs X b u) : PS X (.If c a b pos) (tIfS tc t u) := by
  intro pins s σ H D I h
  refine wpAny_If (thn (hc pins s σ H _ I h) fun d s1 ⟨H1, I1, q1⟩ => ?_)
  cases d with
  | true => exact ha pins s1 σ H1 D I1 q1
  | false => exact hb pins s1 σ H1 D I1 q1
end
abbrev TG := V → St → Hp → (St → Hp → Prop) → Prop
def PG (X : Cx) (target : Expr) (t : TG) : Prop :=
  ∀ (pins : List (Addr × Obj)) (s : Shared) (σ : St) (H : Hp) (v : V) (u : Value) (Q : St → Hp → Prop), Inv X pins σ H s → RelV v u → t v σ H Q →
    wpAny (model X.prog X.w) X.A (assign target X.env u) (fun _ s' => ∃ σ' H', Inv X pins σ' H' s' ∧ Q σ' H') X.xe s
abbrev TSet := V → V → V → Hp → (Hp → Prop) → Prop
def PSet (X : Cx) (t : TSet) : Prop :=
  ∀ (pins : List (Addr × Obj)) (s : Shared) (σ : St) (H : Hp) (o i v : V) (ov iv u : Value) (Q : Hp → Prop), Inv X pins σ H s → RelV o ov → RelV i iv → RelV v u → t o i v H Q →
    wpAny (model X.prog X.w) X.A (setItem ov iv u) (fun _ s' => ∃ H', Inv X pins σ H' s' ∧ Q H') X.xe s
abbrev TIp := V → V → Hp → VK → Prop
def PIp (X : Cx) (op : Operator) (t : TIp) : Prop :=
  ∀ (pins : List (Addr × Obj)) (s : Shared) (σ : St) (H : Hp) (x y : V) (v u : Value) (Q : VK), Inv X pins σ H s → RelV x v → RelV y u → t x y H Q →
    wpAny (model X.prog X.w) X.A (inplaceOp op v u) (EP X pins σ Q) X.xe s
section
variable {X : Cx} {pos : Pos}
def gName (i : Nat) : TG := fun v σ H Q => Q (σ.set i (some v)) H
theorem pg_name {i : Nat} {x : Str} (hN : X.N.Nodup) (hi : X.N[i]? = some x) (hx : Loc X.env.scope x) (hf : X.fn x = true ∨ X.env.scope.names.lookup x = some .local := by first | exact .inl rfl | exact .inr rfl | assumption) : PG X (.Name x pos) (gName i) := by
  intro pins s σ H v u Q I r h
  exact wpAny_assign_Name (store_ok I hN hi hx r (fun s' I' => ⟨_, H, I', h⟩) hf)
def gSub (to ti : TE) (t : TSet) : TG := fun v σ H Q => to σ H fun o H1 => ti σ H1 fun i H2 => t o i v H2 fun H3 => Q σ H3
theorem pg_sub {o i : Expr} {to ti : TE} {t : TSet} (ho : PE X o to) (hi : PE X i ti) (hs : PSet X t)
    (ha : ∀ v, assign (.Subscript o i pos) X.env v = (do
      let ov ← holding [v] (eval o X.env)
      let iv ← holding [v, ov] (eval i X.env)
      standAt pos
      holding [v, ov, iv] (setItem ov iv v)
      release [v, ov, iv] []) := by intro _; rfl) : PG X (.Subscript o i pos) (gSub to ti t) := by
  intro pins s σ H v u Q I r h
  rw [ha]
  refine wpAny_bind (wpAny_holding (thn (ho pins s σ H _ I h) fun ov s1 ⟨x, H1, I1, r1, q1⟩ => ?_))
  refine wpAny_bind (wpAny_holding (thn (hi pins s1 σ H1 _ I1 q1) fun iv s2 ⟨y, H2, I2, r2, q2⟩ => ?_))
  refine wpAny_bind (wpAny_standAt (wpAny_bind (wpAny_holding (thn (hs pins s2 σ H2 x y v ov iv u _ I2 r1 r2 r q2) fun _ s3 ⟨H3, I3, q3⟩ => ?_))))
  exact wpAny_release ⟨σ, H3, I3, q3⟩
def tAsg (te : TE) (g : TG) : TS := fun D σ H => te σ H fun x H1 => g x σ H1 D.nx
theorem ps_asg {tg e : Expr} {te : TE} {g : TG} (he : PE X e te) (hg : PG X tg g) (hs : swapsWithSole [tg] e pos.line X.env = pure false := by rfl) (hw : swappedStores [tg] e X.env = pure none := by rfl)
    (h1 : (assignEach [tg] X.env).map (·.2) = [assign tg X.env] := by rfl) : PS X (.Assign [tg] e pos) (tAsg te g) := by
  intro pins s σ H D I h
  refine wpAny_Assign_stores (thn (he pins s σ H _ I h) fun v s1 ⟨x, H1, I1, r1, q1⟩ => ?_) hs hw
  rw [h1]
  exact thn (hg pins s1 σ H1 x v _ I1 r1 q1) fun _ s2 q => q
theorem ps_set {i : Nat} {x : Str} {e : Expr} {te : TE} {pos' : Pos} (hN : X.N.Nodup) (hi : X.N[i]? = some x) (hx : Loc X.env.scope x) (he : PE X e te) (hs : swapsWith e (some (.Name x pos')) pos.line X.env = pure false := by rfl) (hf : X.fn x = true ∨ X.env.scope.names.lookup x = some .local := by first | exact .inl rfl | exact .inr rfl | assumption) :
    PS X (.Assign [.Name x pos'] e pos) (tAsg te (gName i)) := by
  intro pins s σ H D I h
  refine wpAny_Assign_Name (thn (he pins s σ H _ I h) fun v s1 ⟨y, H1, I1, r1, q1⟩ => ?_) hs
  exact store_ok I1 hN hi hx r1 (fun s2 I2 => ⟨_, H1, I2, q1⟩) hf
def tAugS (to ti te : TE) (tget : V → V → Hp → VK → Prop) (tip : TIp) (tset : TSet) : TS := fun D σ H => to σ H fun o H1 => ti σ H1 fun i H2 => tget o i H2 fun x H3 => te σ H3 fun y H4 => tip x y H4 fun z H5 => tset o i z H5 fun H6 => D.nx σ H6
def PGet (X : Cx) (t : V → V → Hp → VK → Prop) : Prop :=
  ∀ (pins : List (Addr × Obj)) (s : Shared) (σ : St) (H : Hp) (o i : V) (ov iv : Value) (Q : VK), Inv X pins σ H s → RelV o ov → RelV i iv → t o i H Q →
    wpAny (model X.prog X.w) X.A (getItem ov iv) (EP X pins σ Q) X.xe s
theorem ps_augS {o i e : Expr} {to ti te : TE} {tget : V → V → Hp → VK → Prop} {tip : TIp} {tset : TSet} {op : Operator} {tpos : Pos} (ho : PE X o to) (hi : PE X i ti) (hg : PGet X tget) (he : PE X e te) (hp : PIp X op tip) (hs : PSet X tset)
    (ha : ∀ ov iv new, augStore i ov iv new = (do holding [new, ov, iv] (setItem ov iv new); release [new, ov, iv] []; pure .next) := by intros; rfl) : PS X (.AugAssign (.Subscript o i tpos) op e pos) (tAugS to ti te tget tip tset) := by
  intro pins s σ H D I h
  refine wpAny_AugAssign_SubscriptAny (thn (ho pins s σ H _ I h) fun ov s1 ⟨x1, H1, I1, r1, q1⟩ => ?_) ha
  refine thn (hi pins s1 σ H1 _ I1 q1) fun iv s2 ⟨x2, H2, I2, r2, q2⟩ => ?_
  refine thn (hg pins s2 σ H2 x1 x2 ov iv _ I2 r1 r2 q2) fun old s3 ⟨x3, H3, I3, r3, q3⟩ => ?_
  refine thn (he pins s3 σ H3 _ I3 q3) fun v s4 ⟨x4, H4, I4, r4, q4⟩ => ?_
  refine thn (hp pins s4 σ H4 x3 x4 old v _ I4 r3 r4 q4) fun new s5 ⟨x5, H5, I5, r5, q5⟩ => ?_
  exact thn (hs pins s5 σ H5 x1 x2 x5 ov iv new _ I5 r1 r2 r5 q5) fun _ s6 ⟨H6, I6, q6⟩ => ⟨σ, H6, I6, q6⟩
def ipI (f : Int → Int → Int) : TIp := fun x y H Q => ∃ i j, x = .int i ∧ y = .int j ∧ Q (.int (f i j)) H
theorem ip_add : PIp X .Add (ipI fun i j => i + j) := by
  intro pins s σ H x y v u Q I r1 r2 h
  obtain ⟨i, j, e1, e2, q⟩ := h
  subst e1; subst e2
  obtain ⟨t, rfl⟩ := r1
  obtain ⟨t', rfl⟩ := r2
  exact iadd_int ⟨.int _, H, I.tok _, ⟨_, rfl⟩, q⟩
theorem ip_sub : PIp X .Sub (ipI fun i j => i - j) := by
  intro pins s σ H x y v u Q I r1 r2 h
  obtain ⟨i, j, e1, e2, q⟩ := h
  subst e1; subst e2
  obtain ⟨t, rfl⟩ := r1
  obtain ⟨t', rfl⟩ := r2
  exact isub_int ⟨.int _, H, I.tok _, ⟨_, rfl⟩, q⟩
end
section
variable {X : Cx} {pos : Pos}
def tWhile (c : TT) (tb : TS) : TS := fun D σ H => ∃ W : Nat → St → Hp → Prop, (∃ m, W m σ H) ∧ ∀ m σ H, W m σ H →
  c σ H fun b H1 => if b = true then ∃ N : St → Hp → Prop, (∀ σ' H', N σ' H' → ∃ m', m' < m ∧ W m' σ' H') ∧ tb { D with nx := N, ct := N, bk := D.nx } σ H1 else D.nx σ H1
theorem ps_while {c : Expr} {body : List Stmt} {tc : TT} {tb : TS} (hp : PassesOwn (model X.prog X.w) X.A X.env X.xe) (hc : PT X c tc) (hb : PSs X body tb) : PS X (.While c body [] pos) (tWhile tc tb) := by
  intro pins s σ H D I h
  obtain ⟨W, ⟨m0, w0⟩, turn⟩ := h
  refine wpAny_While (codeAny_whileLoop (fun n s' => ∃ σ' H', Inv X pins σ' H' s' ∧ W n σ' H') ?_ m0 ⟨σ, H, I, w0⟩)
  rintro n s1 ⟨σ1, H1, I1, w1⟩
  refine wpAny_passesOwn hp (thn (hc pins s1 σ1 H1 _ I1 (turn n σ1 H1 w1)) fun b s2 ⟨H2, I2, q2⟩ => ?_)
  cases b with
  | true =>
    obtain ⟨N, hN, q2⟩ := q2
    rw [if_pos rfl]
    refine wpAny_passesOwn hp (thn (hb pins s2 σ1 H2 _ I2 q2) fun f s3 q3 => ?_)
    cases f with
    | next =>
      obtain ⟨σ3, H3, I3, n3⟩ := q3
      obtain ⟨m', hm, w3⟩ := hN σ3 H3 n3
      exact ⟨m', hm, σ3, H3, I3, w3⟩
    | cont =>
      obtain ⟨σ3, H3, I3, n3⟩ := q3
      obtain ⟨m', hm, w3⟩ := hN σ3 H3 n3
      exact ⟨m', hm, σ3, H3, I3, w3⟩
    | brk => exact q3
    | ret v => exact q3
  | false =>
    rw [if_neg Bool.false_ne_true]
    exact wpAny_execs_nil ⟨σ1, H2, I2, q2⟩
end
structure It where
  go : Nat → Hp → Prop
  yld : Nat → Hp → V → Hp → Prop
  stop : Nat → Hp → Prop
def FpOk (X : Cx) (pins : List (Addr × Obj)) (H : Hp) (b : Addr) : Prop :=
  H b = none ∧ b ≠ X.env.locals ∧ b ∉ X.fs ∧ (b ∈ X.ex ∨ X.s_0.heap.objs.size ≤ b) ∧ (∀ x c, X.env.cells.lookup x = some c → c ≠ b) ∧ ∀ p ∈ X.pn ++ pins, p.1 ≠ b
theorem Inv.fpOk {X : Cx} {pins : List (Addr × Obj)} {σ : St} {H H' : Hp} {s : Shared} {b : Addr} (I : Inv X pins σ H s) (hb : s.heap.objs.size ≤ b) (hn : H' b = none) : FpOk X pins H' b := by
  refine ⟨hn, Nat.ne_of_gt (Nat.lt_of_lt_of_le I.lt hb), I.nofs hb, .inr (Nat.le_trans I.sz hb), fun x c e z => ?_, fun p hp z => ?_⟩
  · obtain ⟨v, q⟩ := I.cell x c e
    exact absurd (Nat.lt_of_lt_of_le q.lt (by rw [z]; exact hb)) (Nat.lt_irrefl _)
  · exact absurd (Nat.lt_of_lt_of_le (Heap.lt_size (I.pin p hp).1) (by rw [z]; exact hb)) (Nat.lt_irrefl _)
structure Turn (P : Program) (w : World) (K : PySem.W.Frag) (tg : Expr) (J : It) (fp : List Addr) (it : Addr) (tn : Nat → Heap → Prop) : Prop where
  mem : it ∈ fp
  obj : ∀ i h, tn i h → ∀ b ∈ fp, ∃ o, h.get? b = some o ∧ ∀ v, o.data ≠ .cell v
  keep : ∀ i h h', tn i h → (∀ b ∈ fp, ∀ o, h.get? b = some o → h'.get? b = some o) → tn i h'
  item : ∀ (X : Cx), X.prog = P → X.w = w → X.K = K → X.calm = true → ∀ (i : Nat) (pins : List (Addr × Obj)) (s : Shared) (σ : St) (H : Hp) (E : Value → Shared → Prop), Inv X pins σ H s → (∀ b ∈ fp, FpOk X pins H b) → tn i s.heap → J.go i H →
    wpAny (model P w) X.A (pyNext (.ref it)) (fun r s1 => ∃ u, r = some u ∧
      wpAny (model P w) X.A (letOwnedTupleGo tg (.ref it) u) (fun _ s2 => ∃ x H', Inv X pins σ H' s2 ∧ RelV x u ∧ J.yld i H x H' ∧ tn (i + 1) s2.heap ∧ ∀ b ∈ fp, H' b = none) E s1) E s
  done : ∀ (X : Cx), X.prog = P → X.w = w → X.K = K → X.calm = true → ∀ (i : Nat) (pins : List (Addr × Obj)) (s : Shared) (σ : St) (H : Hp) (E : Value → Shared → Prop), Inv X pins σ H s → (∀ b ∈ fp, FpOk X pins H b) → tn i s.heap → J.stop i H →
    wpAny (model P w) X.A (pyNext (.ref it)) (fun r s1 => r = none ∧ Inv X pins σ H s1) E s
  self : ∀ (A : Around) (i : Nat) (s : Shared) (Q : Value → Shared → Prop) (E : Value → Shared → Prop), tn i s.heap → Q (.ref it) s → wpAny (model P w) A (pyIter (.ref it)) Q E s
abbrev TI := St → Hp → (It → Hp → Prop) → Prop
def PIE (X : Cx) (pins : List (Addr × Obj)) (σ : St) (tg : Expr) (R : It → Hp → Prop) (itv : Value) (s2 : Shared) : Prop :=
  ∃ (it : Addr) (fp : List Addr) (tn : Nat → Heap → Prop) (J : It) (H' : Hp), itv = .ref it ∧ Inv X pins σ H' s2 ∧ Turn X.prog X.w X.K tg J fp it tn ∧ tn 0 s2.heap ∧ (∀ b ∈ fp, FpOk X pins H' b) ∧ R J H'
def PI (X : Cx) (tg iter : Expr) (wi : TI) : Prop :=
  ∀ (pins : List (Addr × Obj)) (s : Shared) (σ : St) (H : Hp) (R : It → Hp → Prop), Inv X pins σ H s → wi σ H R →
    wpAny (model X.prog X.w) X.A (eval iter X.env) (fun v s1 => wpAny (model X.prog X.w) X.A (pyIter v) (PIE X pins σ tg R) X.xe s1) X.xe s
theorem go_of {M : Model} {A : Around} {E : Value → Shared → Prop} {s : Shared} {tg : Expr} {it : Addr} {u : Value} {o : Obj} {n : String} {vs : Array Value} {Q : Unit → Shared → Prop} (ho : s.heap.get? it = some o) (hc : o.cls = .type n) (hd : o.data = .fields vs)
    (hn : ["enumerate", "zip", "dict_itemiterator", "dict_reverseitemiterator", "odict_iterator", "itertools.zip_longest", "itertools.pairwise"].contains n = false) (hQ : Q () s) : wpAny M A (letOwnedTupleGo tg (.ref it) u) Q E s := by
  unfold letOwnedTupleGo
  cases tg <;> first
    | exact wpAny_pure hQ
    | (cases u <;> first
        | exact wpAny_pure hQ
        | (refine wpAny_bind (wpAny_load ho ?_)
           rw [hc, hd]
           show wpAny M A (if (["enumerate", "zip", "dict_itemiterator", "dict_reverseitemiterator", "odict_iterator", "itertools.zip_longest", "itertools.pairwise"].contains n && vs[0]? == some (rawInt _)) = true then _ else _) Q E s
           rw [if_neg (by intro h; rw [hn, Bool.false_and] at h; cases h)]
           exact wpAny_pure hQ))
def Itl (K : PySem.W.Frag) (a : Addr) : It :=
  ⟨fun i H => ∃ xs x, SqL K H a xs ∧ xs[i]? = some x, fun i H x H' => H' = H ∧ ∀ xs, SqL K H a xs → xs[i]? = some x, fun i H => ∃ xs, SqL K H a xs ∧ xs.length ≤ i⟩
def Itt (K : PySem.W.Frag) (a : Addr) : It :=
  ⟨fun i H => ∃ xs x, SqT K H a xs ∧ xs[i]? = some x, fun i H x H' => H' = H ∧ ∀ xs, SqT K H a xs → xs[i]? = some x, fun i H => ∃ xs, SqT K H a xs ∧ xs.length ≤ i⟩
theorem turn_list {P : Program} {w : World} {K : PySem.W.Frag} {tg : Expr} (a it : Addr) : Turn P w K tg (Itl K a) [it] it (fun i h => h.IsListIter it a i) where
  mem := by simp
  obj := fun i h st b hb => by
    have e : b = it := by simpa using hb
    subst e
    obtain ⟨o, e, c, d⟩ := st
    exact ⟨o, e, fun v z => by rw [d] at z; cases z⟩
  keep := fun i h h' st k => st.at fun o e => k it (by simp) o e
  item := by
    intro X hP hw hK hc i pins s σ H E I hf st hg
    subst hP hw hK
    obtain ⟨xs, x, hq, hx⟩ := hg
    obtain ⟨its, rv, p, hz⟩ := I.list hq
    obtain ⟨u, hu, ru⟩ := rv.get hx
    obtain ⟨f0, f1, f2, f3, f4, f5⟩ := hf it (by simp)
    refine wpAny_pyNext_list_item st p.isList (x := u) (by simpa using hu) fun h' st' sb => ?_
    have I1 : Inv X pins σ H { s with heap := h' } := I.turned (t' := s.toks) (fun b o hb e => (sb.2 b hb).trans e) f0 f1 f3 f4 f5
    obtain ⟨o, e, c, d⟩ := id st'
    exact ⟨u, rfl, go_of (s := { s with heap := h' }) e c d (by decide) ⟨x, H, I1, ru, ⟨rfl, fun ys hy => by rw [I.list_inj hy hq]; exact hx⟩, st', fun b hb => (hf b hb).1⟩⟩
  done := by
    intro X hP hw hK hc i pins s σ H E I hf st hg
    subst hP hw hK
    obtain ⟨xs, hq, hx⟩ := hg
    obtain ⟨its, rv, p, hz⟩ := I.list hq
    obtain ⟨f0, f1, f2, f3, f4, f5⟩ := hf it (by simp)
    have hl := rv.length
    exact wpAny_pyNext_list_end (I.ok.hd hc) st p.isList (by simp; omega) fun h' eb => ⟨rfl, I.turned (t' := s.toks) (fun b o hb e => eb b o hb e) f0 f1 f3 f4 f5⟩
  self := fun _ _ _ _ _ st h => wpAny_pyIter_listiter st h
theorem turn_tuple {P : Program} {w : World} {K : PySem.W.Frag} {tg : Expr} (a it : Addr) : Turn P w K tg (Itt K a) [it] it (fun i h => h.IsTupleIter it a i) where
  mem := by simp
  obj := fun i h st b hb => by
    have e : b = it := by simpa using hb
    subst e
    obtain ⟨o, e, c, d⟩ := st
    exact ⟨o, e, fun v z => by rw [d] at z; cases z⟩
  keep := fun i h h' st k => st.at fun o e => k it (by simp) o e
  item := by
    intro X hP hw hK hc i pins s σ H E I hf st hg
    subst hP hw hK
    obtain ⟨xs, x, hq, hx⟩ := hg
    obtain ⟨its, rv, p, hz⟩ := I.tuple hq
    obtain ⟨u, hu, ru⟩ := rv.get hx
    obtain ⟨f0, f1, f2, f3, f4, f5⟩ := hf it (by simp)
    refine wpAny_pyNext_tuple_item st (show s.heap.IsTuple a its.toArray from p) (x := u) (by simpa using hu) fun h' st' sb => ?_
    have I1 : Inv X pins σ H { s with heap := h' } := I.turned (t' := s.toks) (fun b o hb e => (sb.2 b hb).trans e) f0 f1 f3 f4 f5
    obtain ⟨o, e, c, d⟩ := id st'
    exact ⟨u, rfl, go_of (s := { s with heap := h' }) e c d (by decide) ⟨x, H, I1, ru, ⟨rfl, fun ys hy => by rw [I.tuple_inj hy hq]; exact hx⟩, st', fun b hb => (hf b hb).1⟩⟩
  done := by
    intro X hP hw hK hc i pins s σ H E I hf st hg
    subst hP hw hK
    obtain ⟨xs, hq, hx⟩ := hg
    obtain ⟨its, rv, p, hz⟩ := I.tuple hq
    obtain ⟨f0, f1, f2, f3, f4, f5⟩ := hf it (by simp)
    have hl := rv.length
    exact wpAny_pyNext_tuple_end (I.ok.hd hc) st (show s.heap.IsTuple a its.toArray from p) (by simp; omega) fun h' eb => ⟨rfl, I.turned (t' := s.toks) (fun b o hb e => eb b o hb e) f0 f1 f3 f4 f5⟩
  self := fun _ _ _ _ _ st h => wpAny_pyIter_tupleiter st h
end L2
namespace L2
open PySem PySem.Spec PyProof.Rows
section
variable {X : Cx} {tg : Expr}
def iList (K : PySem.W.Frag) (tl : TE) : TI := fun σ H R => tl σ H fun x H1 => ∃ a, x = .ref a ∧ (∃ xs, SqL K H1 a xs) ∧ R (Itl K a) H1
def iTup (K : PySem.W.Frag) (tl : TE) : TI := fun σ H R => tl σ H fun x H1 => ∃ a, x = .ref a ∧ (∃ xs, SqT K H1 a xs) ∧ R (Itt K a) H1
theorem pi_list {l : Expr} {tl : TE} (hl : PE X l tl) : PI X tg l (iList X.K tl) := by
  intro pins s σ H R I h
  refine thn (hl pins s σ H _ I h) fun v s1 ⟨x, H1, I1, r1, q1⟩ => ?_
  obtain ⟨a, e, ⟨xs, hq⟩, q⟩ := q1
  subst e
  cases r1
  obtain ⟨its, rv, p, hz⟩ := I1.list hq
  refine wpAny_pyIter_list p.isList ?_
  refine ⟨s1.heap.objs.size, [s1.heap.objs.size], _, _, H1, rfl, I1.kept (t' := s1.toks) fun b o e => Heap.get?_push_of_some _ e, turn_list a _, ⟨_, Heap.get?_push_size _ rfl, rfl, rfl⟩, fun b hb => ?_, q⟩
  have e : b = s1.heap.objs.size := by simpa using hb
  subst e
  exact I1.fpOk (Nat.le_refl _) (I1.hok.fresh (Nat.le_refl _))
theorem pi_tup {l : Expr} {tl : TE} (hl : PE X l tl) : PI X tg l (iTup X.K tl) := by
  intro pins s σ H R I h
  refine thn (hl pins s σ H _ I h) fun v s1 ⟨x, H1, I1, r1, q1⟩ => ?_
  obtain ⟨a, e, ⟨xs, hq⟩, q⟩ := q1
  subst e
  cases r1
  obtain ⟨its, rv, p, hz⟩ := I1.tuple hq
  refine wpAny_pyIter_tuple (show s1.heap.IsTuple a its.toArray from p) ?_
  refine ⟨s1.heap.objs.size, [s1.heap.objs.size], _, _, H1, rfl, I1.kept (t' := s1.toks) fun b o e => Heap.get?_push_of_some _ e, turn_tuple a _, ⟨_, Heap.get?_push_size _ rfl, rfl, rfl⟩, fun b hb => ?_, q⟩
  have e : b = s1.heap.objs.size := by simpa using hb
  subst e
  exact I1.fpOk (Nat.le_refl _) (I1.hok.fresh (Nat.le_refl _))
def tFor (wi : TI) (g : TG) (tb : TS) : TS := fun D σ H => wi σ H fun J H1 => ∃ W : Nat → Nat → St → Hp → Prop, (∃ m, W 0 m σ H1) ∧ ∀ i m σ H, W i m σ H →
  (J.stop i H ∧ D.nx σ H) ∨ (J.go i H ∧ ∃ N : St → Hp → Prop, (∀ σ' H', N σ' H' → ∃ m', m' < m ∧ W (i + 1) m' σ' H') ∧ ∀ x H', J.yld i H x H' → g x σ H' fun σ2 H2 => tb { D with nx := N, ct := N, bk := D.nx } σ2 H2)
def pinsAt (fp : List Addr) (h : Heap) : List (Addr × Obj) := fp.filterMap fun b => (h.get? b).map fun o => (b, o)
theorem mem_pinsAt {fp : List Addr} {h : Heap} {b : Addr} {o : Obj} (hb : b ∈ fp) (e : h.get? b = some o) : (b, o) ∈ pinsAt fp h := List.mem_filterMap.mpr ⟨b, hb, by rw [e]; rfl⟩
theorem of_pinsAt {fp : List Addr} {h : Heap} {p : Addr × Obj} (hp : p ∈ pinsAt fp h) : p.1 ∈ fp ∧ h.get? p.1 = some p.2 := by
  obtain ⟨b, hb, e⟩ := List.mem_filterMap.mp hp
  cases q : h.get? b with
  | none => rw [q] at e; cases e
  | some o =>
    rw [q] at e
    have e' : (b, o) = p := Option.some.inj e
    subst e'
    exact ⟨hb, q⟩
theorem Inv.pinned {pins : List (Addr × Obj)} {σ : St} {H : Hp} {s : Shared} {fp : List Addr} (I : Inv X pins σ H s) (hf : ∀ b ∈ fp, FpOk X pins H b) (ho : ∀ b ∈ fp, ∃ o, s.heap.get? b = some o ∧ ∀ v, o.data ≠ .cell v) : Inv X (pins ++ pinsAt fp s.heap) σ H s :=
  I.pins_of fun p hp => (List.mem_append.mp hp).elim (fun z => I.pin p (List.mem_append_right _ z)) fun z => by
    obtain ⟨hb, e⟩ := of_pinsAt z
    obtain ⟨f0, f1, f2, _⟩ := hf p.1 hb
    obtain ⟨o, e', d⟩ := ho p.1 hb
    rw [e] at e'; cases e'
    exact ⟨e, f0, f1, f2, d⟩
theorem Inv.unpinned {pins pl : List (Addr × Obj)} {σ : St} {H : Hp} {s : Shared} (I : Inv X (pins ++ pl) σ H s) : Inv X pins σ H s := I.pins_of fun p hp => I.pin p (List.mem_append_right _ (List.mem_append_left _ hp))
theorem ps_for {iter : Expr} {body : List Stmt} {wi : TI} {g : TG} {tb : TS} {pos : Pos} (hp : PassesOwn (model X.prog X.w) X.A X.env X.xe) (hc : X.calm = true) (hi : PI X tg iter wi) (hg : PG X tg g) (hb : PSs X body tb)
    (hs : ∀ x, foldedSetIterable iter X.env x = pure x := by intro _; rfl) : PS X (.For tg iter body [] pos) (tFor wi g tb) := by
  intro pins s σ H D I h
  refine wpAny_For (thn (hi pins s σ H _ I h) fun v s1 h1 => thn h1 fun itv s2 h2 => ?_) hs
  obtain ⟨it, fp, tn, J, H2, e, I2, T, st2, f2, W, ⟨m0, w0⟩, turn⟩ := h2
  subst e
  -- what stays true of the iterator's objects through the loop
  have stat : ∀ {H' : Hp}, (∀ b ∈ fp, H' b = none) → ∀ b ∈ fp, FpOk X pins H' b := fun hn b hb => ⟨hn b hb, (f2 b hb).2⟩
  refine codeAny_forLoop_any (fun n s' => ∃ i σ' H', Inv X pins σ' H' s' ∧ tn i s'.heap ∧ (∀ b ∈ fp, H' b = none) ∧ W i n σ' H') ?_ m0 ⟨0, σ, H2, I2, st2, fun b hb => (f2 b hb).1, w0⟩
  rintro n s3 ⟨i, σ3, H3, I3, st3, fr3, w3⟩
  rcases turn i n σ3 H3 w3 with ⟨stop, qn⟩ | ⟨go, N, hN, step⟩
  · refine wpAny_passesOwn hp (thn (T.done X rfl rfl rfl hc i pins s3 σ3 H3 X.xe I3 (stat fr3) st3 stop) fun r s4 ⟨hr, I4⟩ => ?_)
    subst hr
    exact wpAny_execs_nil ⟨σ3, H3, I4, qn⟩
  · refine wpAny_passesOwn hp (thn (T.item X rfl rfl rfl hc i pins s3 σ3 H3 X.xe I3 (stat fr3) st3 go) fun r s4 ⟨u, hr, h4⟩ => ?_)
    subst hr
    refine wpAny_passesOwn hp (thn h4 fun _ s5 ⟨x, H5, I5, r5, y5, st5, fr5⟩ => ?_)
    have I5' := I5.pinned (stat fr5) (T.obj _ _ st5)
    refine wpAny_passesOwn hp (thn (hg _ s5 σ3 H5 x u _ I5' r5 (step x H5 y5)) fun _ s6 ⟨σ6, H6, I6, q6⟩ => ?_)
    refine wpAny_passesOwn hp (thn (hb _ s6 σ6 H6 _ I6 q6) fun f s7 q7 => ?_)
    have again : ∀ {σ7 : St} {H7 : Hp}, Inv X (pins ++ pinsAt fp s5.heap) σ7 H7 s7 → N σ7 H7 → ∃ m, m < n ∧ ∃ i σ' H', Inv X pins σ' H' s7 ∧ tn i s7.heap ∧ (∀ b ∈ fp, H' b = none) ∧ W i m σ' H' := fun {σ7 H7} I7 n7 => by
      obtain ⟨m', hm, w7⟩ := hN σ7 H7 n7
      refine ⟨m', hm, i + 1, σ7, H7, I7.unpinned, T.keep _ _ _ st5 fun b hb o e => (I7.pin (b, o) (List.mem_append_right _ (List.mem_append_right _ (mem_pinsAt hb e)))).1, fun b hb => ?_, w7⟩
      obtain ⟨o, e, d⟩ := T.obj _ _ st5 b hb
      exact (I7.pin (b, o) (List.mem_append_right _ (List.mem_append_right _ (mem_pinsAt hb e)))).2.1
    cases f with
    | next => obtain ⟨σ7, H7, I7, n7⟩ := q7; exact again I7 n7
    | cont => obtain ⟨σ7, H7, I7, n7⟩ := q7; exact again I7 n7
    | brk => obtain ⟨σ7, H7, I7, q7⟩ := q7; exact ⟨σ7, H7, I7.unpinned, q7⟩
    | ret v => obtain ⟨x7, σ7, H7, I7, r7, q7⟩ := q7; exact ⟨x7, σ7, H7, I7.unpinned, r7, q7⟩
end
theorem for_list {K : PySem.W.Frag} {a : Addr} {xs : List V} {g : TG} {tb : TS} {D : Ends} {σ : St} {H : Hp} (Pv : Nat → St → Hp → Prop) (h0 : Pv 0 σ H) (hl : ∀ i σ H, i ≤ xs.length → Pv i σ H → SqL K H a xs)
    (hs : ∀ i x σ H, xs[i]? = some x → Pv i σ H → g x σ H fun σ2 H2 => tb { D with nx := Pv (i + 1), ct := Pv (i + 1), bk := D.nx } σ2 H2) (hd : ∀ σ H, Pv xs.length σ H → D.nx σ H) :
    ∃ W : Nat → Nat → St → Hp → Prop, (∃ m, W 0 m σ H) ∧ ∀ i m σ H, W i m σ H →
      ((Itl K a).stop i H ∧ D.nx σ H) ∨ ((Itl K a).go i H ∧ ∃ N : St → Hp → Prop, (∀ σ' H', N σ' H' → ∃ m', m' < m ∧ W (i + 1) m' σ' H') ∧ ∀ x H', (Itl K a).yld i H x H' → g x σ H' fun σ2 H2 => tb { D with nx := N, ct := N, bk := D.nx } σ2 H2) := by
  refine ⟨fun i m σ H => m = xs.length - i ∧ i ≤ xs.length ∧ Pv i σ H, ⟨xs.length, by simp, Nat.zero_le _, h0⟩, ?_⟩
  rintro i m σ H ⟨rfl, hi, p⟩
  have q := hl i σ H hi p
  by_cases hlt : i < xs.length
  · refine .inr ⟨⟨xs, xs[i], q, by simp [hlt]⟩, Pv (i + 1), fun σ' H' p' => ⟨xs.length - (i + 1), by omega, rfl, hlt, p'⟩, fun x H' y => ?_⟩
    obtain ⟨e, y⟩ := y
    subst e
    exact hs i x σ _ (y xs q) p
  · have e : i = xs.length := by omega
    subst e
    exact .inl ⟨⟨xs, q, Nat.le_refl _⟩, hd σ H p⟩
theorem for_tup {K : PySem.W.Frag} {a : Addr} {xs : List V} {g : TG} {tb : TS} {D : Ends} {σ : St} {H : Hp} (Pv : Nat → St → Hp → Prop) (h0 : Pv 0 σ H) (hl : ∀ i σ H, i ≤ xs.length → Pv i σ H → SqT K H a xs)
    (hs : ∀ i x σ H, xs[i]? = some x → Pv i σ H → g x σ H fun σ2 H2 => tb { D with nx := Pv (i + 1), ct := Pv (i + 1), bk := D.nx } σ2 H2) (hd : ∀ σ H, Pv xs.length σ H → D.nx σ H) :
    ∃ W : Nat → Nat → St → Hp → Prop, (∃ m, W 0 m σ H) ∧ ∀ i m σ H, W i m σ H →
      ((Itt K a).stop i H ∧ D.nx σ H) ∨ ((Itt K a).go i H ∧ ∃ N : St → Hp → Prop, (∀ σ' H', N σ' H' → ∃ m', m' < m ∧ W (i + 1) m' σ' H') ∧ ∀ x H', (Itt K a).yld i H x H' → g x σ H' fun σ2 H2 => tb { D with nx := N, ct := N, bk := D.nx } σ2 H2) := by
  refine ⟨fun i m σ H => m = xs.length - i ∧ i ≤ xs.length ∧ Pv i σ H, ⟨xs.length, by simp, Nat.zero_le _, h0⟩, ?_⟩
  rintro i m σ H ⟨rfl, hi, p⟩
  have q := hl i σ H hi p
  by_cases hlt : i < xs.length
  · refine .inr ⟨⟨xs, xs[i], q, by simp [hlt]⟩, Pv (i + 1), fun σ' H' p' => ⟨xs.length - (i + 1), by omega, rfl, hlt, p'⟩, fun x H' y => ?_⟩
    obtain ⟨e, y⟩ := y
    subst e
    exact hs i x σ _ (y xs q) p
  · have e : i = xs.length := by omega
    subst e
    exact .inl ⟨⟨xs, q, Nat.le_refl _⟩, hd σ H p⟩
theorem while_by {c : TT} {tb : TS} {D : Ends} {σ : St} {H : Hp} (Pv : St → Hp → Prop) (μ : St → Hp → Nat) (h0 : Pv σ H)
    (hs : ∀ σ H, Pv σ H → c σ H fun b H1 => if b = true then tb { D with nx := fun σ' H' => Pv σ' H' ∧ μ σ' H' < μ σ H, ct := fun σ' H' => Pv σ' H' ∧ μ σ' H' < μ σ H, bk := D.nx } σ H1 else D.nx σ H1)
    (mono : ∀ σ H Q Q', (∀ b H1, Q b H1 → Q' b H1) → c σ H Q → c σ H Q') : tWhile c tb D σ H := by
  refine ⟨fun m σ H => m = μ σ H ∧ Pv σ H, ⟨_, rfl, h0⟩, ?_⟩
  rintro m σ H ⟨rfl, p⟩
  refine mono σ H _ _ (fun b H1 q => ?_) (hs σ H p)
  cases b with
  | true => exact ⟨_, fun σ' H' ⟨p', l⟩ => ⟨_, l, rfl, p'⟩, q⟩
  | false => exact q
end L2
namespace L2
open PySem PySem.Spec PyProof.Rows
abbrev R2 := V → V → Hp → VK → Prop
def OpR (X : Cx) (f : Value → Value → Sem Value) (r : R2) : Prop :=
  ∀ (pins : List (Addr × Obj)) (s : Shared) (σ : St) (H : Hp) (x y : V) (v u : Value) (Q : VK), Inv X pins σ H s → RelV x v → RelV y u → r x y H Q →
    wpAny (model X.prog X.w) X.A (f v u) (EP X pins σ Q) X.xe s
def UnR (X : Cx) (f : Value → Sem Value) (r : V → Hp → VK → Prop) : Prop :=
  ∀ (pins : List (Addr × Obj)) (s : Shared) (σ : St) (H : Hp) (x : V) (v : Value) (Q : VK), Inv X pins σ H s → RelV x v → r x H Q →
    wpAny (model X.prog X.w) X.A (f v) (EP X pins σ Q) X.xe s
def CallR (X : Cx) (f : Value) (r : List V → Hp → VK → Prop) : Prop :=
  ∀ (pins : List (Addr × Obj)) (s : Shared) (σ : St) (H : Hp) (xs : List V) (us : List Value) (Q : VK), Inv X pins σ H s → Vals xs us → r xs H Q →
    wpAny (model X.prog X.w) X.A (call f us) (EP X pins σ Q) X.xe s
def tOp (r : R2) (ta tb : TE) : TE := fun σ H Q => ta σ H fun x H1 => tb σ H1 fun y H2 => r x y H2 Q
def tUn (r : V → Hp → VK → Prop) (ta : TE) : TE := fun σ H Q => ta σ H fun x H1 => r x H1 Q
def rI (C : Int → Int → Prop) (g : Int → Int → V) : R2 := fun x y H Q => ∃ i j, x = .int i ∧ y = .int j ∧ C i j ∧ Q (g i j) H
def rI0 (g : Int → Int → V) : R2 := fun x y H Q => ∃ i j, x = .int i ∧ y = .int j ∧ Q (g i j) H
def rU (g : Int → V) : V → Hp → VK → Prop := fun x H Q => ∃ i, x = .int i ∧ Q (g i) H
section
variable {X : Cx} {a b c : Expr} {ta tb tc : TE} {pos : Pos}
theorem binT (ha : PE X a ta) (hb : PE X b tb) {pins : List (Addr × Obj)} {s : Shared} {σ : St} {H : Hp} {R : V → V → Hp → Prop} (I : Inv X pins σ H s)
    (h : ta σ H fun x H1 => tb σ H1 fun y H2 => R x y H2) {Q : Value → Shared → Prop} {f : Value → Value → Sem Value}
    (hf : ∀ v u s2 x y H2, Inv X pins σ H2 s2 → RelV x v → RelV y u → R x y H2 → wpAny (model X.prog X.w) X.A (f v u) Q X.xe s2) :
    wpAny (model X.prog X.w) X.A (eval a X.env) (fun v s₁ => wpAny (model X.prog X.w) X.A (eval b X.env) (fun u s₂ => wpAny (model X.prog X.w) X.A (f v u) Q X.xe s₂) X.xe s₁) X.xe s := by
  refine thn (ha pins s σ H _ I h) fun v s1 ⟨x, H1, I1, r1, q1⟩ => ?_
  refine thn (hb pins s1 σ H1 _ I1 q1) fun u s2 ⟨y, H2, I2, r2, q2⟩ => ?_
  exact hf v u s2 x y H2 I2 r1 r2 q2
theorem pe_op {op : Operator} {r : R2} (ho : OpR X (binaryOp op) r) (ha : PE X a ta) (hb : PE X b tb) : PE X (.BinOp a op b pos) (tOp r ta tb) := by
  intro pins s σ H Q I h
  exact wpAny_BinOp (binT ha hb I h fun v u s2 x y H2 I2 rx ry q => ho pins s2 σ H2 x y v u Q I2 rx ry q)
theorem pe_un {op : UnaryOp} {r : V → Hp → VK → Prop} (ho : UnR X (unaryOp op) r) (ha : PE X a ta) : PE X (.UnaryOp op a pos) (tUn r ta) := by
  intro pins s σ H Q I h
  exact UnaryOp_ (thn (ha pins s σ H _ I h) fun v s1 ⟨x, H1, I1, r1, q1⟩ => ho pins s1 σ H1 x v Q I1 r1 q1)
theorem opI {f : Value → Value → Sem Value} {C : Int → Int → Prop} {g : Int → Int → Int}
    (rule : ∀ (i j : Int) (t u : Tok) (s : Shared) (Q : Value → Shared → Prop) (E : Value → Shared → Prop), C i j → Q (.int (g i j) s.toks) { s with toks := s.toks + 1 } → wpAny (model X.prog X.w) X.A (f (.int i t) (.int j u)) Q E s) :
    OpR X f (rI C fun i j => .int (g i j)) := by
  intro pins s σ H x y v u Q I rx ry h
  obtain ⟨i, j, rfl, rfl, hc, q⟩ := h
  obtain ⟨t, rfl⟩ := rx
  obtain ⟨t', rfl⟩ := ry
  exact rule i j t t' s _ _ hc ⟨.int (g i j), H, I.tok _, ⟨_, rfl⟩, q⟩
theorem opI0 {f : Value → Value → Sem Value} {g : Int → Int → Int}
    (rule : ∀ (i j : Int) (t u : Tok) (s : Shared) (Q : Value → Shared → Prop) (E : Value → Shared → Prop), Q (.int (g i j) s.toks) { s with toks := s.toks + 1 } → wpAny (model X.prog X.w) X.A (f (.int i t) (.int j u)) Q E s) :
    OpR X f (rI0 fun i j => .int (g i j)) := by
  intro pins s σ H x y v u Q I rx ry h
  obtain ⟨i, j, rfl, rfl, q⟩ := h
  obtain ⟨t, rfl⟩ := rx
  obtain ⟨t', rfl⟩ := ry
  exact rule i j t t' s _ _ ⟨.int (g i j), H, I.tok _, ⟨_, rfl⟩, q⟩
theorem opB0 {f : Value → Value → Sem Value} {g : Int → Int → Bool}
    (rule : ∀ (i j : Int) (t u : Tok) (s : Shared) (Q : Value → Shared → Prop) (E : Value → Shared → Prop), Q (.bool (g i j)) s → wpAny (model X.prog X.w) X.A (f (.int i t) (.int j u)) Q E s) :
    OpR X f (rI0 fun i j => .bl (g i j)) := by
  intro pins s σ H x y v u Q I rx ry h
  obtain ⟨i, j, rfl, rfl, q⟩ := h
  obtain ⟨t, rfl⟩ := rx
  obtain ⟨t', rfl⟩ := ry
  exact rule i j t t' s _ _ ⟨.bl (g i j), H, I, rfl, q⟩
def CMul (i j : Int) : Prop := (-(2 ^ 64) < i ∧ i < 2 ^ 64) ∨ (-(2 ^ 64) < j ∧ j < 2 ^ 64)
theorem CMul.ok {i j : Int} (h : CMul i j) : IntMulOk i j := by
  rcases h with ⟨h1, h2⟩ | ⟨h1, h2⟩
  · exact .of_left (intBits_le_64 h1 h2)
  · exact .of_right (intBits_le_64 h1 h2)
theorem op_add : OpR X (binaryOp .Add) (rI0 fun i j => .int (i + j)) := opI0 fun _ _ _ _ _ _ _ q => add_int q
theorem op_sub : OpR X (binaryOp .Sub) (rI0 fun i j => .int (i - j)) := opI0 fun _ _ _ _ _ _ _ q => sub_int q
theorem op_mul : OpR X (binaryOp .Mult) (rI CMul fun i j => .int (i * j)) := opI fun _ _ _ _ _ _ _ hc q => mul_int q hc.ok
theorem op_mod : OpR X (binaryOp .Mod) (rI (fun _ j => 0 < j) fun i j => .int (i % j)) := opI fun i j _ _ _ _ _ hc q => by
  have h1 : (0 : Int) < j := hc
  exact mod_int' (by omega) (by rw [Int.fmod_eq_emod_of_nonneg i (by omega)]; exact q)
theorem unI {f : Value → Sem Value} {g : Int → Int}
    (rule : ∀ (i : Int) (t : Tok) (s : Shared) (Q : Value → Shared → Prop) (E : Value → Shared → Prop), Q (.int (g i) s.toks) { s with toks := s.toks + 1 } → wpAny (model X.prog X.w) X.A (f (.int i t)) Q E s) :
    UnR X f (rU fun i => .int (g i)) := by
  intro pins s σ H x v Q I rx h
  obtain ⟨i, rfl, q⟩ := h
  obtain ⟨t, rfl⟩ := rx
  exact rule i t s _ _ ⟨.int (g i), H, I.tok _, ⟨_, rfl⟩, q⟩
theorem un_neg : UnR X (unaryOp .USub) (rU fun i => .int (-i)) := unI fun _ _ _ _ _ q => neg_int q
end
def scal : V → V → Bool
  | .non, .non => true | .non, .int _ => true | .int _, .non => true | .non, .bl _ => true | .bl _, .non => true | .non, .str _ => true | .str _, .non => true
  | .int _, .int _ => true | .bl _, .bl _ => true | .str _, .str _ => true | .byt _, .byt _ => true
  | .int _, .str _ => true | .str _, .int _ => true | .bl _, .str _ => true | .str _, .bl _ => true
  | _, _ => false
def rEq : R2 := fun x y H Q => scal x y = true ∧ Q (.bl (decide (x = y))) H
def rNe : R2 := fun x y H Q => scal x y = true ∧ Q (.bl (!decide (x = y))) H
theorem dec_int {i j : Int} : decide (V.int i = V.int j) = (i == j) := by
  rw [Bool.eq_iff_iff]
  simp
theorem dec_bl {i j : Bool} : decide (V.bl i = V.bl j) = (i == j) := by
  rw [Bool.eq_iff_iff]
  simp
theorem dec_str {i j : Str} : decide (V.str i = V.str j) = (i == j) := by
  rw [Bool.eq_iff_iff]
  simp
theorem dec_byt {i j : Array UInt8} : decide (V.byt i = V.byt j) = (i.toList == j.toList) := by
  rw [Bool.eq_iff_iff]
  cases i
  cases j
  simp
section
variable {X : Cx} {a b c : Expr} {ta tb tc : TE} {pos : Pos}
theorem fin_bl {pins : List (Addr × Obj)} {σ : St} {H : Hp} {s : Shared} {Q : VK} {k k' : Bool} (I : Inv X pins σ H s) (q : Q (.bl k) H) (e : k = k') : EP X pins σ Q (.bool k') s := by
  subst e
  exact ⟨.bl k, H, I, rfl, q⟩
theorem op_eq : OpR X (compareOp .Eq) rEq := by
  intro pins s σ H x y v u Q I rx ry h
  obtain ⟨hs, q⟩ := h
  cases x with
  | non =>
    cases rx
    cases y with
    | non => cases ry; exact PySem.EqNone.eq_none_none (fin_bl I q (by simp))
    | bl j => cases ry; exact PySem.EqNone.eq_none_bool (fin_bl I q (by simp))
    | int j => obtain ⟨t', rfl⟩ := ry; exact PySem.EqNone.eq_none_int (fin_bl I q (by simp))
    | str j => obtain ⟨t', rfl⟩ := ry; exact PySem.EqNone.eq_none_str (fin_bl I q (by simp))
    | _ => exact absurd (show false = true from hs) Bool.false_ne_true
  | bl i =>
    cases rx
    cases y with
    | non => cases ry; exact PySem.EqNone.eq_bool_none (fin_bl I q (by simp))
    | bl j => cases ry; exact eq_bool (fin_bl I q dec_bl)
    | str j => obtain ⟨t', rfl⟩ := ry; exact PySem.EqMixed.eq_bool_str (fin_bl I q (by simp))
    | _ => exact absurd (show false = true from hs) Bool.false_ne_true
  | int i =>
    obtain ⟨t, rfl⟩ := rx
    cases y with
    | non => cases ry; exact PySem.EqNone.eq_int_none (fin_bl I q (by simp))
    | int j => obtain ⟨t', rfl⟩ := ry; exact eq_int (fin_bl I q dec_int)
    | str j => obtain ⟨t', rfl⟩ := ry; exact PySem.EqMixed.eq_int_str (fin_bl I q (by simp))
    | _ => exact absurd (show false = true from hs) Bool.false_ne_true
  | str i =>
    obtain ⟨t, rfl⟩ := rx
    cases y with
    | non => cases ry; exact PySem.EqNone.eq_str_none (fin_bl I q (by simp))
    | bl j => cases ry; exact PySem.EqMixed.eq_str_bool (fin_bl I q (by simp))
    | int j => obtain ⟨t', rfl⟩ := ry; exact PySem.EqMixed.eq_str_int (fin_bl I q (by simp))
    | str j => obtain ⟨t', rfl⟩ := ry; exact eq_str (fin_bl I q dec_str)
    | _ => exact absurd (show false = true from hs) Bool.false_ne_true
  | byt i =>
    obtain ⟨t, rfl⟩ := rx
    cases y with
    | byt j => obtain ⟨t', rfl⟩ := ry; exact PySem.W.eq_bytes (fin_bl I q dec_byt)
    | _ => exact absurd (show false = true from hs) Bool.false_ne_true
  | _ => cases y <;> exact absurd (show false = true from hs) Bool.false_ne_true
theorem op_ne : OpR X (compareOp .NotEq) rNe := by
  intro pins s σ H x y v u Q I rx ry h
  obtain ⟨hs, q⟩ := h
  cases x with
  | non =>
    cases rx
    cases y with
    | non => cases ry; exact PySem.EqNone.ne_none_none (fin_bl I q (by simp))
    | bl j => cases ry; exact PySem.EqNone.ne_none_bool (fin_bl I q (by simp))
    | int j => obtain ⟨t', rfl⟩ := ry; exact PySem.EqNone.ne_none_int (fin_bl I q (by simp))
    | str j => obtain ⟨t', rfl⟩ := ry; exact PySem.EqNone.ne_none_str (fin_bl I q (by simp))
    | _ => exact absurd (show false = true from hs) Bool.false_ne_true
  | bl i =>
    cases rx
    cases y with
    | non => cases ry; exact PySem.EqNone.ne_bool_none (fin_bl I q (by simp))
    | bl j => cases ry; exact ne_bool (fin_bl I q (congrArg not dec_bl))
    | str j => obtain ⟨t', rfl⟩ := ry; exact PySem.EqMixed.ne_bool_str (fin_bl I q (by simp))
    | _ => exact absurd (show false = true from hs) Bool.false_ne_true
  | int i =>
    obtain ⟨t, rfl⟩ := rx
    cases y with
    | non => cases ry; exact PySem.EqNone.ne_int_none (fin_bl I q (by simp))
    | int j => obtain ⟨t', rfl⟩ := ry; exact ne_int (fin_bl I q (congrArg not dec_int))
    | str j => obtain ⟨t', rfl⟩ := ry; exact PySem.EqMixed.ne_int_str (fin_bl I q (by simp))
    | _ => exact absurd (show false = true from hs) Bool.false_ne_true
  | str i =>
    obtain ⟨t, rfl⟩ := rx
    cases y with
    | non => cases ry; exact PySem.EqNone.ne_str_none (fin_bl I q (by simp))
    | bl j => cases ry; exact PySem.EqMixed.ne_str_bool (fin_bl I q (by simp))
    | int j => obtain ⟨t', rfl⟩ := ry; exact PySem.EqMixed.ne_str_int (fin_bl I q (by simp))
    | str j => obtain ⟨t', rfl⟩ := ry; exact ne_str (fin_bl I q (congrArg not dec_str))
    | _ => exact absurd (show false = true from hs) Bool.false_ne_true
  | byt i =>
    obtain ⟨t, rfl⟩ := rx
    cases y with
    | byt j => obtain ⟨t', rfl⟩ := ry; exact PySem.W.ne_bytes (fin_bl I q (congrArg not dec_byt))
    | _ => exact absurd (show false = true from hs) Bool.false_ne_true
  | _ => cases y <;> exact absurd (show false = true from hs) Bool.false_ne_true
theorem op_lt : OpR X (compareOp .Lt) (rI0 fun i j => .bl (decide (i < j))) := opB0 fun _ _ _ _ _ _ _ q => lt_int q
theorem op_le : OpR X (compareOp .LtE) (rI0 fun i j => .bl (decide (i ≤ j))) := opB0 fun _ _ _ _ _ _ _ q => le_int q
theorem op_gt : OpR X (compareOp .Gt) (rI0 fun i j => .bl (decide (j < i))) := opB0 fun _ _ _ _ _ _ _ q => gt_int q
theorem op_isN : OpR X (compareOp .Is) (fun x y H Q => y = .non ∧ Q (.bl (decide (x = .non))) H) := by
  intro pins s σ H x y v u Q I rx ry h
  obtain ⟨rfl, q⟩ := h
  cases ry
  refine is_none_gen (fin_bl I q ?_)
  cases x <;> first
    | (cases rx; rfl)
    | (obtain ⟨t, rfl⟩ := rx; rfl)
theorem op_notN : OpR X (compareOp .IsNot) (fun x y H Q => y = .non ∧ Q (.bl (!decide (x = .non))) H) := by
  intro pins s σ H x y v u Q I rx ry h
  obtain ⟨rfl, q⟩ := h
  cases ry
  refine isnot_none_gen (fin_bl I q ?_)
  cases x <;> first
    | (cases rx; rfl)
    | (obtain ⟨t, rfl⟩ := rx; rfl)
theorem nomark (b : Expr) {op : CmpOp} (h : op ≠ .In := by decide) (h2 : op ≠ .NotIn := by decide) : behindInMarks op b = false := by
  have e1 : (op == CmpOp.In) = false := by cases op <;> first | rfl | exact absurd rfl h
  have e2 : (op == CmpOp.NotIn) = false := by cases op <;> first | rfl | exact absurd rfl h2
  cases b <;> simp [behindInMarks, e1, e2]
theorem pe_cmpR {op : CmpOp} {r : R2} (ho : OpR X (compareOp op) r) (ha : PE X a ta) (hb : PE X b tb) (hm : behindInMarks op b = false) : PE X (.Compare a [op] [b] pos) (tOp r ta tb) := by
  intro pins s σ H Q I h
  exact wpAny_Compare1 (binT ha hb I h fun v u s2 x y H2 I2 rx ry q => ho pins s2 σ H2 x y v u Q I2 rx ry q) hm
def tTest (t : TE) : TT := fun σ H Q => t σ H fun x H' => ∃ k, x = .bl k ∧ Q k H'
theorem pt_cmpR {op : CmpOp} {r : R2} (ho : OpR X (compareOp op) r) (ha : PE X a ta) (hb : PE X b tb) (hm : behindInMarks op b = false) : PT X (.Compare a [op] [b] pos) (tTest (tOp r ta tb)) := by
  intro pins s σ H Q I h
  refine wpAny_isTrue_Compare1 (thn (ha pins s σ H _ I h) fun v s1 ⟨x, H1, I1, r1, q1⟩ => thn (hb pins s1 σ H1 _ I1 q1) fun u s2 ⟨y, H2, I2, r2, q2⟩ =>
    thn (ho pins s2 σ H2 x y v u _ I2 r1 r2 q2) fun c s3 ⟨z, H3, I3, r3, k, e, q3⟩ => ?_) hm
  subst e
  cases r3
  exact wpAny_truthy_bool ⟨H3, I3, q3⟩
def tChain (r r' : R2) (ta tb tc : TE) : TE := fun σ H Q => ta σ H fun x H1 => tb σ H1 fun y H2 => r x y H2 fun z H3 => ∃ k, z = .bl k ∧
  (if k = true then tc σ H3 fun w' H4 => r' y w' H4 Q else Q (.bl false) H3)
theorem pe_chain {op op' : CmpOp} {r r' : R2} (ho : OpR X (compareOp op) r) (ho' : OpR X (compareOp op') r') (ha : PE X a ta) (hb : PE X b tb) (hc : PE X c tc)
    (hm : lastMarks [op, op'] [b, c] = false := by with_unfolding_all rfl) : PE X (.Compare a [op, op'] [b, c] pos) (tChain r r' ta tb tc) := by
  intro pins s σ H Q I h
  refine Compare_chain (thn (ha pins s σ H _ I h) fun v s1 ⟨x, H1, I1, r1, q1⟩ => chain_link (thn (hb pins s1 σ H1 _ I1 q1) fun u s2 ⟨y, H2, I2, r2, q2⟩ =>
    thn (ho pins s2 σ H2 x y v u _ I2 r1 r2 q2) fun d s3 ⟨z, H3, I3, r3, k, e, q3⟩ => ?_)) hm
  subst e
  cases r3
  refine wpAny_truthy_bool ?_
  cases k with
  | false => exact ite_ff ⟨.bl false, H3, I3, rfl, q3⟩
  | true => exact ite_tt (chain_last (thn (hc pins s3 σ H3 _ I3 q3) fun w' s4 ⟨z', H4, I4, r4, q4⟩ => ho' pins s4 σ H4 y z' u w' Q I4 r2 r4 q4))
theorem line63 : (sizeLine : Nat) < 2 ^ 63 := by rw [sizeLine_eq]; decide
theorem vals1 {x : V} {us : List Value} (r : Vals [x] us) : ∃ u, us = [u] ∧ RelV x u := by
  cases r with
  | cons r1 r2 => cases r2; exact ⟨_, rfl, r1⟩
theorem vals2 {x y : V} {us : List Value} (r : Vals [x, y] us) : ∃ u w', us = [u, w'] ∧ RelV x u ∧ RelV y w' := by
  cases r with
  | cons r1 r2 =>
    cases r2 with
    | cons r3 r4 => cases r4; exact ⟨_, _, rfl, r1, r3⟩
theorem call_max2 (hc : X.calm = true) : CallR X (.builtin "max") (fun xs H Q => ∃ i j, xs = [.int i, .int j] ∧ Q (.int (if j > i then j else i)) H) := by
  intro pins s σ H xs us Q I r h
  obtain ⟨i, j, rfl, q⟩ := h
  obtain ⟨u, w', rfl, ⟨t, rfl⟩, ⟨t', rfl⟩⟩ := vals2 r
  refine max_two_ints (I.ok.hd hc) fun h' tk k => ⟨_, H, I.kept k, ?_, q⟩
  by_cases hj : j > i
  · rw [if_pos hj, if_pos hj]; exact ⟨_, rfl⟩
  · rw [if_neg hj, if_neg hj]; exact ⟨_, rfl⟩
theorem call_min2 (hc : X.calm = true) : CallR X (.builtin "min") (fun xs H Q => ∃ i j, xs = [.int i, .int j] ∧ Q (.int (if j < i then j else i)) H) := by
  intro pins s σ H xs us Q I r h
  obtain ⟨i, j, rfl, q⟩ := h
  obtain ⟨u, w', rfl, ⟨t, rfl⟩, ⟨t', rfl⟩⟩ := vals2 r
  refine min_two_ints (I.ok.hd hc) fun h' tk k => ⟨_, H, I.kept k, ?_, q⟩
  by_cases hj : j < i
  · rw [if_pos hj, if_pos hj]; exact ⟨_, rfl⟩
  · rw [if_neg hj, if_neg hj]; exact ⟨_, rfl⟩
end
end L2
namespace L2
open PySem PySem.Spec PyProof.Rows
structure ObjM (h : Heap) (x dx C : Addr) (mA : Str → Option Value) : Prop where
  obj : h.get? x = some (PySem.W.instObj C dx)
  ns : h.Ns1 dx mA
  ne : dx ≠ x
theorem lookIn_ns {h : Heap} {dx : Addr} {mA : Str → Option Value} (n : h.Ns1 dx mA) : ∃ od, h.get? dx = some od ∧ ∀ name, PySem.W.lookIn name od = some (mA name) := by
  obtain ⟨o, es, ep, ho, hd, hk, _, hm⟩ := n
  refine ⟨o, ho, fun name => ?_⟩
  have e := hm name
  unfold nsFind findBy at e
  rw [← Array.find?_toList] at e
  unfold PySem.W.lookIn
  rw [hd]
  dsimp only
  split
  · rename_i y q
    rw [q] at e
    exact congrArg some e
  · rename_i q
    rw [q] at e
    have a : es.toList.any (·.refKey) = false := by
      rw [List.any_eq_false]
      intro y hy
      obtain ⟨z, t, hkey⟩ := hk y (Array.mem_toList_iff.mp hy)
      simp [DictEntry.refKey, hkey]
    have a' : ¬ es.toList.any (·.refKey) = true := by rw [a]; exact Bool.false_ne_true
    rw [if_neg a']
    exact congrArg some e
theorem ObjM.look {h : Heap} {x dx C : Addr} {mA : Str → Option Value} (I : ObjM h x dx C mA) : ∃ od, PySem.W.InstAt h x (PySem.W.instObj C dx) C (some od) ∧ ∀ name, PySem.W.lookIn name od = some (mA name) :=
  let ⟨od, ho, hl⟩ := lookIn_ns I.ns
  ⟨od, ⟨I.obj, rfl, rfl, ho⟩, hl⟩
section
variable {prog : Program} {w : World} {A : Around} {E : Value → Shared → Prop} {s : Shared} {K : PySem.W.Frag} {x dx C f : Addr} {mA : Str → Option Value} {name : Str} {v : Value}
theorem get_map {expr : Bool} {Q : Value → Shared → Prop} (X : K.In s.heap) (I : ObjM s.heap x dx C mA) (hg : PySem.W.plainGet K C name = true) (hh : PySem.W.hasDictIn K C = true)
    (ha : PySem.W.findIn K (.ref C) name = some none) (hv : mA name = some v) (hv' : PySem.W.handedIn v = true) (h : Q v { s with toks := s.toks + 1 }) :
    wpAny (model prog w) A (getAttr (.ref x) name expr) Q E s := by
  obtain ⟨od, J, hl⟩ := I.look
  exact PySem.W.get_value X J (PySem.W.plainGet_of hg).1 (PySem.W.findObj_own hh ha rfl (by rw [hl, hv])) hv' h
theorem get_meth {pl : Sem Bool} {Q : Value × List Value → Shared → Prop} (X : K.In s.heap) (I : ObjM s.heap x dx C mA) (hg : PySem.W.plainGet K C name = true)
    (hf : PySem.W.findIn K (.ref C) name = some (some (.ref f))) (ht : PySem.W.isFn K (.ref f) = true) (hv : mA name = none) (h : Q (.ref f, [.ref x]) s) :
    wpAny (model prog w) A (getMethod (.ref x) name pl) Q E s := by
  obtain ⟨od, J, hl⟩ := I.look
  exact PySem.W.method_fn X J (PySem.W.plainGet_of hg).1 (PySem.W.plainGet_of hg).2 hf (beq_iff_eq.mp ht) (by show (PySem.W.lookIn name od).map (·.isSome) = some false; rw [hl, hv]; rfl) h
theorem set_map {ns : List Str} {Q : Unit → Shared → Prop} (X : K.In s.heap) (I : ObjM s.heap x dx C mA)
    (hs : PySem.W.findIn K (.ref C) "__setattr__" = some (some (.builtin "object.__setattr__"))) (hp : PySem.W.plainOver K C = true) (ht : PySem.W.takerIn K C name = some none) (hh : PySem.W.hasDictIn K C = true)
    (hw : PySem.Within mA ns) (hsz : ns.length ≤ sizeLine)
    (h : ∀ h', ObjM h' x dx C (fun y => if y = name then some v else mA y) → Heap.SameBut dx s.heap h' → Q () { s with heap := h', toks := s.toks + 2 }) :
    wpAny (model prog w) A (setAttr (.ref x) name v) Q E s := by
  obtain ⟨od, J, hl⟩ := I.look
  refine PySem.W.set_plain X J hs (PySem.W.osa_open (s := { s with toks := s.toks + 1 }) (r := none) X J hp ht fun b => ?_)
  obtain ⟨cd, hc, hd'⟩ := PySem.W.any_some hh
  have hx : s.heap.get? x = some ⟨.ref C, some dx, .plain, #[]⟩ := I.obj
  refine wpAny_bind (wpAny_pure (wpAny_bind (wpAny_bind (wpAny_loadPart hx (wpAny_bind (PySem.W.Looks.here (s := { s with toks := s.toks + 1 }) (PySem.W.looks_clsIn X hc) ?_))))))
  rw [hd']
  refine wpAny_pure (a := some dx) (wpAny_bind (wpAny_pure (wpAny_bind ?_)))
  refine wpAny_nsSet1 (s := { s with toks := s.toks + 1 }) I.ns fun h' hn2 hs2 => ?_
  obtain ⟨oD, esD, epD, hoD, hdD, hcD⟩ := hn2.count (PySem.Within.cons name v hw)
  refine wpAny_bind (wpAny_lookBehind hoD (by rw [hdD]; exact pastItsLine_dict (Nat.le_trans hcD (by rw [List.length_cons]; omega))) ?_)
  exact wpAny_pure (h _ ⟨(hs2.2 _ (Ne.symm I.ne)).trans I.obj, hn2, I.ne⟩ hs2)
theorem make_map {R : Result → Shared → Prop} {vs : List Value} {kw : List (Str × Value)} (X : K.In s.heap) (hm : PySem.W.makesIn K C = true)
    (hi : PySem.W.findIn K (.ref C) "__init__" = some (some (.ref f))) (hf : PySem.W.typeIn K (.ref f) = some (.type "function"))
    (h : codeAny (model prog w) (A.under (.builtin "type.__call__" ⟨.ref C :: vs, kw⟩)) (.call (.ref f) ⟨.ref (s.heap.objs.size + 1) :: vs, kw⟩) (PySem.W.InitBack (s.heap.objs.size + 1) R)
      { s with heap := (s.heap.push PySem.W.emptyDict).push (PySem.W.instObj C s.heap.objs.size) }) :
    codeAny (model prog w) A (.call (.ref C) ⟨vs, kw⟩) R s := by
  obtain ⟨hh, g, d, t, os⟩ := s
  exact PySem.W.make_core (PySem.W.makes_of X hm) (PySem.W.looks_findIn X hi) (fun self => PySem.W.bind_fn X self hf) (.inl rfl) h
end
def putF (f : Str) (v : V) : List (Str × V) → List (Str × V)
  | [] => [(f, v)]
  | (g, x) :: r => if g = f then (g, v) :: r else (g, x) :: putF f v r
theorem lookup_putF (f g : Str) (v : V) : ∀ fs : List (Str × V), (putF f v fs).lookup g = if g = f then some v else fs.lookup g
  | [] => by
    show List.lookup g [(f, v)] = _
    by_cases h : g = f
    · have hb : (g == f) = true := beq_iff_eq.mpr h
      simp only [List.lookup, hb, if_pos h]
    · have hb : (g == f) = false := beq_eq_false_iff_ne.mpr h
      simp only [List.lookup, hb, if_neg h]
  | (k, x) :: r => by
    have ih := lookup_putF f g v r
    rw [show putF f v ((k, x) :: r) = (if k = f then (k, v) :: r else (k, x) :: putF f v r) from rfl]
    by_cases hk : k = f
    · rw [if_pos hk]
      by_cases h : g = k
      · have hb : (g == k) = true := beq_iff_eq.mpr h
        simp only [List.lookup, hb, if_pos (h.trans hk)]
      · have hb : (g == k) = false := beq_eq_false_iff_ne.mpr h
        simp only [List.lookup, hb, if_neg (fun e : g = f => h (e.trans hk.symm))]
    · rw [if_neg hk]
      by_cases h : g = k
      · have hb : (g == k) = true := beq_iff_eq.mpr h
        simp only [List.lookup, hb, if_neg (fun e : g = f => hk (h.symm.trans e))]
      · have hb : (g == k) = false := beq_eq_false_iff_ne.mpr h
        simp only [List.lookup, hb]
        exact ih
theorem keys_putF (f : Str) (v : V) : ∀ fs : List (Str × V), f ∈ (putF f v fs).map (·.1) ∧ ∀ g, g ∈ fs.map (·.1) → g ∈ (putF f v fs).map (·.1)
  | [] => ⟨by simp [putF], fun g h => by simp at h⟩
  | (k, x) :: r => by
    obtain ⟨i1, i2⟩ := keys_putF f v r
    rw [show putF f v ((k, x) :: r) = (if k = f then (k, v) :: r else (k, x) :: putF f v r) from rfl]
    by_cases hk : k = f
    · rw [if_pos hk]
      subst hk
      exact ⟨by simp, fun g h => by simpa using h⟩
    · rw [if_neg hk]
      refine ⟨?_, fun g h => ?_⟩
      · rw [List.map_cons]
        exact List.mem_cons_of_mem _ i1
      · rw [List.map_cons] at h ⊢
        rcases List.mem_cons.mp h with e | e
        · exact List.mem_cons.mpr (.inl e)
        · exact List.mem_cons_of_mem _ (i2 g e)
theorem length_putF (f : Str) (v : V) : ∀ fs : List (Str × V), (putF f v fs).length ≤ fs.length + 1
  | [] => by simp [putF]
  | (k, x) :: r => by
    have ih := length_putF f v r
    rw [show putF f v ((k, x) :: r) = (if k = f then (k, v) :: r else (k, x) :: putF f v r) from rfl]
    by_cases hk : k = f
    · rw [if_pos hk, List.length_cons, List.length_cons]; omega
    · rw [if_neg hk, List.length_cons, List.length_cons]; omega
theorem RelO.some_of {v : V} {o : Option Value} (r : RelO (some v) o) : ∃ u, o = some u ∧ RelV v u := by
  cases o with
  | none => exact (show False from r).elim
  | some u => exact ⟨u, rfl, r⟩
theorem RelO.none_of {o : Option Value} (r : RelO none o) : o = none := by
  cases o with
  | none => rfl
  | some u => exact (show False from r).elim
theorem handed_of {v : V} {u : Value} (r : RelV v u) : PySem.W.handedIn u = true := by
  cases v with
  | non => cases (show u = Value.none from r); rfl
  | bl b => cases (show u = Value.bool b from r); rfl
  | int i => obtain ⟨t, e⟩ := (show ∃ t, u = Value.int i t from r); cases e; rfl
  | str x => obtain ⟨t, e⟩ := (show ∃ t, u = Value.str x t from r); cases e; rfl
  | byt b => obtain ⟨t, e⟩ := (show ∃ t, u = Value.bytes b t from r); cases e; rfl
  | flt b => obtain ⟨t, e⟩ := (show ∃ t, u = Value.float b t from r); cases e; rfl
  | ref a => cases (show u = Value.ref a from r); rfl
  | ty n => cases (show u = Value.type n from r); rfl
section
variable {P : Program} {w : World} {H H' : Hp} {h h' : Heap} {a C dx : Addr} {fs fs' : List (Str × V)}
theorem ins_get (hok : HOk P w H h) (e : H a = some (.ins C dx fs)) : ∃ mA, ObjM h a dx C mA ∧ (∀ f, RelO (fs.lookup f) (mA f)) ∧ PySem.Within mA (fs.map (·.1)) ∧ fs.length ≤ 1000 ∧ H dx = some (.own a) := by
  obtain ⟨d, z, ne, ob, mA, n, r, q⟩ := (show ObjOk P w H h a (.ins C dx fs) from hok a _ e)
  exact ⟨mA, ⟨ob, n, ne⟩, r, q, z, d⟩
end
structure Cls (K : PySem.W.Frag) (C : Addr) : Prop where
  pg : PySem.W.plainGet K C Str.empty = true
  hd : PySem.W.hasDictIn K C = true
  po : PySem.W.plainOver K C = true
  sa : PySem.W.findIn K (.ref C) "__setattr__" = some (some (.builtin "object.__setattr__"))
theorem Cls.get {K : PySem.W.Frag} {C : Addr} (c : Cls K C) (f : Str) : PySem.W.plainGet K C f = true := c.pg
def NoAttr (K : PySem.W.Frag) (C : Addr) (f : Str) : Prop := PySem.W.findIn K (.ref C) f = some none
theorem NoAttr.taker {K : PySem.W.Frag} {C : Addr} {f : Str} (n : NoAttr K C f) : PySem.W.takerIn K C f = some none := by
  unfold PySem.W.takerIn
  rw [show PySem.W.findIn K (.ref C) f = some none from n]
  rfl
structure Con (K : PySem.W.Frag) (C : Addr) (f : Str) (v : V) (u : Value) : Prop where
  at_ : PySem.W.findIn K (.ref C) f = some (some u)
  rel : RelV v u
  get : PySem.W.specialIn K u "__get__" = some none
  cp : PySem.W.copiedNames.contains f = false
structure Meth (K : PySem.W.Frag) (C : Addr) (m : Str) (f : Addr) : Prop where
  at_ : PySem.W.findIn K (.ref C) m = some (some (.ref f))
  fn : PySem.W.isFn K (.ref f) = true
  kp : PySem.W.keepIn K (.ref f) = true
section
variable {X : Cx} {pins : List (Addr × Obj)} {σ : St} {H : Hp} {s : Shared} {a C dx : Addr} {fs : List (Str × V)} {f : Str} {v : V} {A : Around} {E : Value → Shared → Prop}
theorem getattr_ok {b : Bool} {Q : Value → Shared → Prop} (I : Inv X pins σ H s) (e : H a = some (.ins C dx fs)) (c : Cls X.K C) (n : NoAttr X.K C f) (l : fs.lookup f = some v)
    (h : ∀ u s', Inv X pins σ H s' → RelV v u → Q u s') : wpAny (model X.prog X.w) A (getAttr (.ref a) f b) Q E s := by
  obtain ⟨mA, O, r, _, _, _⟩ := ins_get I.hok e
  obtain ⟨u, hu, ru⟩ := RelO.some_of (v := v) (o := mA f) (by rw [← l]; exact r f)
  exact get_map I.kIn O (c.get f) c.hd n hu (handed_of ru) (h u _ (I.tok _) ru)
theorem getmeth_ok {m : Str} {g : Addr} {pl : Sem Bool} {Q : Value × List Value → Shared → Prop} (I : Inv X pins σ H s) (e : H a = some (.ins C dx fs)) (c : Cls X.K C) (k : Meth X.K C m g) (l : fs.lookup m = none)
    (h : Q (.ref g, [.ref a]) s) : wpAny (model X.prog X.w) A (getMethod (.ref a) m pl) Q E s := by
  obtain ⟨mA, O, r, _, _, _⟩ := ins_get I.hok e
  have hn : mA m = none := RelO.none_of (by rw [← l]; exact r m)
  exact get_meth I.kIn O (c.get m) k.at_ k.fn hn h
theorem setattr_ok {y : V} {u : Value} {Q : Unit → Shared → Prop} (I : Inv X pins σ H s) (e : H a = some (.ins C dx fs)) (c : Cls X.K C) (n : NoAttr X.K C f) (hl : fs.length < 1000) (ry : RelV y u)
    (h : ∀ s', Inv X pins σ (upd H a (.ins C dx (putF f y fs))) s' → Q () s') : wpAny (model X.prog X.w) A (setAttr (.ref a) f u) Q E s := by
  obtain ⟨mA, O, r, wi, _, ho⟩ := ins_get I.hok e
  have hz : (fs.map (·.1)).length ≤ sizeLine := by rw [List.length_map, sizeLine_eq]; omega
  refine set_map I.kIn O c.sa c.po n.taker c.hd wi hz fun h' O' sb => h _ ?_
  have hd : ∃ o, h'.get? dx = some o := let ⟨o, _, _, e', _⟩ := O'.ns; ⟨o, e'⟩
  refine I.write (x := a) (e := dx) (by rw [e]; exact True.intro) (.inr ho) (fun b q hb z => (sb.2 b hb).trans z) hd ?_
  refine ⟨by rw [upd_ne O.ne]; exact ho, ?_, O.ne, O'.obj, _, O'.ns, fun g => ?_, fun g hg => ?_⟩
  · have := length_putF f y fs; omega
  · show RelO ((putF f y fs).lookup g) (if g = f then some u else mA g)
    rw [lookup_putF]
    by_cases q : g = f
    · rw [if_pos q, if_pos q]; exact ry
    · rw [if_neg q, if_neg q]; exact r g
  · by_cases q : g = f
    · rw [q]; exact (keys_putF f y fs).1
    · refine (keys_putF f y fs).2 g (wi g fun z => hg ?_)
      show (if g = f then some u else mA g) = none
      rw [if_neg q]; exact z
theorem Inv.made (I : Inv X pins σ H s) : Inv X pins σ (upd (upd H s.heap.objs.size (.own (s.heap.objs.size + 1))) (s.heap.objs.size + 1) (.ins C s.heap.objs.size []))
    { s with heap := (s.heap.push PySem.W.emptyDict).push (PySem.W.instObj C s.heap.objs.size) } := by
  have e1 : (s.heap.push PySem.W.emptyDict).get? s.heap.objs.size = some PySem.W.emptyDict := Heap.get?_push_size s.heap rfl
  have e2 : ((s.heap.push PySem.W.emptyDict).push (PySem.W.instObj C s.heap.objs.size)).get? (s.heap.objs.size + 1) = some (PySem.W.instObj C s.heap.objs.size) := by
    have := Heap.get?_push_size (s.heap.push PySem.W.emptyDict) (o := PySem.W.instObj C s.heap.objs.size) rfl
    rwa [Heap.size_push] at this
  have e3 : (s.heap.push PySem.W.emptyDict).Ns s.heap.objs.size (fun _ => none) := ⟨PySem.W.emptyDict, #[], _, e1, rfl, (fun e he => absurd he (by simp)), fun _ => rfl⟩
  have I1 := I.laid (a := s.heap.objs.size) (o := .own (s.heap.objs.size + 1)) (h' := s.heap.push PySem.W.emptyDict) (t' := s.toks) (fun b u q => Heap.get?_push_of_some _ q) (Nat.le_refl _) ⟨_, e1⟩
  refine I1.laid (a := s.heap.objs.size + 1) (o := .ins C s.heap.objs.size []) (t' := s.toks) (fun b u q => Heap.get?_push_of_some _ q) (Nat.le_of_eq (Heap.size_push _ _)) ?_
  have ne : s.heap.objs.size ≠ s.heap.objs.size + 1 := Nat.ne_of_lt (Nat.lt_succ_self _)
  refine ⟨by rw [upd_ne ne, upd_same], Nat.zero_le _, ne, e2, fun _ => none, (Heap.Ns1.of_empty e3).at fun o q => Heap.get?_push_of_some _ q, fun _ => True.intro, fun y hy => absurd rfl hy⟩
theorem attr_of {prog : Program} {w : World} {env : Env} {e : Expr} {f : Str} {pos : Pos} {s : Shared} {Q : Value → Shared → Prop} (hb : attributeBase e f env (eval e env) = eval e env)
    (h : wpAny (model prog w) A (eval e env) (fun o s₁ => wpAny (model prog w) A (getAttr o f true) Q E s₁) E s) : wpAny (model prog w) A (eval (.Attribute e f pos) env) Q E s :=
  Attribute_any_ h (by rw [arm_eval_Attribute, hb])
end
def tFld (K : PySem.W.Frag) (ta : TE) (f : Str) : TE := fun σ H Q => ta σ H fun x H1 => ∃ a C dx fs v, x = .ref a ∧ H1 a = some (.ins C dx fs) ∧ Cls K C ∧ NoAttr K C f ∧ fs.lookup f = some v ∧ Q v H1
def sFld (K : PySem.W.Frag) (ta tv : TE) (f : Str) : TS := fun D σ H => tv σ H fun y H1 => ta σ H1 fun x H2 => ∃ a C dx fs, x = .ref a ∧ H2 a = some (.ins C dx fs) ∧ Cls K C ∧ NoAttr K C f ∧ fs.length < 1000 ∧
  D.nx σ (upd H2 a (.ins C dx (putF f y fs)))
def InOp (X : Cx) (op : Operator) (rd : V → V → Hp → VK → Prop) : Prop :=
  ∀ (pins : List (Addr × Obj)) (s : Shared) (σ : St) (H : Hp) (x y : V) (u v : Value) (Q : VK), Inv X pins σ H s → RelV x u → RelV y v → rd x y H Q → wpAny (model X.prog X.w) X.A (inplaceOp op u v) (EP X pins σ Q) X.xe s
def sFldAug (K : PySem.W.Frag) (ta tv : TE) (rd : V → V → Hp → VK → Prop) (f : Str) : TS := fun D σ H => ta σ H fun x H1 => ∃ a C dx fs v, x = .ref a ∧ H1 a = some (.ins C dx fs) ∧ Cls K C ∧ NoAttr K C f ∧ fs.lookup f = some v ∧
  tv σ H1 fun y H2 => rd v y H2 fun z H3 => ∃ dx' fs', H3 a = some (.ins C dx' fs') ∧ fs'.length < 1000 ∧ D.nx σ (upd H3 a (.ins C dx' (putF f z fs')))
section
variable {X : Cx} {o e value : Expr} {f : Str} {pos pos' tpos : Pos} {ta tv : TE}
theorem pe_fld (he : PE X e ta) (hb : attributeBase e f X.env (eval e X.env) = eval e X.env) : PE X (.Attribute e f pos) (tFld X.K ta f) := by
  intro pins s σ H Q I h
  refine attr_of hb (thn (he pins s σ H _ I h) fun u s1 ⟨x, H1, I1, rx, a, C, dx, fs, v, ex, ea, c, n, l, q⟩ => ?_)
  subst ex
  obtain rfl : u = Value.ref a := rx
  exact getattr_ok I1 ea c n l fun u' s2 I2 ru => ⟨v, H1, I2, ru, q⟩
theorem ps_fld (ha : PE X o ta) (hv : PE X value tv) (hs : swapsWith value (some (.Attribute o f pos')) pos.line X.env = pure false) : PS X (.Assign [.Attribute o f pos'] value pos) (sFld X.K ta tv f) := by
  intro pins s σ H D I h
  refine plainObj_wpAny_Assign_Attribute (thn (hv pins s σ H _ I h) fun u s1 ⟨y, H1, I1, ry, q⟩ => thn (ha pins s1 σ H1 _ I1 q) fun ov s2 ⟨x, H2, I2, rx, a, C, dx, fs, ex, ea, c, n, l, q2⟩ => ?_) hs
  subst ex
  obtain rfl : ov = Value.ref a := rx
  exact setattr_ok I2 ea c n l ry fun s3 I3 => ⟨σ, _, I3, q2⟩
theorem ps_fldaug {op : Operator} {rd : V → V → Hp → VK → Prop} (ha : PE X o ta) (hv : PE X value tv) (hop : InOp X op rd) : PS X (.AugAssign (.Attribute o f tpos) op value pos) (sFldAug X.K ta tv rd f) := by
  intro pins s σ H D I h
  refine wpAny_AugAssign_AttributeAny (thn (ha pins s σ H _ I h) fun ov s1 ⟨x, H1, I1, rx, a, C, dx, fs, v, ex, ea, c, n, l, q⟩ => ?_)
  subst ex
  obtain rfl : ov = Value.ref a := rx
  refine getattr_ok I1 ea c n l fun u s2 I2 ru => thn (hv pins s2 σ H1 _ I2 q) fun w3 s3 ⟨y, H2, I3, ry, q3⟩ => thn (hop pins s3 σ H2 v y u w3 _ I3 ru ry q3) fun w4 s4 ⟨z, H3, I4, rz, dx', fs', ea', l', q4⟩ => ?_
  exact setattr_ok I4 ea' c n l' rz fun s5 I5 => ⟨σ, _, I5, q4⟩
def rAdd : V → V → Hp → VK → Prop := fun x y H Q => ∃ i j, x = .int i ∧ y = .int j ∧ Q (.int (i + j)) H
theorem in_add : InOp X .Add rAdd := by
  rintro pins s σ H x y u v Q I rx ry ⟨i, j, rfl, rfl, q⟩
  obtain ⟨t, rfl⟩ := (show ∃ t, u = Value.int i t from rx)
  obtain ⟨t', rfl⟩ := (show ∃ t', v = Value.int j t' from ry)
  exact PyProof.Rows.iadd_int ⟨.int (i + j), H, I.tok _, ⟨_, rfl⟩, q⟩
end
section
variable {X : Cx} {pins : List (Addr × Obj)} {σ : St} {H : Hp} {s : Shared} {A : Around} {E : Value → Shared → Prop} {Q : Value → Shared → Prop} {c : Value} {b : Bool}
inductive TyOf (K : PySem.W.Frag) (H : Hp) : V → Value → Prop where
  | non : TyOf K H .non (.type "NoneType")
  | bl (x : Bool) : TyOf K H (.bl x) (.type "bool")
  | int (i : Int) : TyOf K H (.int i) (.type "int")
  | str (x : Str) : TyOf K H (.str x) (.type "str")
  | flt (x : UInt64) : TyOf K H (.flt x) (.type "float")
  | lst {a : Addr} {xs : List V} (e : H a = some (.lst xs)) : TyOf K H (.ref a) (.type "list")
  | frz {a : Addr} {o : Obj} {xs : List V} (e : H a = some (.frz o (.lst xs))) : TyOf K H (.ref a) (.type "list")
  | tup {a : Addr} {xs : List V} (e : H a = some (.tup xs)) : TyOf K H (.ref a) (.type "tuple")
  | dK {a : Addr} {kvs : List (Key × V)} (e : H a = some (.dK kvs)) : TyOf K H (.ref a) (.type "dict")
  | dT {a : Addr} {kvs : List (List Key × V)} (e : H a = some (.dT kvs)) : TyOf K H (.ref a) (.type "dict")
  | ins {a C dx : Addr} {fs : List (Str × V)} (e : H a = some (.ins C dx fs)) (cl : Cls K C) (ha : PySem.W.findIn K (.ref C) "__class__" = some (some (.builtin "object.__class__")))
      (hn : PySem.W.specialIn K (.builtin "object.__class__") "__get__" = some (some (.builtin "getset_descriptor.__get__"))) (htk : PySem.W.takesIn K (.builtin "object.__class__") = some true)
      (hm : PySem.W.mroIn K C (.type "object") = some true) : TyOf K H (.ref a) (.ref C)
end
end L2
namespace L2
open PySem PySem.Spec PyProof.Rows
structure Room (k : Nat) (A : Around) : Prop where
  hd : A.handled = none
  dp : A.depth + 3 * k + 5 < recursionLimit
  un : A.units + 16 * k + 200 < cLine
theorem Room.mono {j k : Nat} {A : Around} (r : Room k A) (h : j ≤ k) : Room j A := ⟨r.hd, by have := r.dp; omega, by have := r.un; omega⟩
theorem Room.deeper {k : Nat} {A : Around} (r : Room (k + 1) A) (env : Env) : Room k (A.deeper env) :=
  ⟨r.hd, by have := r.dp; show A.depth + 1 + 3 * k + 5 < _; omega, by have := r.un; show A.units + 3 + 16 * k + 200 < _; omega⟩
theorem make_depth {A : Around} {C : Addr} {us : List Value} {kw : List (Str × Value)} : (A.under (.builtin "type.__call__" ⟨.ref C :: us, kw⟩)).depth = A.depth + 1 := by
  first | rfl | simp [Around.under, Code.weight, Code.isCreation, Code.isGuard, Code.isCaller, Code.frames, Code.isFrame, guardIds]
theorem make_units {A : Around} {C : Addr} {us : List Value} {kw : List (Str × Value)} : (A.under (.builtin "type.__call__" ⟨.ref C :: us, kw⟩)).units = A.units + 1 := by
  first | rfl | simp [Around.under, Code.cUnits, Code.frames, Code.isFrame]
theorem Room.make {k : Nat} {A : Around} (r : Room (k + 1) A) (C : Addr) (us : List Value) (kw : List (Str × Value)) : Room k (A.under (.builtin "type.__call__" ⟨.ref C :: us, kw⟩)) :=
  ⟨r.hd, by have := r.dp; rw [make_depth]; omega, by have := r.un; rw [make_units]; omega⟩
theorem Room.depth {k : Nat} {A : Around} (r : Room k A) : A.depth < recursionLimit := by have := r.dp; omega
def tNil : TA := fun _ H Q => Q [] H
def tCons (ta : TE) (tr : TA) : TA := fun σ H Q => ta σ H fun x H1 => tr σ H1 fun xs H2 => Q (x :: xs) H2
section
variable {X : Cx} {e : Expr} {es : List Expr} {te : TE} {t : TA} {pos : Pos}
theorem pa_nil : PA X [] tNil := fun _ _ _ _ H Q I h => Calls.spliced_nil ⟨[], H, I, .nil, h⟩
theorem pa_cons (ha : PE X e te) (hr : PA X es t) (hs : starEach (e :: es) X.env = (false, eval e X.env) :: starEach es X.env := by rfl) : PA X (e :: es) (tCons te t) := by
  intro pos pins s σ H Q I h
  rw [hs]
  show wpAny _ _ (spliced ((false, eval e X.env) :: backTo pos (starEach es X.env))) _ _ s
  refine Calls.spliced_cons (thn (ha pins s σ H _ I h) fun u s1 ⟨x, H1, I1, r1, q1⟩ => ?_)
  exact thn (hr pos pins s1 σ H1 _ I1 q1) fun us s2 ⟨xs, H2, I2, r2, q2⟩ => ⟨x :: xs, H2, I2, .cons r1 r2, q2⟩
def tTup (t : TA) : TE := fun σ H Q => t σ H fun xs H1 => xs.length ≤ sizeLine ∧ ∀ p, H1 p = none → Q (.ref p) (upd H1 p (.tup xs))
def tLst (t : TA) : TE := fun σ H Q => t σ H fun xs H1 => xs.length ≤ sizeLine ∧ ∀ p, H1 p = none → Q (.ref p) (upd H1 p (.lst xs))
theorem pe_tup {x1} (h : PA X es t) : PE X (.Tuple es x1 pos) (tTup t) := by
  intro pins s σ H Q I hq
  refine wpAny_Tuple_spliced (thn (h pos pins s σ H _ I hq) fun us s1 ⟨xs, H1, I1, r, z, q⟩ => ⟨by rw [← r.length]; exact z, ?_⟩)
  have hf : H1 s1.heap.objs.size = none := I1.hok.fresh (Nat.le_refl _)
  refine ⟨.ref s1.heap.objs.size, upd H1 s1.heap.objs.size (.tup xs), I1.laid (t' := s1.toks) (fun b u e => Heap.get?_push_of_some _ e) (Nat.le_refl _) ?_, rfl, q _ hf⟩
  exact ⟨z, us, r, ⟨_, Heap.get?_push_size _ rfl, rfl, _, rfl⟩⟩
theorem pe_lst (h : PA X es t) : PE X (.List es pos) (tLst t) := by
  intro pins s σ H Q I hq
  refine wpAny_List_spliced (thn (h pos pins s σ H _ I hq) fun us s1 ⟨xs, H1, I1, r, z, q⟩ => ⟨by rw [← r.length]; exact z, ?_⟩)
  have hf : H1 s1.heap.objs.size = none := I1.hok.fresh (Nat.le_refl _)
  refine ⟨.ref s1.heap.objs.size, upd H1 s1.heap.objs.size (.lst xs), I1.laid (t' := s1.toks) (fun b u e => Heap.get?_push_of_some _ e) (Nat.le_refl _) ?_, rfl, q _ hf⟩
  exact ⟨z, us, 0, r, Heap.get?_push_size _ rfl⟩
end
abbrev Sp := List V → Hp → VK → XK → Prop
abbrev CXT := List Env → Hp → Shared → XK → Value → Shared → Prop
structure Env0 (P : Program) (w : World) (K : PySem.W.Frag) (mg : Str → Option Value) (base : Heap) (A : Around) (outer : List Env) (s : Shared) (H : Hp) : Prop where
  frames : A.frames = some outer
  mod : Mod K mg base
  bs : ∀ b o, base.get? b = some o → s.heap.get? b = some o ∧ H b = none
  bsz : base.objs.size ≤ s.heap.objs.size
  funs : s.heap.FunFrames base outer
  frf : ∀ b ∈ frs outer, H b = none
  hok : HOk P w H s.heap
  bare : AllBare s.gens
def CE (outer : List Env) (P : Program) (w : World) (H : Hp) (s : Shared) (Q : VK) (u : Value) (s' : Shared) : Prop :=
  ∃ v H', s'.os = s.os ∧ AllBare s'.gens ∧ Un (frs outer) [] H H' s.heap s'.heap ∧ HOk P w H' s'.heap ∧ RelV v u ∧ Q v H'
def CR (CX : CXT) (outer : List Env) (P : Program) (w : World) (H : Hp) (s : Shared) (Q : VK) (E : XK) (r : Result) (s' : Shared) : Prop :=
  match r with
  | .ok (.ret u) => CE outer P w H s Q u s'
  | .ok _ => False
  | .error e => CX outer H s E e s'
structure FnOk (P : Program) (w : World) (K : PySem.W.Frag) (mg : Str → Option Value) (base : Heap) (CX : CXT) (k : Nat) (f : Addr) (fd : FuncData) (ps : List Str) (sp : Sp) : Prop where
  len : ∀ vs H Q E, sp vs H Q E → vs.length = ps.length
  run : ∀ (A : Around) (outer : List Env) (s : Shared) (H : Hp) (args : Args) (us : List Value) (vs : List V) (Q : VK) (E : XK), Room k A → Env0 P w K mg base A outer s H → BindsTo s fd args (ps.zip us) → Vals vs us → sp vs H Q E →
    codeAny (model P w) A (.call (.ref f) args) (CR CX outer P w H s Q E) s
theorem Env0.make {P : Program} {w : World} {K : PySem.W.Frag} {mg : Str → Option Value} {base : Heap} {A : Around} {outer : List Env} {s : Shared} {H : Hp} (e : Env0 P w K mg base A outer s H) (C : Addr) (us : List Value) (kw : List (Str × Value)) :
    Env0 P w K mg base (A.under (.builtin "type.__call__" ⟨.ref C :: us, kw⟩)) outer s H := ⟨by first | exact e.frames | (simpa [Around.under, Code.envs, Code.isFrame, pushEnvs] using e.frames), e.mod, e.bs, e.bsz, e.funs, e.frf, e.hok, e.bare⟩
section
variable {X : Cx} {pins : List (Addr × Obj)} {σ : St} {H : Hp} {s s' : Shared}
theorem Inv.env0 (I : Inv X pins σ H s) : Env0 X.prog X.w X.K X.mg X.base X.A X.stack s H :=
  ⟨I.ok.frames, I.ok.mod, I.bs, Nat.le_trans I.ok.bsz I.sz, I.stack, I.stkFree, I.hok, I.bare⟩
theorem Inv.after {Q : VK} {u : Value} (I : Inv X pins σ H s) (h : CE X.stack X.prog X.w H s Q u s') : EP X pins σ Q u s' := by
  obtain ⟨v, H', os, bare, un, hok, r, q⟩ := h
  obtain ⟨hh, g, d, t, os'⟩ := s'
  obtain rfl : os' = s.os := os
  exact ⟨v, H', I.call (h' := hh) (g' := g) (d' := d) (t' := t) (ch := []) un hok bare (fun b z => absurd z (by simp)), r, q⟩
end
def tCall (sp : Sp) (dvs : List V) (E : XK) (t : TA) : TE := fun σ H Q => t σ H fun vs H1 => sp (vs ++ dvs) H1 Q E
def tMeth (C : Addr) (m : Str) (sp : Sp) (dvs : List V) (E : XK) (ta : TE) (t : TA) : TE := fun σ H Q => ta σ H fun x H1 => ∃ a dx fs, x = .ref a ∧ H1 a = some (.ins C dx fs) ∧ fs.lookup m = none ∧
  t σ H1 fun vs H2 => sp (x :: (vs ++ dvs)) H2 Q E
def tMake (C : Addr) (sp : Sp) (dvs : List V) (E : XK) (t : TA) : TE := fun σ H Q => t σ H fun vs H1 => ∀ x dx, H1 x = none → H1 dx = none → dx ≠ x →
  sp (.ref x :: (vs ++ dvs)) (upd (upd H1 dx (.own x)) x (.ins C dx [])) (fun v H2 => v = .non ∧ Q (.ref x) H2) E
def Binds (K : PySem.W.Frag) (fd : FuncData) (ps : List Str) (ds : List Value) : Prop :=
  ∀ (s : Shared) (us : List Value), K.In s.heap → (us ++ ds).length = ps.length → BindsTo s fd ⟨us, []⟩ (ps.zip (us ++ ds))
theorem Binds.all {K : PySem.W.Frag} {fd : FuncData} {ps : List Str} (h : ∀ us : List Value, us.length = ps.length → bindArgs fd ⟨us, []⟩ = pure (ps.zip us)) : Binds K fd ps [] := fun s us _ hl => by
  rw [List.append_nil] at hl ⊢
  exact .of_eq (h us hl)
def Passes (CX : CXT) (X : Cx) (E : XK) : Prop := ∀ (pins : List (Addr × Obj)) (σ : St) (H : Hp) (s : Shared) (e : Value) (s' : Shared), Inv X pins σ H s → CX X.stack H s E e s' → X.xe e s'
section
variable {X : Cx} {CX : CXT} {k : Nat} {f C : Addr} {fd : FuncData} {ps : List Str} {sp : Sp} {dvs : List V} {ds : List Value} {E : XK} {x m : Str} {p pos apos : Pos} {e o : Expr} {es : List Expr} {ta : TE} {t : TA}
theorem run_fn {pins : List (Addr × Obj)} {σ : St} {H : Hp} {s : Shared} {Q : VK} {us : List Value} {vs : List V} (F : FnOk X.prog X.w X.K X.mg X.base CX k f fd ps sp) (hr : Room k X.A) (hb : Binds X.K fd ps ds) (hd : Vals dvs ds) (hx : Passes CX X E)
    (I : Inv X pins σ H s) (r : Vals vs us) (h : sp (vs ++ dvs) H Q E) : wpAny (model X.prog X.w) X.A (call (.ref f) us) (EP X pins σ Q) X.xe s := by
  have r2 : Vals (vs ++ dvs) (us ++ ds) := r.append hd
  have hl : (us ++ ds).length = ps.length := by rw [← r2.length]; exact F.len _ _ _ _ h
  refine wpAny_call (codeAny_mono (F.run X.A X.stack s H ⟨us, []⟩ (us ++ ds) (vs ++ dvs) Q E hr I.env0 (hb s us I.kIn hl) r2 h) fun r s' hq => ?_)
  cases r with
  | error e => exact hx pins σ H s e s' I hq
  | ok fl =>
    cases fl with
    | ret u => exact I.after hq
    | next => exact False.elim hq
    | brk => exact False.elim hq
    | cont => exact False.elim hq
theorem pe_call (F : FnOk X.prog X.w X.K X.mg X.base CX k f fd ps sp) (hr : Room k X.A) (hg : Gl X x) (hm : X.mg x = some (.ref f)) (hk : PySem.W.keepIn X.K (.ref f) = true) (hb : Binds X.K fd ps ds) (hd : Vals dvs ds) (hx : Passes CX X E)
    (ha : PA X (e :: es) t) (hdb : (x == ("__debug__" : Str)) = false := by decide) (he : starEach (e :: es) X.env = (false, eval e X.env) :: starEach es X.env := by rfl) (hpl : (backTo pos (starEach es X.env)).any (·.1) = false := by rfl) :
    PE X (.Call (.Name x p) (e :: es) [] pos) (tCall sp dvs E t) := by
  intro pins s σ H Q I h
  refine wpAny_Call_Name_kw (ld_glob I hg hm ?_ hdb)
  refine PySem.W.callWith_K (h₀ := X.base) I.ok.mod.kin hk (thn (ha pos pins s σ H _ I h) fun us s1 ⟨vs, H1, I1, r, q⟩ => ⟨I1.kIn, ?_⟩) he hpl
  exact run_fn F hr hb hd hx I1 r q
theorem pe_meth {pl : Sem Bool} (he : PE X o ta) (c : Cls X.K C) (hm : Meth X.K C m f) (F : FnOk X.prog X.w X.K X.mg X.base CX k f fd ps sp) (hr : Room k X.A) (hb : Binds X.K fd ps ds) (hd : Vals dvs ds) (hx : Passes CX X E) (ha : PA X (e :: es) t)
    (hst : starEach (e :: es) X.env = (false, eval e X.env) :: starEach es X.env := by rfl) (hpl : (backTo pos (starEach es X.env)).any (·.1) = false := by rfl)
    (ht : eval (.Call (.Attribute o m apos) (e :: es) [] pos) X.env = (do
      let ov ← eval o X.env
      standAt apos.atName
      let (f, first) ← holding [ov] (getMethod ov m pl)
      callWith pos f first (backTo pos (starEach (e :: es) X.env)) (backToKw pos (keywordEach [] X.env))) := by rfl) :
    PE X (.Call (.Attribute o m apos) (e :: es) [] pos) (tMeth C m sp dvs E ta t) := by
  intro pins s σ H Q I h
  refine PySem.W.methodCall_KW (pl := pl) (thn (he pins s σ H _ I h) fun u s1 ⟨x, H1, I1, rx, a, dx, fs, ex, ea, l, q⟩ => ?_) ht
  subst ex
  obtain rfl : u = Value.ref a := rx
  refine getmeth_ok I1 ea c hm l ?_
  refine PySem.W.callWith_K (first := [.ref a]) (h₀ := X.base) I.ok.mod.kin hm.kp (thn (ha pos pins s1 σ H1 _ I1 q) fun us s2 ⟨vs, H2, I2, r, q2⟩ => ⟨I2.kIn, ?_⟩) hst hpl
  exact run_fn (us := .ref a :: us) (vs := .ref a :: vs) F hr hb hd hx I2 (.cons rfl r) q2
theorem pe_meth0 {pl : Sem Bool} (he : PE X o ta) (c : Cls X.K C) (hm : Meth X.K C m f) (F : FnOk X.prog X.w X.K X.mg X.base CX k f fd ps sp) (hr : Room k X.A) (hb : Binds X.K fd ps ds) (hd : Vals dvs ds) (hx : Passes CX X E)
    (ht : eval (.Call (.Attribute o m apos) [] [] pos) X.env = (do
      let ov ← eval o X.env
      standAt apos.atName
      let (f, first) ← holding [ov] (getMethod ov m pl)
      callWith pos f first (backTo pos (starEach [] X.env)) (backToKw pos (keywordEach [] X.env))) := by rfl) :
    PE X (.Call (.Attribute o m apos) [] [] pos) (tMeth C m sp dvs E ta tNil) := by
  intro pins s σ H Q I h
  refine PySem.W.methodCall_KW (pl := pl) (thn (he pins s σ H _ I h) fun u s1 ⟨x, H1, I1, rx, a, dx, fs, ex, ea, l, q⟩ => ?_) ht
  subst ex
  obtain rfl : u = Value.ref a := rx
  refine getmeth_ok I1 ea c hm l ?_
  exact PySem.W.callWith_K0 (first := [.ref a]) I1.kIn hm.kp (run_fn (us := [.ref a]) (vs := [.ref a]) F hr hb hd hx I1 (.cons rfl .nil) q)
structure Mk (K : PySem.W.Frag) (C f : Addr) : Prop where
  makes : PySem.W.makesIn K C = true
  init : PySem.W.findIn K (.ref C) "__init__" = some (some (.ref f))
  fn : PySem.W.isFn K (.ref f) = true
  kp : PySem.W.keepIn K (.ref C) = true
theorem run_make {pins : List (Addr × Obj)} {σ : St} {H : Hp} {s : Shared} {Q : VK} {us : List Value} {vs : List V} (M : Mk X.K C f) (F : FnOk X.prog X.w X.K X.mg X.base CX k f fd ps sp) (hr : Room (k + 1) X.A) (hb : Binds X.K fd ps ds) (hd : Vals dvs ds)
    (hx : Passes CX X E) (I : Inv X pins σ H s) (r : Vals vs us)
    (h : ∀ x dx, H x = none → H dx = none → dx ≠ x → sp (.ref x :: (vs ++ dvs)) (upd (upd H dx (.own x)) x (.ins C dx [])) (fun v H2 => v = .non ∧ Q (.ref x) H2) E) :
    wpAny (model X.prog X.w) X.A (call (.ref C) us) (EP X pins σ Q) X.xe s := by
  have hq := h (s.heap.objs.size + 1) s.heap.objs.size (I.hok.fresh (Nat.le_succ _)) (I.hok.fresh (Nat.le_refl _)) (Nat.ne_of_lt (Nat.lt_succ_self _))
  have I2 := Inv.made (C := C) I
  have r2 : Vals (V.ref (s.heap.objs.size + 1) :: (vs ++ dvs)) (Value.ref (s.heap.objs.size + 1) :: (us ++ ds)) := .cons rfl (r.append hd)
  have hl : (Value.ref (s.heap.objs.size + 1) :: us ++ ds).length = ps.length := by
    have e := r2.length
    rw [F.len _ _ _ _ hq] at e
    exact e.symm
  refine wpAny_call (make_map (f := f) I.kIn M.makes M.init (beq_iff_eq.mp M.fn) (codeAny_mono (F.run _ X.stack _ _ ⟨Value.ref (s.heap.objs.size + 1) :: us, []⟩ (Value.ref (s.heap.objs.size + 1) :: (us ++ ds)) _ _ E (hr.make C us [])
    (I2.env0.make C us []) (hb _ (Value.ref (s.heap.objs.size + 1) :: us) I2.kIn hl) r2 hq) fun r s' hq' => ?_))
  cases r with
  | error e => exact hx pins σ _ _ e s' I2 hq'
  | ok fl =>
    cases fl with
    | ret u =>
      obtain ⟨v, H', I3, rv, ev, q3⟩ := I2.after hq'
      subst ev
      exact ⟨rv, ⟨V.ref (s.heap.objs.size + 1), H', I3, rfl, q3⟩⟩
    | next => exact False.elim hq'
    | brk => exact False.elim hq'
    | cont => exact False.elim hq'
theorem pe_make (M : Mk X.K C f) (F : FnOk X.prog X.w X.K X.mg X.base CX k f fd ps sp) (hr : Room (k + 1) X.A) (hg : Gl X x) (hm : X.mg x = some (.ref C)) (hb : Binds X.K fd ps ds) (hd : Vals dvs ds) (hx : Passes CX X E)
    (ha : PA X (e :: es) t) (hdb : (x == ("__debug__" : Str)) = false := by decide) (he : starEach (e :: es) X.env = (false, eval e X.env) :: starEach es X.env := by rfl) (hpl : (backTo pos (starEach es X.env)).any (·.1) = false := by rfl) :
    PE X (.Call (.Name x p) (e :: es) [] pos) (tMake C sp dvs E t) := by
  intro pins s σ H Q I h
  refine wpAny_Call_Name_kw (ld_glob I hg hm ?_ hdb)
  refine PySem.W.callWith_K (h₀ := X.base) I.ok.mod.kin M.kp (thn (ha pos pins s σ H _ I h) fun us s1 ⟨vs, H1, I1, r, q⟩ => ⟨I1.kIn, ?_⟩) he hpl
  exact run_make M F hr hb hd hx I1 r q
theorem pe_make0 (M : Mk X.K C f) (F : FnOk X.prog X.w X.K X.mg X.base CX k f fd ps sp) (hr : Room (k + 1) X.A) (hg : Gl X x) (hm : X.mg x = some (.ref C)) (hb : Binds X.K fd ps ds) (hd : Vals dvs ds) (hx : Passes CX X E)
    (hdb : (x == ("__debug__" : Str)) = false := by decide) : PE X (.Call (.Name x p) [] [] pos) (tMake C sp dvs E tNil) := by
  intro pins s σ H Q I h
  refine wpAny_Call_Name_kw (ld_glob I hg hm ?_ hdb)
  exact PySem.W.callWith_K0 I.kIn M.kp (run_make (us := []) M F hr hb hd hx I .nil h)
end
section
variable {X : Cx} {CX : CXT} {k : Nat} {f C : Addr} {fd : FuncData} {ps ks : List Str} {sp : Sp} {E : XK} {x m : Str} {p pos apos kpos : Pos} {e o : Expr} {es : List Expr} {kws : List Keyword} {te ta : TE} {t tk : TA} {nm : Option Str}
structure KBinds (K : PySem.W.Frag) (fd : FuncData) (ps ks : List Str) (g : List Value → List Value → List Value) (gV : List V → List V → List V) : Prop where
  to : ∀ (s : Shared) (us ws : List Value), K.In s.heap → (g us ws).length = ps.length → BindsTo s fd ⟨us, ks.zip ws⟩ (ps.zip (g us ws))
  rel : ∀ {vs : List V} {us : List Value} {zs : List V} {ws : List Value}, Vals vs us → Vals zs ws → Vals (gV vs zs) (g us ws)
variable {g : List Value → List Value → List Value} {gV : List V → List V → List V}
end
structure FnScope (N P : List Str) (sc : Scope) : Prop where
  kind : sc.kind = .function
  co : sc.isCoroutine = false
  gen : sc.isGenerator = false
  nd : N.Nodup
  pre : N.take P.length = P
  par : ∀ x ∈ P, sc.names.lookup x = some .local ∨ sc.names.lookup x = some .cell
  nofree : ∀ y ∈ sc.names, y.2 ≠ .free
theorem bindL_out {kindOf : Str → Option NameKind} {x : Str} : ∀ {binds : List (Str × Value)} {m : Str → Option Value}, (∀ v, (x, v) ∉ binds) → bindL kindOf binds m x = m x
  | [], _, _ => rfl
  | (n, v) :: r, m, h => by
    unfold bindL
    rw [bindL_out fun w hw => h w (List.mem_cons_of_mem _ hw)]
    split
    · have : x ≠ n := by rintro rfl; exact h v List.mem_cons_self
      simp [this]
    · rfl
theorem bindC_out {kindOf : Str → Option NameKind} {x : Str} : ∀ {binds : List (Str × Value)} {m : Str → Option Value}, (∀ v, (x, v) ∉ binds) → bindC kindOf binds m x = m x
  | [], _, _ => rfl
  | (n, v) :: r, m, h => by
    unfold bindC
    rw [bindC_out fun w hw => h w (List.mem_cons_of_mem _ hw)]
    split
    · rfl
    · have : x ≠ n := by rintro rfl; exact h v List.mem_cons_self
      simp [this]
theorem bindL_get {kindOf : Str → Option NameKind} {x : Str} {v : Value} : ∀ {P : List Str} {vs : List Value} {i : Nat} {m : Str → Option Value}, P.Nodup → P[i]? = some x → vs[i]? = some v → kindOf x = some .local →
    bindL kindOf (P.zip vs) m x = some v
  | [], _, _, _, _, h, _, _ => by simp at h
  | _ :: _, [], _, _, _, _, h, _ => by simp at h
  | p :: P, w :: vs, 0, m, nd, h1, h2, hk => by
    simp at h1 h2; subst h1; subst h2
    show bindL kindOf ((p, w) :: P.zip vs) m p = _
    unfold bindL
    rw [bindL_out fun v hv => (List.nodup_cons.mp nd).1 (List.of_mem_zip hv).1, if_pos hk]
    simp
  | p :: P, w :: vs, i + 1, m, nd, h1, h2, hk => by
    show bindL kindOf ((p, w) :: P.zip vs) m x = _
    unfold bindL
    exact bindL_get (i := i) (List.nodup_cons.mp nd).2 (by simpa using h1) (by simpa using h2) hk
theorem bindC_get {kindOf : Str → Option NameKind} {x : Str} {v : Value} : ∀ {P : List Str} {vs : List Value} {i : Nat} {m : Str → Option Value}, P.Nodup → P[i]? = some x → vs[i]? = some v → kindOf x ≠ some .local →
    bindC kindOf (P.zip vs) m x = some v
  | [], _, _, _, _, h, _, _ => by simp at h
  | _ :: _, [], _, _, _, _, h, _ => by simp at h
  | p :: P, w :: vs, 0, m, nd, h1, h2, hk => by
    simp at h1 h2; subst h1; subst h2
    show bindC kindOf ((p, w) :: P.zip vs) m p = _
    unfold bindC
    rw [bindC_out fun v hv => (List.nodup_cons.mp nd).1 (List.of_mem_zip hv).1, if_neg hk]
    simp
  | p :: P, w :: vs, i + 1, m, nd, h1, h2, hk => by
    show bindC kindOf ((p, w) :: P.zip vs) m x = _
    unfold bindC
    exact bindC_get (i := i) (List.nodup_cons.mp nd).2 (by simpa using h1) (by simpa using h2) hk
def start (N : List Str) (vs : List V) : St := vs.map some ++ List.replicate (N.length - vs.length) none
def cxOf (CX : CXT) (P : Program) (w : World) (K : PySem.W.Frag) (mg : Str → Option Value) (base : Heap) (N : List Str) (qual : Str) (scope : Scope) (f : Addr) (cd : Value) (A : Around) (outer : List Env) (s : Shared) (H : Hp) (E : XK) : Cx where
  prog := P
  w := w
  K := K
  mg := mg
  base := base
  A := A.deeper (envOfC qual scope s.heap.objs.size f cd)
  N := N
  s_0 := s
  H_0 := H
  env := envOfC qual scope s.heap.objs.size f cd
  outer := outer
  stack := envOfC qual scope s.heap.objs.size f cd :: outer
  ex := []
  calm := true
  fn := fun _ => true
  pn := []
  xe := fun e s' => wpAny (model P w) (A.deeper (envOfC qual scope s.heap.objs.size f cd)) (leaving (envOfC qual scope s.heap.objs.size f cd) e) (fun _ s'' => CX outer H s E e s'') (fun e' s'' => CX outer H s E e' s'') s'
theorem cell_has {sc : Scope} {n : Nat} {x : Str} (h : sc.names.lookup x = some .cell) : ∃ c, (cellsFrom n sc.names []).lookup x = some c := by
  have q := PySem.W.cellsFrom_some sc.names n [] (.inl h)
  exact Option.isSome_iff_exists.mp q
theorem inv_start {CX : CXT} {P : Program} {w : World} {K : PySem.W.Frag} {mg : Str → Option Value} {base : Heap} {N ps : List Str} {qual : Str} {scope : Scope} {f : Addr} {cd : Value} {A : Around} {outer : List Env} {s s1 : Shared} {H : Hp} {E : XK} {us : List Value} {vs : List V}
    (S : FnScope N ps scope) (hd : A.handled = none) (e0 : Env0 P w K mg base A outer s H) (hl : vs.length = ps.length) (r : Vals vs us)
    (x : InCallC s s.heap.objs.size (bindL (envOfC qual scope s.heap.objs.size f cd).kindOf (ps.zip us) fun _ => none) (cellsFrom (s.heap.objs.size + 1) scope.names []) (bindC (envOfC qual scope s.heap.objs.size f cd).kindOf (ps.zip us) fun _ => none) s1) :
    Inv (cxOf CX P w K mg base N qual scope f cd A outer s H E) [] (start N vs) H s1 := by
  have hpl : ps.length ≤ N.length := by have := congrArg List.length S.pre; rw [List.length_take] at this; omega
  obtain ⟨h1, tk, rfl, hk⟩ := x.done
  have noA : ∀ b : Addr, b ∉ (cxOf CX P w K mg base N qual scope f cd A outer s H E).ex := fun b z => absurd (show b ∈ ([] : List Addr) from z) (by simp)
  refine ⟨⟨e0.mod, S.kind, rfl, rfl, Nat.le_refl _, fun y z c h1 h2 => ?_, fun y hy => ?_, fun y c _ h => ?_, fun _ => hd, Around.frames_deeper e0.frames, .inr ⟨rfl, rfl⟩, fun b z => absurd z (noA b), e0.bs, e0.bsz, fun b _ _ => noA b, fun b z => absurd z (noA b), e0.funs, e0.frf⟩,
    rfl, e0.bare, Un.kept hk, ⟨_, x.toInCall.ns, fun i y v h1 h2 h3 => ?_⟩, fun y c h => ⟨_, x.cell y c h⟩, e0.hok.fresh (Nat.le_refl _), fun y c h => ?_, fun p hp => absurd (show p ∈ ([] : List (Addr × Obj)) from hp) (by simp), e0.hok.kept hk, ?_⟩
  · exact name_of_addr x.apart (PySem.mem_of_lookup h1) (PySem.mem_of_lookup h2)
  · have hy : scope.names.lookup y = some .cell ∨ scope.names.lookup y = some .free := hy
    rcases hy with hy | hy
    · exact cell_has hy
    · exact absurd rfl (S.nofree _ (PySem.mem_of_lookup hy))
  · exact Nat.le_of_lt (x.above y c (PySem.mem_of_lookup h))
  · have hi : i < vs.length := by
      unfold start at h2
      by_cases hi : i < vs.length
      · exact hi
      · rw [List.getElem?_append_right (by simpa using hi)] at h2
        rw [List.getElem?_replicate] at h2
        split at h2 <;> cases h2
    have ha : vs[i]? = some v := by
      unfold start at h2
      rw [List.getElem?_append_left (by simpa using hi), List.getElem?_map] at h2
      cases e : vs[i]? with
      | none => rw [e] at h2; cases h2
      | some a => rw [e] at h2; cases h2; rfl
    obtain ⟨u, hu, rv⟩ := r.get ha
    have hp : ps[i]? = some y := by
      rw [← S.pre, List.getElem?_take_of_lt (by omega)]; exact h1
    have ndP : ps.Nodup := by rw [← S.pre]; exact S.nd.sublist (List.take_sublist _ _)
    refine ⟨u, rv, ?_⟩
    rcases S.par y (List.mem_of_getElem? hp) with k | k
    · exact .inl ⟨k, bindL_get ndP hp hu k⟩
    · obtain ⟨c, e⟩ := cell_has (n := s.heap.objs.size + 1) k
      refine .inr ⟨.inl k, c, e, ?_⟩
      have q := x.cell y c e
      rw [bindC_get ndP hp hu (by show scope.names.lookup y ≠ _; rw [k]; decide)] at q
      exact q
  · exact e0.hok.fresh (Nat.le_of_lt (x.above y c (PySem.mem_of_lookup h)))
  · unfold start
    show _ = N.length
    rw [List.length_append, List.length_map, List.length_replicate]
    omega
theorem fn_of {CX : CXT} {P : Program} {w : World} {K : PySem.W.Frag} {mg : Str → Option Value} {base : Heap} {k : Nat} {f : Addr} {name qual : Str} {params : Arguments} {body : List Stmt} {scope : Scope} {dV kV doc pm cdv ct oc : Value} {an od : Option Addr}
    {osl : Array (Option Value)} {N ps : List Str} {sp : Sp} (lk : K.lookup f = some ⟨oc, od, .func (PySem.W.fnOf name qual params body scope dV kV doc pm an cdv ct), osl⟩) (hcd : PySem.W.codeIn K cdv qual = true) (S : FnScope N ps scope)
    (len : ∀ vs H Q E, sp vs H Q E → vs.length = ps.length)
    (hbody : ∀ (A : Around) (outer : List Env) (s : Shared) (H : Hp) (vs : List V) (Q : VK) (E : XK), Room k (A.deeper (envOfC qual scope s.heap.objs.size f cdv)) → sp vs H Q E →
      ∃ t, PSs (cxOf CX P w K mg base N qual scope f cdv A outer s H E) body t ∧ t { nx := fun _ H' => Q .non H', rt := Q } (start N vs) H) :
    FnOk P w K mg base CX (k + 1) f (PySem.W.fnOf name qual params body scope dV kV doc pm an cdv ct) ps sp := by
  refine ⟨len, fun A outer s H args us vs Q E hr e0 hb r hsp => ?_⟩
  have hl := len _ _ _ _ hsp
  have KX : K.In s.heap := e0.mod.kin.keeps fun b o e => (e0.bs b o e).1
  have lim : s.heap.NoLimit := e0.mod.nolimit.keeps fun b o e => (e0.bs b o e).1
  have hkind : ∀ y ∈ ps.zip us, scope.names.lookup y.1 = some .local ∨ (scope.names.lookup y.1 = some .cell ∧ ((cellsFrom (s.heap.objs.size + 1) scope.names []).lookup y.1).isSome = true) := fun ⟨n, v⟩ hy => by
    rcases S.par n (List.of_mem_zip hy).1 with q | q
    · exact .inl q
    · exact .inr ⟨q, PySem.W.cellsFrom_some _ _ _ (.inl q)⟩
  refine codeAny_call_function hr.depth (KX _ _ lk) rfl S.co S.gen rfl (PySem.W.codeRec_of KX hcd) (hb _ _ _ _ ?_)
  refine wpAny_newFunctionEnv_cells S.kind hkind fun env he s1 x => ?_
  subst he
  refine ⟨lim.keeps x.toInCall.keep, codeAny_func ?_⟩
  obtain ⟨t, ht, hq⟩ := hbody A outer s H vs Q E (hr.deeper _) hsp
  have I : Inv (cxOf CX P w K mg base N qual scope f cdv A outer s H E) [] (start N vs) H s1 := inv_start S hr.hd e0 hl r x
  refine wpAny_mono (ht [] s1 (start N vs) H _ I hq) (fun fl s' hs => ?_) fun e s' hs => hs
  have fin : ∀ {σ' : St} {H' : Hp} {v : V} {u : Value}, Inv (cxOf CX P w K mg base N qual scope f cdv A outer s H E) [] σ' H' s' → RelV v u → Q v H' → CE outer P w H s Q u s' :=
    fun {σ' H' v u} J rv q => ⟨v, H', J.os, J.bare, J.base, J.hok, rv, q⟩
  cases fl with
  | ret u =>
    obtain ⟨v, σ', H', J, rv, q⟩ := hs
    exact fin J rv q
  | next =>
    obtain ⟨σ', H', J, q⟩ := hs
    exact fin (v := V.non) (u := Value.none) J rfl q
  | brk =>
    obtain ⟨_, _, _, q⟩ := hs
    exact False.elim q
  | cont =>
    obtain ⟨_, _, _, q⟩ := hs
    exact False.elim q
end L2
namespace L2
open PySem PySem.Spec PyProof.Rows
section
variable {X : Cx} {x : Str} {p pos : Pos} {e : Expr} {es : List Expr} {t : TA} {id T : String} {r : List V → Hp → VK → Prop}
def tCB (r : List V → Hp → VK → Prop) (t : TA) : TE := fun σ H Q => t σ H fun vs H1 => r vs H1 Q
theorem pe_callB (hc : CallR X (.builtin id) r) (hg : Gl X x) (hm : X.mg x = none) (hv : bootBuiltins x = some (.builtin id)) (ha : PA X (e :: es) t) (hn : x ≠ "__name__" := by decide) (hdb : (x == ("__debug__" : Str)) = false := by decide)
    (he : starEach (e :: es) X.env = (false, eval e X.env) :: starEach es X.env := by rfl) (hpl : (backTo pos (starEach es X.env)).any (·.1) = false := by rfl) : PE X (.Call (.Name x p) (e :: es) [] pos) (tCB r t) := by
  intro pins s σ H Q I h
  refine wpAny_Call_Name_kw (ld_blt I hg hm hv ?_ hn hdb)
  exact PyProof.Rows.callWith_builtin1 (thn (ha pos pins s σ H _ I h) fun us s1 ⟨vs, H1, I1, r1, q1⟩ => hc pins s1 σ H1 vs us Q I1 r1 q1) he hpl
theorem pe_callTy (hc : CallR X (.type T) r) (hg : Gl X x) (hm : X.mg x = none) (hv : bootBuiltins x = some (.type T)) (ha : PA X (e :: es) t) (hn : x ≠ "__name__" := by decide) (hdb : (x == ("__debug__" : Str)) = false := by decide)
    (he : starEach (e :: es) X.env = (false, eval e X.env) :: starEach es X.env := by rfl) (hpl : (backTo pos (starEach es X.env)).any (·.1) = false := by rfl) : PE X (.Call (.Name x p) (e :: es) [] pos) (tCB r t) := by
  intro pins s σ H Q I h
  refine wpAny_Call_Name_kw (ld_blt I hg hm hv ?_ hn hdb)
  exact PyProof.Rows.callWith_type1 (thn (ha pos pins s σ H _ I h) fun us s1 ⟨vs, H1, I1, r1, q1⟩ => hc pins s1 σ H1 vs us Q I1 r1 q1) he hpl
end
end L2
namespace HT
open PySem PyProof.Rows
section
open PySem.SeqAt
open PySem.AutoSeq1 (wpAny_loadPart')
open PySem.MeetsSeq PySem.MeetsSeq2 PySem.MeetsSeq3
end
section
variable {prog : Program} {w : World} {A : Around} {E : Value → Shared → Prop} {s : Shared}
def sIx (n d : Nat) : Option Int → Nat
  | none => d
  | some v => if v < 0 then (v + (n : Int)).toNat else min v.toNat n
theorem sIx_nat (n d k : Nat) : sIx n d (some (k : Int)) = min k n := by
  show (if (k : Int) < 0 then ((k : Int) + (n : Int)).toNat else min (k : Int).toNat n) = min k n
  rw [if_neg (by omega), Int.toNat_natCast]
end
end HT
namespace L2
open PySem PySem.Spec PyProof.Rows
abbrev TO := St → Hp → (Option Int → Hp → Prop) → Prop
def PO (X : Cx) (e : Option Expr) (t : TO) : Prop :=
  ∀ (pins : List (Addr × Obj)) (s : Shared) (σ : St) (H : Hp) (Q : Option Int → Hp → Prop), Inv X pins σ H s → t σ H Q →
    wpAny (model X.prog X.w) X.A (evalPart e X.env) (fun u s' => ∃ o H', Inv X pins σ H' s' ∧ IsPart u o ∧ Q o H') X.xe s
def tPart (t : TE) : TO := fun σ H Q => t σ H fun x H1 => ∃ i, x = .int i ∧ Q (some i) H1
theorem intsAre_of {ns : List Int} : ∀ {us : List Value}, Vals (ns.map V.int) us → IntsAre us ns := by
  induction ns with
  | nil => intro us r; rw [List.map_nil] at r; cases r; exact .nil
  | cons n ns ih =>
    intro us r
    rw [List.map_cons] at r
    cases r with
    | cons r1 r2 =>
      obtain ⟨t, e⟩ := r1
      subst e
      exact .cons n t (ih r2)
section
variable {X : Cx} {e : Expr} {te : TE} {lo hi : Option Expr} {tl th : TO} {pos p2 : Pos}
theorem po_some (h : PE X e te) : PO X (some e) (tPart te) := by
  intro pins s σ H Q I hw
  rw [evalPart_some]
  refine thn (h pins s σ H _ I hw) fun u s1 ⟨x, H1, I1, r1, q1⟩ => ?_
  obtain ⟨i, rfl, q⟩ := q1
  obtain ⟨t, rfl⟩ := r1
  exact ⟨some i, H1, I1, .int i t, q⟩
def SlR (X : Cx) (r : V → Option Int → Option Int → Hp → VK → Prop) : Prop :=
  ∀ (pins : List (Addr × Obj)) (s : Shared) (σ : St) (H : Hp) (x : V) (v vl vu : Value) (lo hi : Option Int) (sl : Addr) (Q : VK), Inv X pins σ H s → RelV x v → s.heap.IsSliceOf sl vl vu .none → IsPart vl lo → IsPart vu hi → r x lo hi H Q →
    ∃ T id, typeLookup (.type T) "__getitem__" = pure (some (.builtin id)) ∧ s.TypeIs v T ∧ wpAny (model X.prog X.w) X.A (getItem v (.ref sl)) (EP X pins σ Q) X.xe s
def tSl (r : V → Option Int → Option Int → Hp → VK → Prop) (te : TE) (tl th : TO) : TE := fun σ H Q => te σ H fun x H1 => tl σ H1 fun l H2 => th σ H2 fun u H3 => r x l u H3 Q
theorem pe_slice {r : V → Option Int → Option Int → Hp → VK → Prop} (hr : SlR X r) (he : PE X e te) (hl : PO X lo tl) (hu : PO X hi th) : PE X (.Subscript e (.Slice lo hi none p2) pos) (tSl r te tl th) := by
  intro pins s σ H Q I h
  refine Subscript_ (thn (he pins s σ H _ I h) fun v s1 ⟨x, H1, I1, r1, q1⟩ => ?_)
  refine wpAny_Slice (thn (hl pins s1 σ H1 _ I1 q1) fun vl s2 ⟨l, H2, I2, pl, q2⟩ => thn (hu pins s2 σ H2 _ I2 q2) fun vu s3 ⟨u, H3, I3, pu, q3⟩ => ?_)
  rw [evalPart_none]
  refine wpAny_pure ?_
  have I4 : Inv X pins σ H3 { s3 with heap := s3.heap.push { cls := .type "slice", data := .fields #[vl, vu, .none] } } := I3.kept (t' := s3.toks) fun b ob q => Heap.get?_push_of_some _ q
  obtain ⟨T, id, hT, ht, hg⟩ := hr pins { s3 with heap := s3.heap.push { cls := .type "slice", data := .fields #[vl, vu, .none] } } σ H3 x v vl vu l u s3.heap.objs.size Q I4 r1 (Heap.IsSliceOf.new ..) pl pu q3
  show wpAny (model X.prog X.w) X.A (subscriptTail e (.Slice lo hi none p2) v (.ref s3.heap.objs.size)) (EP X pins σ Q) X.xe { s3 with heap := s3.heap.push { cls := .type "slice", data := .fields #[vl, vu, .none] } }
  exact tail_any (ops := [.ref s3.heap.objs.size, v]) ht hT hg (by with_unfolding_all rfl)
def cutV (xs : List V) (lo hi : Option Int) : List V := (xs.drop (HT.sIx xs.length 0 lo)).take (HT.sIx xs.length xs.length hi - HT.sIx xs.length 0 lo)
theorem cutV_length (xs : List V) (lo hi : Option Int) : (cutV xs lo hi).length ≤ xs.length := by
  unfold cutV
  rw [List.length_take, List.length_drop]
  omega
end
end L2
namespace L2
open PySem PySem.Spec PyProof.Rows
def ixN (n : Nat) (i : Int) : Option Nat := if 0 ≤ i then (if i < n then some i.toNat else none) else if -(n : Int) ≤ i then some (i + n).toNat else none
def atI {α : Type} (xs : List α) (i : Int) : Option α := (ixN xs.length i).bind fun j => xs[j]?
theorem ixN_seq {n : Nat} {i : Int} {j : Nat} (h : ixN n i = some j) : seqIndex? i n = some j ∧ j < n ∧ -(n : Int) ≤ i ∧ i < n := by
  unfold ixN at h
  by_cases h0 : 0 ≤ i
  · rw [if_pos h0] at h
    by_cases h1 : i < n
    · rw [if_pos h1] at h
      have e : i.toNat = j := Option.some.inj h
      exact ⟨by rw [seqIndex_of h0 h1, e], by omega, by omega, h1⟩
    · rw [if_neg h1] at h; cases h
  · rw [if_neg h0] at h
    by_cases h1 : -(n : Int) ≤ i
    · rw [if_pos h1] at h
      have e : (i + n).toNat = j := Option.some.inj h
      exact ⟨by rw [seqIndex_neg (by omega) h1, e], by omega, h1, by omega⟩
    · rw [if_neg h1] at h; cases h
theorem atI_get {α : Type} {xs : List α} {i : Int} {v : α} (h : atI xs i = some v) : ∃ j, seqIndex? i xs.length = some j ∧ xs[j]? = some v ∧ j < xs.length ∧ -(xs.length : Int) ≤ i ∧ i < xs.length := by
  unfold atI at h
  cases e : ixN xs.length i with
  | none => rw [e] at h; cases h
  | some j =>
    rw [e] at h
    obtain ⟨h1, h2, h3, h4⟩ := ixN_seq e
    exact ⟨j, h1, h, h2, h3, h4⟩
theorem atI_nat {α : Type} {xs : List α} {j : Nat} {v : α} (h : xs[j]? = some v) : atI xs (j : Int) = some v := by
  have hj : j < xs.length := (List.getElem?_eq_some_iff.mp h).1
  have e : ixN xs.length (j : Int) = some j := by
    unfold ixN
    rw [if_pos (by omega), if_pos (by omega)]; simp
  unfold atI; rw [e]; exact h
def PlainIx (b : Expr) : Prop := ∀ o i, subscripted b false o i = operate [o, i] (getItem o i)
def IxR (X : Cx) (r : R2) : Prop :=
  ∀ (value slice : Expr) (pins : List (Addr × Obj)) (s : Shared) (σ : St) (H : Hp) (x y : V) (v u : Value) (Q : VK), Inv X pins σ H s → RelV x v → RelV y u → r x y H Q →
    subscripted slice false v u = operate [v, u] (getItem v u) → wpAny (model X.prog X.w) X.A (subscriptTail value slice v u) (EP X pins σ Q) X.xe s
def MtR (X : Cx) (id : String) (r : V → List V → Hp → VK → Prop) : Prop :=
  ∀ (pins : List (Addr × Obj)) (s : Shared) (σ : St) (H : Hp) (x : V) (xs : List V) (v : Value) (us : List Value) (Q : VK), Inv X pins σ H s → RelV x v → Vals xs us → r x xs H Q →
    wpAny (model X.prog X.w) X.A (call (.builtin id) (v :: us)) (EP X pins σ Q) X.xe s
section
variable {X : Cx} {a b : Expr} {ta tb : TE} {pos : Pos}
theorem pe_ix {r : R2} (hr : IxR X r) (ha : PE X a ta) (hb : PE X b tb) (hs : PlainIx b) : PE X (.Subscript a b pos) (tOp r ta tb) := by
  intro pins s σ H Q I h
  exact Subscript_ (binT ha hb I h fun v u s2 x y H2 I2 rx ry q => hr a b pins s2 σ H2 x y v u Q I2 rx ry q (hs _ _))
def rIxL (K : PySem.W.Frag) : R2 := fun x y H Q => ∃ p xs i v, x = .ref p ∧ y = .int i ∧ SqL K H p xs ∧ atI xs i = some v ∧ Q v H
theorem ix_list : IxR X (rIxL X.K) := by
  intro value slice pins s σ H x y v u Q I rx ry h hs
  obtain ⟨p, xs, i, z, rfl, rfl, hq, he, q⟩ := h
  cases rx
  obtain ⟨t, rfl⟩ := ry
  obtain ⟨its, r, pl, hz⟩ := I.list hq
  obtain ⟨j, h1, h2, h3, h4, h5⟩ := atI_get he
  obtain ⟨w, ew, rw'⟩ := r.get h2
  have hl := r.length
  have hn := line63
  have fin : EP X pins σ Q w s := ⟨z, H, I, rw', q⟩
  by_cases h0 : 0 ≤ i
  · have hj : i.toNat = j := by
      rw [seqIndex_of h0 h5] at h1
      exact Option.some.inj h1
    exact item_listR pl.isList h0 (by omega) (by rw [hj]; simpa using ew) fin hs
  · have hj : (i + (its.toArray.size : Int)).toNat = j := by
      rw [seqIndex_neg (by omega) h4] at h1
      rw [List.size_toArray, ← hl]
      exact Option.some.inj h1
    exact subscriptTail_builtinR (x := w) pl.isList.typeIs slot_list_getitem.lookup
      (wpAny_getItem_list_neg (Q := fun r s' => r = w ∧ EP X pins σ Q r s') pl.isList (by omega) (by rw [List.size_toArray] <;> omega) (by omega) (by rw [hj]; simpa using ew) ⟨rfl, fin⟩) hs
theorem mapSeq_set (its : List Value) (n j : Nat) (u : Value) : Obj.mapSeq (·.setIfInBounds j u) { cls := .type "list", data := .seq its.toArray n } = { cls := .type "list", data := .seq (its.set j u).toArray n } := by
  simp [Obj.mapSeq]
theorem Inv.lst {pins : List (Addr × Obj)} {σ : St} {H : Hp} {s : Shared} {p : Addr} {xs : List V} (I : Inv X pins σ H s) (h : H p = some (.lst xs)) :
    ∃ (its : List Value) (n : Nat), Vals xs its ∧ s.heap.get? p = some { cls := .type "list", data := .seq its.toArray n } ∧ xs.length ≤ sizeLine := by
  obtain ⟨z, its, n, r, e⟩ := I.hok p _ h
  exact ⟨its, n, r, e, z⟩
theorem Inv.lstUpd {pins : List (Addr × Obj)} {σ : St} {H : Hp} {s : Shared} {p : Addr} {xs ys : List V} {its its' : List Value} {n n' : Nat} {f : Obj → Obj} (I : Inv X pins σ H s) (h : H p = some (.lst xs))
    (ho : s.heap.get? p = some { cls := .type "list", data := .seq its.toArray n }) (hf : f { cls := .type "list", data := .seq its.toArray n } = { cls := .type "list", data := .seq its'.toArray n' }) (r : Vals ys its') (hz : ys.length ≤ sizeLine) (t : Nat) :
    Inv X pins σ (upd H p (.lst ys)) { s with heap := s.heap.update p f, toks := t } := by
  have e : (s.heap.update p f).get? p = some { cls := .type "list", data := .seq its'.toArray n' } := by
    rw [Heap.get?_update_self f ho (by rw [hf] <;> rfl), hf]
  refine I.write (x := p) (e := p) (by rw [h]; trivial) (.inl rfl) (fun b u hb q => (Heap.get?_update_other _ _ (Ne.symm hb)).trans q) ⟨_, e⟩ ?_
  exact ⟨hz, its', n', r, e⟩
def rSetL : V → V → V → Hp → (Hp → Prop) → Prop := fun o i v H Q => ∃ p xs k j, o = .ref p ∧ i = .int k ∧ H p = some (.lst xs) ∧ ixN xs.length k = some j ∧ Q (upd H p (.lst (xs.set j v)))
theorem set_list : PSet X rSetL := by
  intro pins s σ H o i v ov iv u Q I ro ri rv h
  obtain ⟨p, xs, k, j, rfl, rfl, hp, hj, q⟩ := h
  cases ro
  obtain ⟨t, rfl⟩ := ri
  obtain ⟨its, n, r, ho, hz⟩ := I.lst hp
  obtain ⟨h1, h2, h3, h4⟩ := ixN_seq hj
  have hl := r.length
  have hn := line63
  have I' : Inv X pins σ (upd H p (.lst (xs.set j v))) { s with heap := s.heap.update p (Obj.mapSeq (·.setIfInBounds j u)) } :=
    I.lstUpd hp ho (mapSeq_set its n j u) (r.set rv j) (by rw [List.length_set]; exact hz) s.toks
  by_cases h0 : 0 ≤ k
  · have hk : k.toNat = j := by
      rw [seqIndex_of h0 h4] at h1
      exact Option.some.inj h1
    exact PySem.W.ki_setAt ho h0 (by omega) (by rw [List.size_toArray, ← hl]; exact h4) (by rw [hk]; exact ⟨_, I', q⟩)
  · have hk : (k + (its.toArray.size : Int)).toNat = j := by
      rw [seqIndex_neg (by omega) h3] at h1
      rw [List.size_toArray, ← hl]
      exact Option.some.inj h1
    exact PySem.W.ki_setBack ho (by omega) (by rw [List.size_toArray, ← hl]; exact h3) (by omega) (by rw [hk]; exact ⟨_, I', q⟩)
theorem slice_bounds (lo hi : Option Int) (n : Nat) : (sliceBounds lo hi none n).1 = ((HT.sIx n 0 lo : Nat) : Int) ∧ (sliceBounds lo hi none n).2.1 = ((HT.sIx n n hi : Nat) : Int) ∧ (sliceBounds lo hi none n).2.2 = 1 := by
  refine ⟨?_, ?_, rfl⟩
  · cases lo with
    | none => simp [sliceBounds, HT.sIx]
    | some i =>
      simp only [sliceBounds, HT.sIx, Option.getD_none, show (1 : Int) > 0 by decide, if_true]
      by_cases h : i < 0
      · simp only [h, if_true] <;> omega
      · simp only [h, if_false] <;> omega
  · cases hi with
    | none => simp [sliceBounds, HT.sIx]
    | some i =>
      simp only [sliceBounds, HT.sIx, Option.getD_none, show (1 : Int) > 0 by decide, if_true]
      by_cases h : i < 0
      · simp only [h, if_true] <;> omega
      · simp only [h, if_false] <;> omega
theorem slicePick_cut (its : List Value) (lo hi : Option Int) : slicePick its.toArray lo hi none = ((its.drop (HT.sIx its.length 0 lo)).take (HT.sIx its.length its.length hi - HT.sIx its.length 0 lo)).toArray := by
  obtain ⟨h1, h2, h3⟩ := slice_bounds lo hi its.toArray.size
  unfold slicePick
  rw [h1, h2, h3]
  simp only [sliceRange_one, pick_run, List.size_toArray] <;> rfl
def rSlL (K : PySem.W.Frag) : V → Option Int → Option Int → Hp → VK → Prop := fun x lo hi H Q => ∃ a xs, x = .ref a ∧ SqL K H a xs ∧ ∀ p, H p = none → Q (.ref p) (upd H p (.lst (cutV xs lo hi)))
theorem sl_list : SlR X (rSlL X.K) := by
  intro pins s σ H x v vl vu lo hi sl Q I rx hs pl pu h
  obtain ⟨a, xs, rfl, hx, q⟩ := h
  cases rx
  obtain ⟨its, r, ht, hz⟩ := I.list hx
  have hlen := r.length
  refine ⟨"list", _, slot_list_getitem.lookup, ht.isList.typeIs, ?_⟩
  refine wpAny_getItem_list_slice ht.isList hs pl pu .none (by simp) ?_ (by rw [List.size_toArray] <;> omega)
  rw [slicePick_cut, ← hlen]
  refine ⟨.ref s.heap.objs.size, _, I.laid (t' := s.toks) (o := .lst (cutV xs lo hi)) (fun b ob q => Heap.get?_push_of_some _ q) (Nat.le_refl _) ?_, rfl, q _ (I.hok.fresh (Nat.le_refl _))⟩
  exact ⟨Nat.le_trans (cutV_length xs lo hi) hz, _, 0, (r.drop (HT.sIx xs.length 0 lo)).take (HT.sIx xs.length xs.length hi - HT.sIx xs.length 0 lo), Heap.get?_push_size _ rfl⟩
def flatV : V → Bool
  | .non => true
  | .bl _ => true
  | .int _ => true
  | .str _ => true
  | _ => false
def eqV : V → V → Bool
  | .non, .non => true
  | .bl a, .bl b => a == b
  | .bl a, .int b => (if a then 1 else 0) == b
  | .int a, .bl b => a == (if b then 1 else 0)
  | .int a, .int b => a == b
  | .str a, .str b => a == b
  | _, _ => false
theorem eqAt_V {A : Around} {s : Shared} {y x : V} {u v : Value} (ry : RelV y u) (rx : RelV x v) (fy : flatV y = true) (fx : flatV x = true) : SeqAt.EqAt A s u v (eqV y x) := by
  cases y with
  | non =>
    cases ry
    cases x with
    | non => cases rx; exact SeqAt.EqAt.same _
    | bl b => cases rx; exact SeqAt.EqAt.none_bool b
    | int b => obtain ⟨t, rfl⟩ := rx; exact SeqAt.EqAt.none_int b t
    | str b => obtain ⟨t, rfl⟩ := rx; exact SeqAt.EqAt.none_str b t
    | _ => exact absurd (show false = true from fx) Bool.false_ne_true
  | bl a =>
    cases ry
    cases x with
    | non => cases rx; exact SeqAt.EqAt.bool_none a
    | bl b => cases rx; exact SeqAt.EqAt.bool_bool a b
    | int b => obtain ⟨t, rfl⟩ := rx; exact SeqAt.EqAt.bool_int a b t
    | str b => obtain ⟨t, rfl⟩ := rx; exact SeqAt.EqAt.bool_str a b t
    | _ => exact absurd (show false = true from fx) Bool.false_ne_true
  | int a =>
    obtain ⟨t', rfl⟩ := ry
    cases x with
    | non => cases rx; exact SeqAt.EqAt.int_none a t'
    | bl b => cases rx; exact SeqAt.EqAt.int_bool a t' b
    | int b => obtain ⟨t, rfl⟩ := rx; exact SeqAt.EqAt.int_int a t' b t
    | str b => obtain ⟨t, rfl⟩ := rx; exact SeqAt.EqAt.int_str a t' b t
    | _ => exact absurd (show false = true from fx) Bool.false_ne_true
  | str a =>
    obtain ⟨t', rfl⟩ := ry
    cases x with
    | non => cases rx; exact SeqAt.EqAt.str_none a t'
    | bl b => cases rx; exact SeqAt.EqAt.str_bool a t' b
    | int b => obtain ⟨t, rfl⟩ := rx; exact SeqAt.EqAt.str_int a t' b t
    | str b => obtain ⟨t, rfl⟩ := rx; exact SeqAt.EqAt.str_str a t' b t
    | _ => exact absurd (show false = true from fx) Bool.false_ne_true
  | _ => exact absurd (show false = true from fy) Bool.false_ne_true
def eqU (x : V) (u : Value) : Bool := match u with
  | .none => eqV .non x
  | .bool b => eqV (.bl b) x
  | .int i _ => eqV (.int i) x
  | .str z _ => eqV (.str z) x
  | _ => false
theorem eqU_of {x y : V} {u : Value} (r : RelV y u) (f : flatV y = true) : eqU x u = eqV y x := by
  cases y with
  | non => cases r; rfl
  | bl b => cases r; rfl
  | int i => obtain ⟨t, rfl⟩ := r; rfl
  | str z => obtain ⟨t, rfl⟩ := r; rfl
  | _ => exact absurd (show false = true from f) Bool.false_ne_true
theorem any_eqU {x : V} : ∀ {xs : List V} {us : List Value}, Vals xs us → xs.all flatV = true → us.any (eqU x) = xs.any fun y => eqV y x
  | _, _, .nil, _ => rfl
  | y :: xs, u :: us, .cons r t, f => by
    rw [List.all_cons, Bool.and_eq_true] at f
    rw [List.any_cons, List.any_cons, eqU_of r f.1, any_eqU t f.2]
theorem mem_eqAt {A : Around} {s : Shared} {x : V} {v : Value} (rx : RelV x v) (fx : flatV x = true) : ∀ {xs : List V} {us : List Value}, Vals xs us → xs.all flatV = true → ∀ u ∈ us, SeqAt.EqAt A s u v (eqU x u)
  | _, _, .nil, _ => fun u hu => by cases hu
  | y :: xs, u :: us, .cons r t, f => fun u' hu => by
    rw [List.all_cons, Bool.and_eq_true] at f
    rcases List.mem_cons.mp hu with rfl | hu
    · rw [eqU_of r f.1]; exact eqAt_V r rx f.1 fx
    · exact mem_eqAt rx fx t f.2 u' hu
def inV (x : V) (xs : List V) : Bool := xs.any fun y => eqV y x
def rIn (K : PySem.W.Frag) (neg : Bool) : R2 := fun x y H Q => ∃ p xs, y = .ref p ∧ (SqL K H p xs ∨ SqT K H p xs) ∧ flatV x = true ∧ xs.all flatV = true ∧ Q (.bl (if neg then !inV x xs else inV x xs)) H
theorem op_in_seq : OpR X (compareOp .In) (rIn X.K false) := by
  intro pins s σ H x y v u Q I rx ry h
  obtain ⟨p, xs, rfl, hq, fx, fs, q⟩ := h
  cases ry
  rcases hq with hq | hq
  · obtain ⟨its, r, pl, hz⟩ := I.list hq
    refine SeqAt.in_listAt (eqU x) pl.isList (fun w hw => mem_eqAt rx fx r fs w (by simpa using hw)) ⟨.bl _, H, I, rfl, ?_⟩
    rw [show its.toArray.any (eqU x) = its.any (eqU x) by simp, any_eqU r fs]
    exact q
  · obtain ⟨its, r, pl, hz⟩ := I.tuple hq
    refine SeqAt.in_tupleAt (eqU x) pl (fun w hw => mem_eqAt rx fx r fs w (by simpa using hw)) ⟨.bl _, H, I, rfl, ?_⟩
    rw [show its.toArray.any (eqU x) = its.any (eqU x) by simp, any_eqU r fs]
    exact q
theorem op_notIn_seq : OpR X (compareOp .NotIn) (rIn X.K true) := by
  intro pins s σ H x y v u Q I rx ry h
  obtain ⟨p, xs, rfl, hq, fx, fs, q⟩ := h
  cases ry
  rcases hq with hq | hq
  · obtain ⟨its, r, pl, hz⟩ := I.list hq
    refine SeqAt.notIn_listAt (eqU x) pl.isList (fun w hw => mem_eqAt rx fx r fs w (by simpa using hw)) ⟨.bl _, H, I, rfl, ?_⟩
    rw [show its.toArray.any (eqU x) = its.any (eqU x) by simp, any_eqU r fs]
    exact q
  · obtain ⟨its, r, pl, hz⟩ := I.tuple hq
    refine SeqAt.notIn_tupleAt (eqU x) pl (fun w hw => mem_eqAt rx fx r fs w (by simpa using hw)) ⟨.bl _, H, I, rfl, ?_⟩
    rw [show its.toArray.any (eqU x) = its.any (eqU x) by simp, any_eqU r fs]
    exact q
theorem call_len_seq : CallR X (.builtin "len") (fun xs H Q => ∃ p ys, xs = [.ref p] ∧ (SqL X.K H p ys ∨ SqT X.K H p ys) ∧ Q (.int ys.length) H) := by
  intro pins s σ H xs us Q I r h
  obtain ⟨p, ys, rfl, hq, q⟩ := h
  obtain ⟨u, rfl, rx⟩ := vals1 r
  cases rx
  have hn := line63
  rcases hq with hq | hq
  · obtain ⟨its, r', pl, hz⟩ := I.list hq
    have hlen := r'.length
    exact Calls.call_len_list pl.isList (by simp only [List.size_toArray] <;> omega) ⟨.int ys.length, H, I.tok _, ⟨s.toks + 1, by rw [List.size_toArray, hlen]⟩, q⟩
  · obtain ⟨its, r', pl, hz⟩ := I.tuple hq
    have hlen := r'.length
    exact len_tuple pl (by simp only [List.size_toArray] <;> omega) ⟨.int ys.length, H, I.tok _, ⟨s.toks + 1, by rw [List.size_toArray, hlen]⟩, q⟩
def tyV (K : PySem.W.Frag) (T : String) (x : V) (H : Hp) : Prop := match x with
  | .str _ => T = "str"
  | .int _ => T = "int"
  | .ref p => (T = "list" ∧ ∃ xs, SqL K H p xs) ∨ (T = "tuple" ∧ ∃ o, K.lookup p = some o ∧ o.cls = .type "tuple" ∧ o.dict = none) ∨
      (T = "dict" ∧ ((∃ kvs, H p = some (.dK kvs)) ∨ ∃ kvs, H p = some (.dT kvs))) ∨ (T = "set" ∧ ∃ S n, H p = some (.set S n))
  | _ => False
theorem tyV_is {pins : List (Addr × Obj)} {σ : St} {H : Hp} {s : Shared} {T : String} {x : V} {v : Value} (I : Inv X pins σ H s) (r : RelV x v) (ty : tyV X.K T x H) :
    s.TypeIs v T ∧ ∀ a, v = .ref a → ∃ ob, s.heap.get? a = some ob ∧ ob.dict = none := by
  cases x with
  | str z =>
    obtain ⟨t, rfl⟩ := r
    cases (show T = "str" from ty)
    exact ⟨typeIs_str s z t, fun _ e => nomatch e⟩
  | int i =>
    obtain ⟨t, rfl⟩ := r
    cases (show T = "int" from ty)
    exact ⟨typeIs_int s i t, fun _ e => nomatch e⟩
  | ref p =>
    cases r
    rcases ty with ⟨rfl, xs, hq⟩ | ⟨rfl, o, hk, hc, hd⟩ | ⟨rfl, hk⟩ | ⟨rfl, S, n, hk⟩
    · obtain ⟨its, _, pl, _⟩ := I.list hq
      refine ⟨pl.isList.typeIs, fun a e => ?_⟩
      cases e
      obtain ⟨o, n, e, c, hd, _⟩ := pl
      exact ⟨o, e, hd⟩
    · refine ⟨⟨o, I.kIn p o hk, hc⟩, fun a e => ?_⟩
      cases e
      exact ⟨o, I.kIn _ o hk, hd⟩
    · have z : ∃ o, s.heap.get? p = some o ∧ o.ExactDict := by
        rcases hk with ⟨kvs, hk⟩ | ⟨kvs, hk⟩
        · obtain ⟨_, _, _, _, o, _, _, e, ex, _⟩ := I.hok p _ hk
          exact ⟨o, e, ex⟩
        · obtain ⟨_, _, _, _, o, _, _, e, ex, _⟩ := I.hok p _ hk
          exact ⟨o, e, ex⟩
      obtain ⟨o, e, ex⟩ := z
      refine ⟨⟨o, e, ex.1⟩, fun a e2 => ?_⟩
      cases e2
      exact ⟨o, e, ex.2.1⟩
    · obtain ⟨o, _, _, _, e, ex, _⟩ := I.hok p _ hk
      refine ⟨⟨o, e, ex.1⟩, fun a e2 => ?_⟩
      cases e2
      exact ⟨o, e, ex.2.1⟩
  | _ => exact False.elim ty
def tBM (K : PySem.W.Frag) (T : String) (r : V → List V → Hp → VK → Prop) (to : TE) (t : TA) : TE := fun σ H Q => to σ H fun x H1 => tyV K T x H1 ∧ t σ H1 fun xs H2 => r x xs H2 Q
variable {o e : Expr} {es : List Expr} {to : TE} {t : TA} {name : Str} {apos cpos : Pos} {T id : String} {r : V → List V → Hp → VK → Prop}
theorem pe_bm (pa : PlainAttrs T) (slot : Slot T name id) (hty : typeOf (.builtin id) = pure (.type "method_descriptor")) (hm : MtR X id r) (ho : PE X o to) (ha : PA X (e :: es) t)
    (hbase : attributeBase o name X.env (eval o X.env) = eval o X.env := by rfl)
    (hfew : ((backTo cpos (starEach (e :: es) X.env)).all (fun x => !x.1) && (backToKw cpos (keywordEach [] X.env)).all (fun x => x.1.isSome)
      && decide ((e :: es).length + ([] : List Keyword).length + (if ([] : List Keyword).isEmpty then 0 else 1) < 30)) = true := by rfl)
    (hline : (apos.endLine == cpos.line) = true := by rfl) (hs : starEach (e :: es) X.env = (false, eval e X.env) :: starEach es X.env := by rfl) (hplain : (backTo cpos (starEach es X.env)).any (·.1) = false := by rfl) :
    PE X (.Call (.Attribute o name apos) (e :: es) [] cpos) (tBM X.K T r to t) := by
  intro pins s σ H Q I h
  refine wpAny_Call_method_late hbase hfew hline rfl (thn (ho pins s σ H _ I h) fun v s1 ⟨x, H1, I1, r1, ty, q1⟩ => ?_)
  obtain ⟨h1, h2⟩ := tyV_is I1 r1 ty
  refine ⟨T, id, pa, slot, hty, h1, h2, ?_⟩
  have hA := ha cpos pins s1 σ H1 _ I1 q1
  rw [hs] at hA ⊢
  refine Calls.callWith_builtin (by show (false || (backTo cpos (starEach es X.env)).any (·.1)) = false; rw [hplain] <;> rfl) (Calls.evalArgs_plain ?_)
  exact thn hA fun us s2 ⟨vs, H2, I2, r2, q2⟩ => hm pins s2 σ H2 x vs v us Q I2 r1 r2 q2
/- xs.append(e), list.index on a module's tuple .. are MtR facts of 06m -/
end
end L2
namespace L2
open PySem PySem.Spec PyProof.Rows
def MtM (X : Cx) (id : String) (r : V → List V → Hp → VK → Prop) : Prop :=
  ∀ (pins : List (Addr × Obj)) (s : Shared) (σ : St) (H : Hp) (x : V) (xs : List V) (v : Value) (us : List Value) (Q : VK), Inv X pins σ H s → RelV x v → Vals xs us → r x xs H Q →
    wpAny (model X.prog X.w) X.A (call (.builtin id) (v :: us)) (EP X pins σ Q) X.xe s
theorem Vals.one : ∀ {x : V} {us : List Value}, Vals [x] us → ∃ u, us = [u] ∧ RelV x u
  | _, _, .cons r .nil => ⟨_, rfl, r⟩
section
variable {X : Cx} {pins : List (Addr × Obj)} {σ : St} {H : Hp} {s : Shared} {l b : Addr} {xs ys zs : List V}
theorem Inv.lset {its its' : List Value} {n : Nat} {f : Array Value → Array Value} {t' : Nat} (I : Inv X pins σ H s) (hH : H l = some (.lst xs))
    (e : s.heap.get? l = some { cls := .type "list", data := .seq its.toArray n }) (hf : f its.toArray = its'.toArray) (hv : Vals ys its') (hz : ys.length ≤ sizeLine) :
    Inv X pins σ (upd H l (.lst ys)) { s with heap := s.heap.update l (Obj.mapSeq f), toks := t' } := by
  have q := PySem.IsL.update e f
  rw [hf] at q
  refine I.write (x := l) (e := l) (by rw [hH]; exact trivial) (.inl rfl) (fun b' u hb hu => (Heap.get?_update_other s.heap (Obj.mapSeq f) (Ne.symm hb)).trans hu) ⟨_, q⟩ ?_
  exact ⟨hz, its', _, hv, q⟩
theorem Inv.lnew {its : List Value} {t' : Nat} (I : Inv X pins σ H s) (hv : Vals ys its) (hz : ys.length ≤ sizeLine) :
    Inv X pins σ (upd H s.heap.objs.size (.lst ys)) { s with heap := s.heap.push { cls := .type "list", data := .seq its.toArray }, toks := t' } :=
  I.laid (fun _ _ q => Heap.get?_push_of_some _ q) (Nat.le_refl _) ⟨hz, its, 0, hv, Heap.get?_push_size _ rfl⟩
theorem Inv.fresh (I : Inv X pins σ H s) : H s.heap.objs.size = none := I.hok.fresh (Nat.le_refl _)
theorem Inv.lstM (I : Inv X pins σ H s) (hH : H l = some (.lst xs)) : xs.length ≤ sizeLine ∧ ∃ (its : List Value) (n : Nat), Vals xs its ∧ xs.length = its.length ∧ s.heap.get? l = some { cls := .type "list", data := .seq its.toArray n } := by
  obtain ⟨z, its, n, r, e⟩ := I.hok l _ hH
  exact ⟨z, its, n, r, r.length, e⟩
theorem notLongL {n : Nat} (h : n ≤ sizeLine) : Builtin.List.listTooLong n = false := by
  unfold Builtin.List.listTooLong
  exact decide_eq_false (by omega)
end
section
variable {X : Cx}
def rAppend : V → List V → Hp → VK → Prop := fun x vs H Q => ∃ l xs y, x = .ref l ∧ vs = [y] ∧ H l = some (.lst xs) ∧ xs.length < sizeLine ∧ Q .non (upd H l (.lst (xs ++ [y])))
theorem mt_append : MtM X "list.append" rAppend := by
  intro pins s σ H x vs v us Q I rx rv h
  obtain ⟨l, xs, y, rfl, rfl, hH, hz, q⟩ := h
  cases rx
  obtain ⟨u, rfl, ru⟩ := rv.one
  obtain ⟨z, its, n, r, hl, e⟩ := I.lstM hH
  refine call_meets F.slot_list_append ⟨_, e, rfl⟩ F.entry_list_append (F.args_list_append_2 _ _) (PySem.list_append l its.toArray n u (by rw [List.size_toArray]; omega)) ⟨e, ?_⟩
  refine ⟨.non, _, I.lset (its' := its ++ [u]) hH e (by simp) (r.append (.cons ru .nil)) ?_, rfl, q⟩
  rw [List.length_append, List.length_singleton]
  omega
def rExtend : V → List V → Hp → VK → Prop := fun x vs H Q => ∃ l b xs zs, x = .ref l ∧ vs = [.ref b] ∧ H l = some (.lst xs) ∧ H b = some (.lst zs) ∧ xs.length + zs.length ≤ sizeLine ∧ Q .non (upd H l (.lst (xs ++ zs)))
theorem mt_extend : MtM X "list.extend" rExtend := by
  intro pins s σ H x vs v us Q I rx rv h
  obtain ⟨l, b, xs, zs, rfl, rfl, hH, hB, hz, q⟩ := h
  cases rx
  obtain ⟨u, rfl, ru⟩ := rv.one
  cases ru
  obtain ⟨z, its, n, r, hl, e⟩ := I.lstM hH
  obtain ⟨z2, its2, n2, r2, hl2, e2⟩ := I.lstM hB
  have hsz : its.toArray.size + its2.toArray.size ≤ sizeLine := by rw [List.size_toArray, List.size_toArray]; omega
  have hlong : ¬ (!its.toArray.isEmpty && Builtin.List.listTooLong (its.toArray.size + its2.toArray.size)) = true := by
    rw [notLongL hsz, Bool.and_false]
    exact Bool.false_ne_true
  refine call_meets F.slot_list_extend ⟨_, e, rfl⟩ F.entry_list_extend (F.args_list_extend_2 _ _)
    (AutoSeq1.list_extend_list_list_0 l its.toArray n b its2.toArray n2 hlong (by rw [List.size_toArray]; omega) (by omega)) ⟨e, e2, ?_⟩
  refine ⟨.non, _, I.lset (its' := its ++ its2) hH e (by simp) (r.append r2) ?_, rfl, q⟩
  rw [List.length_append]
  omega
def rCat : R2 := fun x y H Q => ∃ l b xs zs, x = .ref l ∧ y = .ref b ∧ H l = some (.lst xs) ∧ H b = some (.lst zs) ∧ xs.length + zs.length ≤ sizeLine ∧ ∀ p, H p = none → Q (.ref p) (upd H p (.lst (xs ++ zs)))
theorem op_cat : OpR X (binaryOp .Add) rCat := by
  intro pins s σ H x y v u Q I rx ry h
  obtain ⟨l, b, xs, zs, rfl, rfl, hH, hB, hz, q⟩ := h
  cases rx
  cases ry
  obtain ⟨z, its, n, r, hl, e⟩ := I.lstM hH
  obtain ⟨z2, its2, n2, r2, hl2, e2⟩ := I.lstM hB
  refine PySem.P.add_list e e2 ?_ (by rw [List.size_toArray, List.size_toArray]; omega)
  have ea : its.toArray ++ its2.toArray = (its ++ its2).toArray := by simp
  rw [ea]
  exact ⟨.ref _, _, I.lnew (t' := s.toks) (r.append r2) (by rw [List.length_append]; omega), rfl, q _ I.fresh⟩
end
section
variable {prog : Program} {w : World} {A : Around} {E : Value → Shared → Prop} {s : Shared}
set_option maxRecDepth 100000 in
end
section
variable {X : Cx}
end
end L2
namespace L2
open PySem PySem.Spec PyProof.Rows
theorem Vals.bls : ∀ {bs : List Bool} {us : List Value}, Vals (bs.map V.bl) us → us = bs.map Value.bool
  | [], us, h => by
    rw [List.map_nil] at h
    cases h
    rfl
  | b :: bs, us, h => by
    rw [List.map_cons] at h
    cases h with
    | cons r t =>
      cases r
      rw [Vals.bls t, List.map_cons]
theorem Vals.ref1 {a : Addr} {us : List Value} (r : Vals [V.ref a] us) : us = [Value.ref a] := by
  cases r with
  | cons r t =>
    cases t
    cases r
    rfl
section
variable {prog : Program} {w : World} {A : Around} {E : Value → Shared → Prop} {s : Shared} {l : Addr} {its : List Value} {ns : List Int} {Q : Value → Shared → Prop}
end
section
variable {X : Cx}
end
section
variable {X : Cx}
end
section
variable {X : Cx}
end
theorem iter_any {prog : Program} {w : World} {A : Around} {E : Value → Shared → Prop} {s : Shared} {l : Addr} {items : Array Value} {Q : Value → Shared → Prop} (hl : s.heap.IsList l items)
    (h : ∀ s₂ : Shared, s₂ = { s with heap := s.heap.push { cls := .type "list_iterator", data := .fields #[.ref l, .int 0 0] } } →
      (s₂.heap.IsListIter s.heap.objs.size l 0 ∧ s₂.heap.IsList l items) → l ≠ s.heap.objs.size → Q (.ref s.heap.objs.size) s₂) : wpAny (model prog w) A (pyIter (.ref l)) Q E s := by
  have hlt : l < s.heap.objs.size := by obtain ⟨_, e, _⟩ := hl; exact Heap.lt_size e
  exact wpAny_pyIter_list hl (h _ rfl ⟨⟨_, Heap.get?_push_size _ rfl, rfl, rfl⟩, hl.push _⟩ (Nat.ne_of_lt hlt))
theorem truth_bools {prog : Program} {w : World} {A : Around} {bs : List Bool} {its : List Value} (e : its = bs.map Value.bool) :
    TruthOf prog w A (fun i v => its.toArray[i]? = some v) (fun i => bs.getD i false) := fun i v s Q E hv hq => by
  have hv' : its[i]? = some v := by simpa using hv
  rw [e, List.getElem?_map] at hv'
  obtain ⟨b, hb, rfl⟩ := Option.map_eq_some_iff.mp hv'
  have hg : bs.getD i false = b := by rw [List.getD_eq_getElem?_getD, hb] <;> rfl
  have hq' : Q (bs.getD i false) s := hq
  rw [hg] at hq'
  exact wpAny_truthy_bool hq'
theorem any_range : ∀ bs : List Bool, (List.range bs.length).any (fun i => bs.getD i false) = bs.any id
  | [] => rfl
  | b :: bs => by
    rw [List.length_cons, List.range_succ_eq_map, List.any_cons, List.any_map, List.any_cons, ← any_range bs]
    all_goals rfl
theorem all_range : ∀ bs : List Bool, (List.range bs.length).all (fun i => bs.getD i false) = bs.all id
  | [] => rfl
  | b :: bs => by
    rw [List.length_cons, List.range_succ_eq_map, List.all_cons, List.all_map, List.all_cons, ← all_range bs]
    all_goals rfl
section
variable {X : Cx}
def rAny (K : PySem.W.Frag) : List V → Hp → VK → Prop := fun vs H Q => ∃ (a : Addr) (bs : List Bool), vs = [V.ref a] ∧ SqL K H a (bs.map V.bl) ∧ Q (.bl (bs.any id)) H
def rAll (K : PySem.W.Frag) : List V → Hp → VK → Prop := fun vs H Q => ∃ (a : Addr) (bs : List Bool), vs = [V.ref a] ∧ SqL K H a (bs.map V.bl) ∧ Q (.bl (bs.all id)) H
theorem cr_any (hc : X.calm = true) : CallR X (.builtin "any") (rAny X.K) := by
  intro pins s σ H vs us Q I r h
  obtain ⟨a, bs, rfl, hs, q⟩ := h
  obtain ⟨its, rv, hl, _⟩ := I.list hs
  rw [Vals.ref1 r]
  have hb := rv.bls
  refine call_any_walk (iter_any hl.isList fun s₂ e2 st hne => ?_)
  subst e2
  refine ⟨_, _, _, _, _, _, _, rfl, Walks.list (A := X.A.in1) (I.ok.hd hc) _ a hne its.toArray, st, truth_bools hb, fun h' tk hk => ?_⟩
  refine ⟨.bl _, H, I.kept fun b o eo => hk b o (fun hmem => ?_) (Heap.get?_push_of_some _ eo), ?_, q⟩
  · rcases List.mem_cons.mp hmem with e1 | hmem
    · exact absurd (e1 ▸ Heap.lt_size eo) (Nat.lt_irrefl _)
    · cases hmem
  · show Value.bool _ = Value.bool _
    rw [← any_range, hb, List.size_toArray, List.length_map]
theorem cr_all (hc : X.calm = true) : CallR X (.builtin "all") (rAll X.K) := by
  intro pins s σ H vs us Q I r h
  obtain ⟨a, bs, rfl, hs, q⟩ := h
  obtain ⟨its, rv, hl, _⟩ := I.list hs
  rw [Vals.ref1 r]
  have hb := rv.bls
  refine call_all_walk (iter_any hl.isList fun s₂ e2 st hne => ?_)
  subst e2
  refine ⟨_, _, _, _, _, _, _, rfl, Walks.list (A := X.A.in1) (I.ok.hd hc) _ a hne its.toArray, st, truth_bools hb, fun h' tk hk => ?_⟩
  refine ⟨.bl _, H, I.kept fun b o eo => hk b o (fun hmem => ?_) (Heap.get?_push_of_some _ eo), ?_, q⟩
  · rcases List.mem_cons.mp hmem with e1 | hmem
    · exact absurd (e1 ▸ Heap.lt_size eo) (Nat.lt_irrefl _)
    · cases hmem
  · show Value.bool _ = Value.bool _
    rw [← all_range, hb, List.size_toArray, List.length_map]
end
mutual
inductive Dp (K : PySem.W.Frag) (H : Hp) : V → PyData → Prop
  | non : Dp K H .non .none
  | bl (b : Bool) : Dp K H (.bl b) (.bool b)
  | int (i : Int) : Dp K H (.int i) (.int i)
  | str (x : Str) : Dp K H (.str x) (.str x)
  | lst {a : Addr} {xs : List V} {ds : List PyData} : SqL K H a xs → DpAll K H xs ds → Dp K H (.ref a) (.list ds)
  | tup {a : Addr} {xs : List V} {ds : List PyData} : SqT K H a xs → DpAll K H xs ds → Dp K H (.ref a) (.tuple ds)
inductive DpAll (K : PySem.W.Frag) (H : Hp) : List V → List PyData → Prop
  | nil : DpAll K H [] []
  | cons {v : V} {vs : List V} {d : PyData} {ds : List PyData} : Dp K H v d → DpAll K H vs ds → DpAll K H (v :: vs) (d :: ds)
end
section
variable {X : Cx} {pins : List (Addr × Obj)} {σ : St} {H : Hp} {s : Shared}
mutual
theorem Dp.reads (I : Inv X pins σ H s) : ∀ (d : PyData) (v : V) (u : Value), Dp X.K H v d → RelV v u → ∃ as, Reads s.heap u d as
  | .none, _, _, h, r => by
    cases h
    cases r
    exact ⟨_, Reads.none⟩
  | .bool b, _, _, h, r => by
    cases h
    cases r
    exact ⟨_, Reads.bool b⟩
  | .int i, _, _, h, r => by
    cases h
    obtain ⟨t, rfl⟩ := r
    exact ⟨_, Reads.int i t⟩
  | .str x, _, _, h, r => by
    cases h
    obtain ⟨t, rfl⟩ := r
    exact ⟨_, Reads.str x t⟩
  | .list ds, _, _, h, r => by
    cases h with
    | lst hs ha =>
      cases r
      obtain ⟨its, rv, ⟨o, n, ho, hc, _, hd⟩, _⟩ := I.list hs
      obtain ⟨as, hr⟩ := Dp.readsAll I ds _ its ha rv
      exact ⟨_, Reads.list ho hc hd hr⟩
  | .tuple ds, _, _, h, r => by
    cases h with
    | tup hs ha =>
      cases r
      obtain ⟨its, rv, ⟨o, ho, hc, n, hd⟩, _⟩ := I.tuple hs
      obtain ⟨as, hr⟩ := Dp.readsAll I ds _ its ha rv
      exact ⟨_, Reads.tuple ho hc hd hr⟩
  | .dict _, _, _, h, _ => by cases h
theorem Dp.readsAll (I : Inv X pins σ H s) : ∀ (ds : List PyData) (vs : List V) (us : List Value), DpAll X.K H vs ds → Vals vs us → ∃ as, ReadsAll s.heap us ds as
  | [], _, _, h, r => by
    cases h
    cases r
    exact ⟨_, ReadsAll.nil⟩
  | d :: ds, _, _, h, r => by
    cases h with
    | cons h1 h2 =>
      cases r with
      | cons r1 r2 =>
        obtain ⟨as, q1⟩ := Dp.reads I d _ _ h1 r1
        obtain ⟨bs, q2⟩ := Dp.readsAll I ds _ _ h2 r2
        exact ⟨_, ReadsAll.cons q1 q2⟩
end
end
section
variable {X : Cx}
end
end L2
namespace L2
open PySem PySem.Spec PyProof.Rows
abbrev CellAt (h : Heap) (c : Addr) (v : Option Value) : Prop := h.IsCell c v
def relS (scope sc : Scope) : Scope :=
  { scope with names := scope.names.map fun (n, k) => if (k == .free && sc.kind == .function && sc.names.lookup n == some .cell) then (n, .cell) else (n, k) }
def cloFrom (cells : List (Str × Addr)) : List (Str × NameKind) → List (Str × Addr) → List (Str × Addr)
  | [], acc => acc
  | (n, k) :: r, acc => if k == .free then cloFrom cells r ((n, (cells.lookup n).getD 0) :: acc) else cloFrom cells r acc
theorem closure_loop (env : Env) (f : Str × NameKind → List (Str × Addr) → Sem (ForInStep (List (Str × Addr))))
    (hf : ∀ n k c, f (n, k) c = if k == .free then (do let a ← cellOf env n; pure (.yield ((n, a) :: c))) else pure (.yield c)) :
    ∀ (names : List (Str × NameKind)) (acc : List (Str × Addr)), (∀ y ∈ names, y.2 = .free → ∃ c, env.cells.lookup y.1 = some c) → forIn names acc f = pure (cloFrom env.cells names acc)
  | [], acc, _ => by rw [List.forIn_nil]; rfl
  | (n, k) :: r, acc, h => by
    rw [List.forIn_cons, hf]
    have ih := fun acc => closure_loop env f hf r acc fun y hy => h y (List.mem_cons_of_mem _ hy)
    unfold cloFrom
    by_cases hk : (k == NameKind.free) = true
    · rw [if_pos hk, if_pos hk]
      obtain ⟨c, hc⟩ := h (n, k) List.mem_cons_self (by simpa using hk)
      have e : cellOf env n = pure c := by unfold cellOf; rw [hc]
      rw [e]
      have e2 : (env.cells.lookup n).getD 0 = c := by rw [hc]; rfl
      rw [e2]
      exact ih _
    · rw [if_neg hk, if_neg hk]
      exact ih _
theorem closure_ok {scope : Scope} {env : Env} (h : ∀ y ∈ scope.names, y.2 = .free → ∃ c, env.cells.lookup y.1 = some c) : closureFor scope env = pure (cloFrom env.cells scope.names []) := by
  simp only [closureFor]
  rw [closure_loop env _ (fun n k c => rfl) scope.names [] h]
  rfl
theorem mem_lookup {α : Type} : ∀ {l : List (Str × α)} {n : Str} {c : α}, (n, c) ∈ l → ∃ c', l.lookup n = some c'
  | (k, v) :: r, n, c, h => by
    rw [List.lookup_cons]
    cases hb : n == k with
    | true => exact ⟨_, rfl⟩
    | false =>
      rcases List.mem_cons.mp h with e | h
      · cases e; simp at hb
      · exact mem_lookup h
theorem cloFrom_mem {cells : List (Str × Addr)} : ∀ {names : List (Str × NameKind)} {acc : List (Str × Addr)} {n : Str} {c : Addr}, (n, c) ∈ cloFrom cells names acc → (n, c) ∈ acc ∨ ((n, .free) ∈ names ∧ c = (cells.lookup n).getD 0)
  | [], _, _, _, h => .inl h
  | (m, k) :: r, acc, n, c, h => by
    unfold cloFrom at h
    split at h
    · rename_i hk
      have hk : k = .free := by simpa using hk
      rcases cloFrom_mem h with h | ⟨h1, h2⟩
      · rcases List.mem_cons.mp h with e | h
        · cases e; exact .inr ⟨hk ▸ List.mem_cons_self, rfl⟩
        · exact .inl h
      · exact .inr ⟨List.mem_cons_of_mem _ h1, h2⟩
    · rcases cloFrom_mem h with h | ⟨h1, h2⟩
      · exact .inl h
      · exact .inr ⟨List.mem_cons_of_mem _ h1, h2⟩
theorem cloFrom_acc {cells : List (Str × Addr)} : ∀ {names : List (Str × NameKind)} {acc : List (Str × Addr)} {p : Str × Addr}, p ∈ acc → p ∈ cloFrom cells names acc
  | [], _, _, h => h
  | (m, k) :: r, acc, p, h => by
    unfold cloFrom
    split
    · exact cloFrom_acc (List.mem_cons_of_mem _ h)
    · exact cloFrom_acc h
theorem cloFrom_has {cells : List (Str × Addr)} : ∀ {names : List (Str × NameKind)} {acc : List (Str × Addr)} {n : Str}, (n, .free) ∈ names → (n, (cells.lookup n).getD 0) ∈ cloFrom cells names acc
  | (m, k) :: r, acc, n, h => by
    unfold cloFrom
    rcases List.mem_cons.mp h with e | h
    · cases e
      exact cloFrom_acc List.mem_cons_self
    · split
      · exact cloFrom_has h
      · exact cloFrom_has h
theorem cells_mem : ∀ {names : List (Str × NameKind)} {h : Heap} {acc : List (Str × Addr)} {x : Str} {c : Addr}, (x, c) ∈ cellsFrom h.objs.size names acc →
    (x, c) ∈ acc ∨ ((x, .cell) ∈ names ∧ h.objs.size ≤ c ∧ CellAt (pushCells h names) c none)
  | [], _, _, _, _, h => .inl h
  | (n, k) :: r, h, acc, x, c, hm => by
    unfold cellsFrom at hm
    unfold pushCells
    split at hm
    · rename_i hk
      rw [if_pos hk]
      have hk : k = .cell := by simpa using hk
      rw [← Heap.size_push h { cls := .type "cell", data := .cell none }] at hm
      rcases cells_mem hm with hm | ⟨h1, h2, h3⟩
      · rcases List.mem_cons.mp hm with e | hm
        · cases e
          exact .inr ⟨hk ▸ List.mem_cons_self, Nat.le_refl _, _, pushCells_keeps r _ _ _ (Heap.get?_push_size _ rfl), rfl⟩
        · exact .inl hm
      · rw [Heap.size_push] at h2
        exact .inr ⟨List.mem_cons_of_mem _ h1, Nat.le_of_succ_le h2, h3⟩
    · rename_i hk
      rw [if_neg hk]
      rcases cells_mem hm with hm | ⟨h1, h2, h3⟩
      · exact .inl hm
      · exact .inr ⟨List.mem_cons_of_mem _ h1, h2, h3⟩
theorem cells_acc : ∀ {names : List (Str × NameKind)} {n : Nat} {acc : List (Str × Addr)} {p : Str × Addr}, p ∈ acc → p ∈ cellsFrom n names acc
  | [], _, _, _, h => h
  | (m, k) :: r, n, acc, p, h => by
    unfold cellsFrom
    split
    · exact cells_acc (List.mem_cons_of_mem _ h)
    · exact cells_acc h
theorem cells_has : ∀ {names : List (Str × NameKind)} {n : Nat} {acc : List (Str × Addr)} {x : Str}, (x, .cell) ∈ names → ∃ c, (x, c) ∈ cellsFrom n names acc
  | (m, k) :: r, n, acc, x, h => by
    unfold cellsFrom
    rcases List.mem_cons.mp h with e | h
    · cases e
      exact ⟨n, cells_acc List.mem_cons_self⟩
    · split
      · exact cells_has h
      · exact cells_has h
theorem cells_inj : ∀ {names : List (Str × NameKind)} {h : Heap} {acc : List (Str × Addr)} {x y : Str} {c : Addr}, (∀ p ∈ acc, p.2 < h.objs.size) → (∀ x y c, (x, c) ∈ acc → (y, c) ∈ acc → x = y) →
    (x, c) ∈ cellsFrom h.objs.size names acc → (y, c) ∈ cellsFrom h.objs.size names acc → x = y
  | [], _, _, _, _, _, _, hi, h1, h2 => hi _ _ _ h1 h2
  | (n, k) :: r, h, acc, x, y, c, hl, hi, h1, h2 => by
    unfold cellsFrom at h1 h2
    split at h1
    · rename_i hk
      rw [if_pos hk] at h2
      rw [← Heap.size_push h { cls := .type "cell", data := .cell none }] at h1 h2
      refine cells_inj (h := h.push _) (fun p hp => ?_) (fun x y c a b => ?_) h1 h2
      · rw [Heap.size_push]
        rcases List.mem_cons.mp hp with rfl | hp
        · exact Nat.lt_succ_self _
        · exact Nat.lt_succ_of_lt (hl p hp)
      · rcases List.mem_cons.mp a with e | a <;> rcases List.mem_cons.mp b with e' | b
        · cases e; cases e'; rfl
        · cases e; exact absurd (hl _ b) (Nat.lt_irrefl _)
        · cases e'; exact absurd (hl _ a) (Nat.lt_irrefl _)
        · exact hi _ _ _ a b
    · rename_i hk
      rw [if_neg hk] at h2
      exact cells_inj hl hi h1 h2
theorem newEnv_comp {M : Model} {A : Around} {E : Value → Shared → Prop} {s : Shared} {scope : Scope} {globals : Addr} {closure : List (Str × Addr)} {qual : Str} {func : Option Addr} {code : Value} {around : Env} {builtins : Addr} {Q : Env → Shared → Prop}
    (h : Q (newEnv scope s.heap.objs.size globals (cellsFrom (s.heap.objs.size + 1) scope.names closure) qual func code (some around) builtins)
      { s with heap := pushCells (s.heap.push { cls := .type "dict", data := .dict #[] }) scope.names }) :
    wpAny M A (newFunctionEnv scope globals closure [] qual func code (some around) builtins) Q E s := by
  simp only [newFunctionEnv, Option.isSome_some, if_true]
  refine wpAny_bind (wpAny_alloc ?_)
  refine wpAny_bind (wpAny_layCells _ (fun n k c => rfl) scope.names closure _ _ ?_)
  rw [show ({ s with heap := s.heap.push { cls := .type "dict", data := .dict #[] } } : Shared).heap.objs.size = s.heap.objs.size + 1 from Heap.size_push ..]
  rw [List.forIn_nil]
  exact wpAny_bind (wpAny_pure (wpAny_pure h))
theorem lookup_relS {sc : Scope} : ∀ {names : List (Str × NameKind)} {x : Str} {k : NameKind},
    (names.map fun (n, k) => if (k == NameKind.free && sc.kind == .function && sc.names.lookup n == some .cell) then (n, NameKind.cell) else (n, k)).lookup x = some k →
    ∃ k', names.lookup x = some k' ∧ (k = k' ∨ (k' = .free ∧ k = .cell))
  | [], _, _, h => by simp at h
  | (n, k₀) :: r, x, k, h => by
    have ih := @lookup_relS sc r x k
    have h' : List.lookup x ((if (k₀ == NameKind.free && sc.kind == .function && sc.names.lookup n == some .cell) = true then (n, NameKind.cell) else (n, k₀)) :: (r.map _)) = some k := h
    cases hx : x == n with
    | true =>
      simp only [List.lookup_cons, hx]
      by_cases hc : (k₀ == NameKind.free && sc.kind == .function && sc.names.lookup n == some .cell) = true
      · rw [if_pos hc] at h'
        simp only [List.lookup_cons, hx] at h'
        cases h'
        simp only [Bool.and_eq_true, beq_iff_eq] at hc
        exact ⟨k₀, rfl, .inr ⟨hc.1.1, rfl⟩⟩
      · rw [if_neg hc] at h'
        simp only [List.lookup_cons, hx] at h'
        cases h'
        exact ⟨_, rfl, .inl rfl⟩
    | false =>
      simp only [List.lookup_cons, hx]
      by_cases hc : (k₀ == NameKind.free && sc.kind == .function && sc.names.lookup n == some .cell) = true
      · rw [if_pos hc] at h'
        simp only [List.lookup_cons, hx] at h'
        exact ih h'
      · rw [if_neg hc] at h'
        simp only [List.lookup_cons, hx] at h'
        exact ih h'
structure BlkOk (N : List Str) (sc scope : Scope) (own : List (Str × Nat)) : Prop where
  kind : scope.kind = .function
  uniq : ∀ y ∈ scope.names, scope.names.lookup y.1 = some y.2
  ix : ∀ p ∈ own, N[p.2]? = some p.1
  free : ∀ y ∈ scope.names, y.2 = .free → sc.names.lookup y.1 = some .cell ∨ sc.names.lookup y.1 = some .free
  own : ∀ y ∈ scope.names, y.2 = .local ∨ y.2 = .cell → y.1 ∈ own.map (·.1) ∨ y.1 ∉ N
def wipe (σ : St) : List Nat → St
  | [] => σ
  | v :: vs => (wipe σ vs).set v none
theorem wipe_length (σ : St) : ∀ vs : List Nat, (wipe σ vs).length = σ.length
  | [] => rfl
  | v :: vs => by unfold wipe; rw [List.length_set, wipe_length σ vs]
theorem wipe_some {σ : St} {i : Nat} {x : V} : ∀ {vs : List Nat}, (wipe σ vs)[i]? = some (some x) → σ[i]? = some (some x) ∧ i ∉ vs
  | [], h => ⟨h, by simp⟩
  | v :: vs, h => by
    unfold wipe at h
    by_cases hi : v = i
    · subst hi
      by_cases hv : v < (wipe σ vs).length
      · rw [List.getElem?_set_self hv] at h; cases h
      · rw [List.getElem?_eq_none (by simpa using hv)] at h; cases h
    · rw [List.getElem?_set_ne hi] at h
      obtain ⟨h1, h2⟩ := wipe_some h
      exact ⟨h1, by simp only [List.mem_cons, not_or]; exact ⟨fun e => hi e.symm, h2⟩⟩
abbrev Cx.blk (X : Cx) (s : Shared) (H : Hp) (scope : Scope) (cenv : Env) (fp : List Addr) : Cx := { X with s_0 := s, H_0 := H, env := cenv, outer := X.stack, ex := fp, fn := fun x => scope.names.lookup x == some .cell, pn := [], xe := fun _ _ => False }
section
variable {X : Cx} {pins : List (Addr × Obj)} {σ : St} {H : Hp} {s : Shared}
theorem block_start {scope : Scope} {own : List (Str × Nat)} {fp : List Addr} (I : Inv X pins σ H s) (ok : BlkOk X.N X.env.scope scope own) (hN : X.N.Nodup) (hfp : ∀ b ∈ fp, FpOk X pins H b ∧ b < s.heap.objs.size) :
    Inv (X.blk s H scope (compEnvC scope (cellsFrom (s.heap.objs.size + 1) scope.names (cloFrom X.env.cells scope.names [])) s.heap.objs.size X.env) fp) [] (wipe σ (own.map (·.2))) H { s with heap := pushCells (s.heap.push { cls := .type "dict", data := .dict #[] }) scope.names } := by
  have hfree : ∀ y ∈ scope.names, y.2 = .free → ∃ c, X.env.cells.lookup y.1 = some c := fun y hy e => by
    rcases ok.free y hy e with k | k
    · exact I.ok.has _ (.inl k)
    · exact I.ok.has _ (.inr k)
  generalize hcenv : compEnvC scope (cellsFrom (s.heap.objs.size + 1) scope.names (cloFrom X.env.cells scope.names [])) s.heap.objs.size X.env = cenv
  have kp : ∀ b o, s.heap.get? b = some o → (pushCells (s.heap.push { cls := .type "dict", data := .dict #[] }) scope.names).get? b = some o := fun b o e => pushCells_keeps _ _ _ _ (Heap.get?_push_of_some _ e)
  have hL : cenv.locals = s.heap.objs.size := by rw [← hcenv]; rfl
  have hcl : cenv.cells = cellsFrom (s.heap.objs.size + 1) scope.names (cloFrom X.env.cells scope.names []) := by rw [← hcenv]; rfl
  have hsc : cenv.scope = relS scope X.env.scope := by rw [← hcenv]; rfl
  rw [← Heap.size_push s.heap { cls := .type "dict", data := .dict #[] }] at hcl
  have cm : ∀ {y c}, (y, c) ∈ cloFrom X.env.cells scope.names [] → X.env.cells.lookup y = some c ∧ c < s.heap.objs.size := fun {y c} hm => by
    rcases cloFrom_mem hm with hm | ⟨h1, rfl⟩
    · cases hm
    · obtain ⟨c, hc⟩ := hfree _ h1 rfl
      rw [hc]
      obtain ⟨w, z⟩ := I.cell _ _ hc
      exact ⟨rfl, z.lt⟩
  have mem : ∀ {y c}, cenv.cells.lookup y = some c → (X.env.cells.lookup y = some c ∧ c < s.heap.objs.size) ∨ (s.heap.objs.size + 1 ≤ c ∧ CellAt (pushCells (s.heap.push { cls := .type "dict", data := .dict #[] }) scope.names) c none) := fun {y c} e => by
    rw [hcl] at e
    rcases cells_mem (PySem.mem_of_lookup e) with hm | ⟨_, h2, h3⟩
    · exact .inl (cm hm)
    · rw [Heap.size_push] at h2; exact .inr ⟨h2, h3⟩
  have look : ∀ {y}, scope.names.lookup y = some .free → ∃ c, cenv.cells.lookup y = some c ∧ X.env.cells.lookup y = some c := fun {y} hl => by
    have hy : (y, NameKind.free) ∈ scope.names := PySem.mem_of_lookup hl
    obtain ⟨c', e'⟩ := mem_lookup (cells_acc (names := scope.names) (n := (s.heap.push { cls := .type "dict", data := .dict #[] }).objs.size) (cloFrom_has (cells := X.env.cells) (acc := []) hy))
    rw [← hcl] at e'
    refine ⟨c', e', ?_⟩
    rw [hcl] at e'
    rcases cells_mem (PySem.mem_of_lookup e') with hm | ⟨h1, _, _⟩
    · exact (cm hm).1
    · have := ok.uniq _ h1
      rw [hl] at this; cases this
  have okB : (X.blk s H scope cenv fp).Ok := by
    refine ⟨I.ok.mod, by show cenv.scope.kind = _; rw [hsc]; exact ok.kind, by show cenv.globals = _; rw [← hcenv]; exact I.ok.glob, by show cenv.builtins = _; rw [← hcenv]; exact I.ok.blt, by show s.heap.objs.size ≤ cenv.locals; rw [hL]; exact Nat.le_refl _,
      fun y z c e1 e2 => ?_, fun y hy => ?_, fun y c z e => ?_, I.ok.hd, I.ok.frames, .inl rfl, fun b hb => ⟨?_, fun y c e z => ?_⟩, I.bs, Nat.le_trans I.ok.bsz I.sz, fun b o e hb => ?_, fun b hb z => ?_, I.stack, I.stkFree⟩
    · have e1 : cenv.cells.lookup y = some c := e1
      have e2 : cenv.cells.lookup z = some c := e2
      rw [hcl] at e1 e2
      refine cells_inj (fun p hp => ?_) (fun y z c a b => I.ok.inj y z c (cm a).1 (cm b).1) (PySem.mem_of_lookup e1) (PySem.mem_of_lookup e2)
      rw [Heap.size_push]
      exact Nat.lt_succ_of_lt (cm (y := p.1) (c := p.2) hp).2
    · show ∃ c, cenv.cells.lookup y = some c
      have key : ∀ k, cenv.kindOf y = some k → (k = .cell ∨ k = .free) → ∃ c, cenv.cells.lookup y = some c := fun k hk hk' => by
        unfold Env.kindOf at hk
        rw [hsc] at hk
        obtain ⟨k', e, r⟩ := lookup_relS hk
        have : k' = .cell ∨ k' = .free := by
          rcases r with rfl | ⟨rfl, _⟩
          · exact hk'
          · exact .inr rfl
        rcases this with rfl | rfl
        · obtain ⟨c, hm⟩ := cells_has (n := (s.heap.push { cls := .type "dict", data := .dict #[] }).objs.size) (acc := cloFrom X.env.cells scope.names []) (PySem.mem_of_lookup e)
          obtain ⟨c', e'⟩ := mem_lookup hm
          exact ⟨c', by rw [hcl]; exact e'⟩
        · obtain ⟨c, h1, _⟩ := look e
          exact ⟨c, h1⟩
      rcases hy with hy | hy
      · exact key _ hy (.inl rfl)
      · exact key _ hy (.inr rfl)
    · have z : (scope.names.lookup y == some NameKind.cell) = true := z
      have z : scope.names.lookup y = some .cell := by simpa using z
      have e : cenv.cells.lookup y = some c := e
      rw [hcl] at e
      rcases cells_mem (PySem.mem_of_lookup e) with hm | ⟨_, h2, _⟩
      · rcases cloFrom_mem hm with hm | ⟨h1, _⟩
        · cases hm
        · have q := ok.uniq _ h1
          rw [z] at q; cases q
      · rw [Heap.size_push] at h2
        exact Nat.le_of_succ_le h2
    · show b ≠ cenv.locals
      rw [hL]; exact Nat.ne_of_lt (hfp b hb).2
    · have e : cenv.cells.lookup y = some c := e
      rcases mem e with ⟨h1, _⟩ | ⟨h1, _⟩
      · exact (hfp b hb).1.2.2.2.2.1 y c h1 z
      · have h2 : s.heap.objs.size + 1 ≤ b := by rw [← z]; exact h1
        exact absurd (Nat.lt_of_lt_of_le (hfp b hb).2 (Nat.le_of_succ_le h2)) (Nat.lt_irrefl _)
    · rcases (hfp b hb).1.2.2.2.1 with z | z
      · exact I.ok.noex b o e z
      · exact absurd (Nat.lt_of_lt_of_le (Heap.lt_size e) (Nat.le_trans I.ok.bsz z)) (Nat.lt_irrefl _)
    · rcases List.mem_cons.mp (I.stkSub b z) with z | z
      · exact (hfp b hb).1.2.1 z
      · exact (hfp b hb).1.2.2.1 z
  refine ⟨okB, rfl, I.bare, Un.kept kp, ⟨fun _ => none, ?_, fun i y av e1 e2 e3 => ?_⟩, fun y c e => ?_, ?_, fun y c e => ?_, fun p hp => ?_, I.hok.kept kp, by rw [wipe_length]; exact I.len⟩
  · show Heap.Ns _ cenv.locals _
    rw [hL]
    exact Heap.Ns.keeps (Heap.Ns.new ..) fun b o e => pushCells_keeps _ _ _ _ e
  · obtain ⟨e2, hne⟩ := wipe_some e2
    have hfr : scope.names.lookup y = some .free ∧ (cenv.kindOf y = some .cell ∨ cenv.kindOf y = some .free) := by
      have key : ∀ k, cenv.scope.names.lookup y = some k → k = .local ∨ k = .cell ∨ k = .free → scope.names.lookup y = some .free ∧ (cenv.kindOf y = some .cell ∨ cenv.kindOf y = some .free) := fun k hk hk' => by
        have hk0 := hk
        rw [hsc] at hk
        obtain ⟨k', e, r⟩ := lookup_relS hk
        have no : ¬ (k' = .local ∨ k' = .cell) := fun hh => by
          rcases ok.own _ (PySem.mem_of_lookup e) hh with e' | e'
          · obtain ⟨p, hp, hpy⟩ := List.mem_map.mp e'
            have e3 := ok.ix p hp
            have : p.1 = y := hpy
            rw [this] at e3
            exact hne (List.mem_map.mpr ⟨p, hp, nodup_ix hN e3 e1⟩)
          · exact e' (List.mem_of_getElem? e1)
        rcases r with rfl | ⟨rfl, rfl⟩
        · rcases hk' with rfl | rfl | rfl
          · exact absurd (.inl rfl) no
          · exact absurd (.inr rfl) no
          · exact ⟨e, .inr hk0⟩
        · exact ⟨e, .inl hk0⟩
      have e3 : Vis cenv.scope y := e3
      rcases e3 with e3 | e3 | e3
      · exact key _ e3 (.inl rfl)
      · exact key _ e3 (.inr (.inl rfl))
      · exact key _ e3 (.inr (.inr rfl))
    obtain ⟨m, hn, hl⟩ := I.loc
    have hvis : Vis X.env.scope y := (ok.free _ (PySem.mem_of_lookup hfr.1) rfl).elim (fun k => .inr (.inl k)) (fun k => .inr (.inr k))
    obtain ⟨w, r, q⟩ := hl i y av e1 e2 hvis
    refine ⟨w, r, .inr ⟨hfr.2, ?_⟩⟩
    obtain ⟨c, h1, h2⟩ := look hfr.1
    rcases q with ⟨k, _⟩ | ⟨_, c', e', z⟩
    · have k : X.env.scope.names.lookup y = some .local := k
      rcases ok.free _ (PySem.mem_of_lookup hfr.1) rfl with k' | k' <;> rw [show X.env.scope.names.lookup y = _ from k'] at k <;> cases k
    · rw [h2] at e'; cases e'
      exact ⟨c, h1, z.keeps kp⟩
  · have e : cenv.cells.lookup y = some c := e
    rcases mem e with ⟨h1, _⟩ | ⟨_, z⟩
    · obtain ⟨w, z⟩ := I.cell y c h1
      exact ⟨w, z.keeps kp⟩
    · exact ⟨_, z⟩
  · show H cenv.locals = none
    rw [hL]; exact I.hok.fresh (Nat.le_refl _)
  · have e : cenv.cells.lookup y = some c := e
    rcases mem e with ⟨h1, _⟩ | ⟨h1, _⟩
    · exact I.freeC y c h1
    · exact I.hok.fresh (Nat.le_of_succ_le h1)
  · exact absurd (show p ∈ ([] : List (Addr × Obj)) ++ [] from hp) (by simp)
theorem app_ok {E : Value → Shared → Prop} {D : Addr} {xs : List V} {y : V} {v : Value} {Q : Value → Shared → Prop} (I : Inv X pins σ H s) (hD : H D = some (.lst xs)) (hz : xs.length < sizeLine) (r : RelV y v)
    (h : ∀ s', Inv X pins σ (upd H D (.lst (xs ++ [y]))) s' → Q .none s') : wpAny (model X.prog X.w) X.A (call (.builtin "list.append") [.ref D, v]) Q E s := by
  obtain ⟨hz', its, n, ri, e⟩ := I.hok D _ hD
  have hl := ri.length
  refine append_at (hsz := by rw [List.size_toArray]; omega) e fun h' sb ho' => ?_
  refine h { s with heap := h' } (I.write (t' := s.toks) (by rw [hD]; trivial) (.inl rfl) (fun b u hb q => (sb.2 b hb).trans q) ⟨_, ho'⟩ ⟨by rw [List.length_append]; exact hz, its ++ [v], n + 1, ri.append (.cons r .nil), ?_⟩)
  rw [ho']
  simp
def PTs (X : Cx) (ifs : List Expr) (t : TT) : Prop :=
  ∀ (pins : List (Addr × Obj)) (s : Shared) (σ : St) (H : Hp) (Q : Bool → Hp → Prop), Inv X pins σ H s → t σ H Q →
    wpAny (model X.prog X.w) X.A (forIn ifs true fun c r => if r = true then do let ok ← isTrue c X.env (eval c X.env); pure (ForInStep.yield ok) else pure (ForInStep.yield r)) (TP X pins σ Q) X.xe s
def tYes : TT := fun _ H Q => Q true H
theorem pts_nil : PTs X [] tYes := fun _ _ _ H _ I h => wpAny_tests_nil ⟨H, I, h⟩
theorem pts_one {c : Expr} {t : TT} (h : PT X c t) : PTs X [c] t := fun pins s σ H Q I hw => wpAny_tests_one (h pins s σ H Q I hw)
end
theorem thnF {α : Type} {t : Sem α} {Q Q' : α → Shared → Prop} {M : Model} {A : Around} {E : Value → Shared → Prop} {s : Shared} (h : wpAny M A t Q (fun _ _ => False) s) (hQ : ∀ a s, Q a s → Q' a s) : wpAny M A t Q' E s := wpAny_mono h hQ fun _ _ z => False.elim z
theorem compLoop_any {prog : Program} {w : World} {A : Around} {R : Result → Shared → Prop} {s : Shared} {elt target iter : Expr} {ifs : List Expr} {scope : Scope} {pos : Pos} {it acc : Value} {env : Env} (I : Nat → Shared → Prop)
    (turn : ∀ n s, I n s → wpAny (model prog w) A (pyNext it) (fun r s₁ => match r with
      | none => R (.ok .next) s₁
      | some v => wpAny (model prog w) A (letOwnedTupleGo target it v) (fun _ s₁' => wpAny (model prog w) A (assign target env v) (fun _ s₂ =>
          wpAny (model prog w) A (forIn ifs true fun c r => if r = true then do let ok ← isTrue c env (eval c env); pure (ForInStep.yield ok) else pure (ForInStep.yield r)) (fun ok s₃ =>
            if ok = true then wpAny (model prog w) A (eval elt env) (fun x s₄ =>
              wpAny (model prog w) A (call (.builtin "list.append") [acc, x]) (fun _ s₅ => ∃ m, m < n ∧ I m s₅) (notedBy (model prog w) A env fun e s' => R (.error e) s') s₄) (notedBy (model prog w) A env fun e s' => R (.error e) s') s₃
            else ∃ m, m < n ∧ I m s₃) (notedBy (model prog w) A env fun e s' => R (.error e) s') s₂) (notedBy (model prog w) A env fun e s' => R (.error e) s') s₁') (notedBy (model prog w) A env fun e s' => R (.error e) s') s₁) (notedBy (model prog w) A env fun e s' => R (.error e) s') s)
    (n : Nat) (h : I n s) :
    codeAny (model prog w) A (.compLoop (.ListComp elt [⟨target, iter, ifs, 0⟩] scope pos) 0 it acc env) R s := by
  refine codeAny_loop rfl I (fun n s hI => ?_) n h
  show wpAny _ A ((compTurn (.ListComp elt [⟨target, iter, ifs, 0⟩] scope pos) 0 it acc env).onRaise (fun x => do noteFrame x env; theTreesLotGoes x)) _ _ s
  refine wpAny_noted ?_
  rw [compTurn_list]
  refine wpAny_bind (wpAny_standAt (wpAny_bind (wpAny_mono (turn n s hI) (fun r s₁ h₁ => ?_) fun _ _ h' => h')))
  cases r with
  | none => exact wpAny_pure h₁
  | some v =>
    refine wpAny_bind (wpAny_mono h₁ (fun _ s₁' h₁' => ?_) fun _ _ h' => h')
    refine wpAny_bind (wpAny_mono h₁' (fun _ s₂ h₂ => wpAny_bind (wpAny_mono h₂ (fun ok s₃ h₃ => ?_) fun _ _ h' => h')) fun _ _ h' => h')
    cases ok with
    | false => exact wpAny_pure ⟨rfl, h₃⟩
    | true =>
      exact wpAny_bind (wpAny_bind (wpAny_mono h₃ (fun x s₄ h₄ => wpAny_bind (wpAny_mono h₄ (fun _ s₅ h₅ => wpAny_pure (wpAny_pure ⟨rfl, h₅⟩)) fun _ _ h' => h')) fun _ _ h' => h'))
section
variable {X : Cx}
def tLc (wi : TI) (g : TG) (tt : TT) (te : TE) (vs : List Nat) : TE := fun σ H Q => wi σ H fun J H1 => ∀ D, H1 D = none → ∃ W : Nat → Nat → Hp → Prop, (∃ m, W 0 m (upd H1 D (.lst []))) ∧ ∀ i m H, W i m H →
  (J.stop i H ∧ Q (.ref D) H) ∨ (J.go i H ∧ ∃ Nx : Hp → Prop, (∀ H', Nx H' → ∃ m', m' < m ∧ W (i + 1) m' H') ∧ ∀ x H', J.yld i H x H' → g x (wipe σ vs) H' fun σ2 H2 => wipe σ2 vs = wipe σ vs ∧ tt σ2 H2 fun b H3 =>
    if b = true then te σ2 H3 fun y H4 => ∃ acc, H4 D = some (.lst acc) ∧ acc.length < sizeLine ∧ Nx (upd H4 D (.lst (acc ++ [y]))) else Nx H3)
theorem lc_core {pins : List (Addr × Obj)} {s : Shared} {σ : St} {H : Hp} {Q : VK} {elt tg iter : Expr} {ifs : List Expr} {scope : Scope} {own : List (Str × Nat)} {pos pos' : Pos} {wi : TI} {g : TG} {tt : TT} {te : TE} {use : Option (Value → Sem Unit)} {Qf : Value → Shared → Prop}
    (hc : X.calm = true) (hN : X.N.Nodup) (I : Inv X pins σ H s) (hi : PI X tg iter wi) (ok : BlkOk X.N X.env.scope scope own)
    (hg : ∀ (s : Shared) (H : Hp) (C : Addr) (cl : List (Str × Addr)) (fp : List Addr), PG (X.blk s H scope (compEnvC scope cl C X.env) fp) tg g) (ht : ∀ (s : Shared) (H : Hp) (C : Addr) (cl : List (Str × Addr)) (fp : List Addr), PTs (X.blk s H scope (compEnvC scope cl C X.env) fp) ifs tt)
    (he : ∀ (s : Shared) (H : Hp) (C : Addr) (cl : List (Str × Addr)) (fp : List Addr), PE (X.blk s H scope (compEnvC scope cl C X.env) fp) elt te) (hs : ∀ x, foldedSetIterable iter X.env x = pure x)
    (h : tLc wi g tt te (own.map (·.2)) σ H Q)
    (hRR : ∀ D C s' m H', Inv X pins σ H' s' → Q (.ref D) H' → s'.heap.Ns C m → FpOk X pins H' C → compPost (model X.prog X.w) X.A X.xe use Qf (.ref D) C (.ok .next) s') :
    wpAny (model X.prog X.w) X.A (comprehension (.ListComp elt [⟨tg, iter, ifs, 0⟩] scope pos) scope X.env pos' (newList []) false (eval iter X.env) use) Qf X.xe s := by
  have hfree : ∀ y ∈ scope.names, y.2 = .free → ∃ c, X.env.cells.lookup y.1 = some c := fun y hy e => by
    rcases ok.free y hy e with k | k
    · exact I.ok.has _ (.inl k)
    · exact I.ok.has _ (.inr k)
  refine wpAny_comprehension_free (use := use) rfl hs (closure_ok hfree) ok.kind (fun y hy e => by rw [ok.uniq y hy, e])
    (thn (hi pins s σ H _ I h) fun xv s1 hx => thn hx fun itv s2 h2 => ?_)
  obtain ⟨it, fp, tn, J, H2, e, I2, T, st2, f2, q⟩ := h2
  subst e
  refine wpAny_newObj_type (newEnv_comp ?_) (by show 0 ≤ sizeLine; decide)
  generalize hD : s2.heap.objs.size = D
  have hDn : H2 D = none := I2.hok.fresh (Nat.le_of_eq hD)
  obtain ⟨W, ⟨m0, w0⟩, turn⟩ := q D hDn
  -- the new list
  generalize hs3 : ({ s2 with heap := s2.heap.push { cls := .type "list", data := .seq ([] : List Value).toArray } } : Shared) = s3
  have I3 : Inv X pins σ (upd H2 D (.lst [])) s3 := by
    rw [← hs3]
    refine I2.laid (t' := s2.toks) (fun b o e => Heap.get?_push_of_some _ e) (Nat.le_of_eq hD) ⟨Nat.zero_le _, [], 0, .nil, ?_⟩
    rw [← hD]
    exact Heap.get?_push_size _ rfl
  have h3 : s3.heap = s2.heap.push { cls := .type "list", data := .seq ([] : List Value).toArray } := by rw [← hs3]
  have sz : ∀ b ∈ fp, b < s2.heap.objs.size := fun b hb => by
    obtain ⟨o, e, _⟩ := T.obj _ _ st2 b hb
    exact Heap.lt_size e
  have f3 : ∀ b ∈ fp, FpOk X pins (upd H2 D (.lst [])) b ∧ b < s3.heap.objs.size := fun b hb => by
    have hlt := sz b hb
    refine ⟨⟨?_, (f2 b hb).2⟩, by rw [h3, Heap.size_push]; exact Nat.lt_succ_of_lt hlt⟩
    rw [upd_ne (by rw [← hD]; exact Nat.ne_of_lt hlt)]
    exact (f2 b hb).1
  have st3 : tn 0 s3.heap := T.keep _ _ _ st2 fun b _ o e => by rw [h3]; exact Heap.get?_push_of_some _ e
  have I4 := block_start I3 ok hN f3
  have pg := hg s3 (upd H2 D (.lst [])) s3.heap.objs.size (cellsFrom (s3.heap.objs.size + 1) scope.names (cloFrom X.env.cells scope.names [])) fp
  have pt := ht s3 (upd H2 D (.lst [])) s3.heap.objs.size (cellsFrom (s3.heap.objs.size + 1) scope.names (cloFrom X.env.cells scope.names [])) fp
  have pe := he s3 (upd H2 D (.lst [])) s3.heap.objs.size (cellsFrom (s3.heap.objs.size + 1) scope.names (cloFrom X.env.cells scope.names [])) fp
  show codeAny _ _ (.compStart (.ListComp elt [⟨tg, iter, ifs, 0⟩] scope pos) 0 (.ref it) (.ref D) (compEnvC scope (cellsFrom (s3.heap.objs.size + 1) scope.names (cloFrom X.env.cells scope.names [])) s3.heap.objs.size X.env)) (compPost (model X.prog X.w) X.A X.xe use Qf (.ref D) s3.heap.objs.size) { s3 with heap := pushCells (s3.heap.push { cls := .type "dict", data := .dict #[] }) scope.names }
  have nfp : ∀ b ∈ fp, (upd H2 D (.lst [])) b = none := fun b hb => (f3 b hb).1.1
  generalize hce : compEnvC scope (cellsFrom (s3.heap.objs.size + 1) scope.names (cloFrom X.env.cells scope.names [])) s3.heap.objs.size X.env = ce at I4 pg pt pe ⊢
  have cL : ce.locals = s3.heap.objs.size := by subst hce; rfl
  generalize hH3 : upd H2 D (.lst []) = H3 at I3 I4 pg pt pe w0 nfp f3
  generalize hs4 : ({ s3 with heap := pushCells (s3.heap.push { cls := .type "dict", data := .dict #[] }) scope.names } : Shared) = s4 at I4 ⊢
  have st4 : tn 0 s4.heap := T.keep _ _ _ st3 fun b _ o e => by rw [← hs4]; exact pushCells_keeps _ _ _ _ (Heap.get?_push_of_some _ e)
  have stat : ∀ {σ' : St} {H' : Hp} {s' : Shared}, Inv (X.blk s3 H3 scope ce fp) [] σ' H' s' → (∀ b ∈ fp, H' b = none) → ∀ b ∈ fp, FpOk (X.blk s3 H3 scope ce fp) [] H' b := fun {σ' H' s'} I' hn b hb =>
    ⟨hn b hb, (I'.ok.exf b hb).1, I'.ok.exfs b hb, .inl hb, fun x c e => (I'.ok.exf b hb).2 x c e, fun p hp => absurd (show p ∈ ([] : List (Addr × Obj)) ++ [] from hp) (by simp)⟩
  have loop : codeAny (model X.prog X.w) X.A (.compLoop (.ListComp elt [⟨tg, iter, ifs, 0⟩] scope pos) 0 (.ref it) (.ref D) ce) (compPost (model X.prog X.w) X.A X.xe use Qf (.ref D) s3.heap.objs.size) s4 := by
    refine compLoop_any (fun n s' => ∃ i H', Inv (X.blk s3 H3 scope ce fp) [] (wipe σ (own.map (·.2))) H' s' ∧ tn i s'.heap ∧ (∀ b ∈ fp, H' b = none) ∧ W i n H') ?_ m0 ⟨0, H3, I4, st4, nfp, w0⟩
    rintro n s5 ⟨i, H5, I5, st5, n5, w5⟩
    rcases turn i n H5 w5 with ⟨stop, qq⟩ | ⟨go, Nx, hNx, step⟩
    · have td := T.done (X.blk s3 H3 scope ce fp) rfl rfl rfl hc i [] s5 _ H5 (fun _ _ => False) I5 (stat I5 n5) st5 stop
      refine thnF td fun r s6 ⟨hr, I6⟩ => ?_
      subst hr
      -- back in the def's context
      have I7 : Inv X pins σ H5 s6 := I3.call' (ch := fp) I6.os I6.base I6.hok I6.bare fun b hb => ⟨(f3 b hb).1.2.2.2.1, (f3 b hb).1.2.1, (f3 b hb).1.2.2.2.2.1, (f3 b hb).1.2.2.2.2.2⟩
      have nC : H5 s3.heap.objs.size = none := by
        have z : H5 ce.locals = none := I6.free
        rw [cL] at z
        exact z
      obtain ⟨m, hn, _⟩ := I6.loc
      have hn : s6.heap.Ns ce.locals m := hn
      rw [cL] at hn
      exact hRR D s3.heap.objs.size s6 m H5 I7 qq hn (I3.fpOk (Nat.le_refl _) nC)
    · have ti := T.item (X.blk s3 H3 scope ce fp) rfl rfl rfl hc i [] s5 _ H5 (fun _ _ => False) I5 (stat I5 n5) st5 go
      refine thnF ti fun r s6 ⟨u, hr, h6⟩ => ?_
      subst hr
      refine thnF h6 fun _ s7 ⟨x, H7, I7, r7, y7, st7, n7⟩ => ?_
      have I7' := I7.pinned (stat I7 n7) (T.obj _ _ st7)
      refine thnF (pg _ s7 _ H7 x u _ I7' r7 (step x H7 y7)) fun _ s8 ⟨σ8, H8, I8, hw8, q8⟩ => ?_
      refine thnF (pt _ s8 σ8 H8 _ I8 q8) fun b s9 ⟨H9, I9, q9⟩ => ?_
      -- the turn's end
      have fin : ∀ {s' : Shared} {H' : Hp}, Inv (X.blk s3 H3 scope ce fp) ([] ++ pinsAt fp s7.heap) σ8 H' s' → Nx H' → ∃ m, m < n ∧ ∃ i H', Inv (X.blk s3 H3 scope ce fp) [] (wipe σ (own.map (·.2))) H' s' ∧ tn i s'.heap ∧ (∀ b ∈ fp, H' b = none) ∧ W i m H' := fun {s' H'} I' nx => by
        obtain ⟨m', hm, w'⟩ := hNx H' nx
        have pin' : ∀ b ∈ fp, ∀ o, s7.heap.get? b = some o → s'.heap.get? b = some o ∧ H' b = none := fun b hb o e =>
          let z := I'.pin (b, o) (List.mem_append_right _ (List.mem_append_right _ (mem_pinsAt hb e)))
          ⟨z.1, z.2.1⟩
        have hl : (wipe σ (own.map (·.2))).length = σ8.length := by rw [← hw8, wipe_length]
        refine ⟨m', hm, i + 1, H', (I'.unpinned (pins := [])).weak hl (fun j v e => ?_), T.keep _ _ _ st7 fun b hb o e => (pin' b hb o e).1, fun b hb => ?_, w'⟩
        · rw [← hw8] at e
          exact (wipe_some e).1
        · obtain ⟨o, e, _⟩ := T.obj _ _ st7 b hb
          exact (pin' b hb o e).2
      cases b with
      | false =>
        simp only [Bool.false_eq_true, if_false] at q9 ⊢
        exact fin I9 q9
      | true =>
        simp only [if_true] at q9 ⊢
        refine thnF (pe _ s9 σ8 H9 _ I9 q9) fun z s10 ⟨yv, H10, I10, r10, acc, hD10, hz10, nx⟩ => ?_
        exact app_ok (X := X.blk s3 H3 scope ce fp) I10 hD10 hz10 r10 fun s11 I11 => fin I11 nx
  exact codeAny_compStart_list loop (T.self X.A 0 _ _ _ st4 loop)
theorem pe_lc {elt tg iter : Expr} {ifs : List Expr} {scope : Scope} {own : List (Str × Nat)} {pos : Pos} {wi : TI} {g : TG} {tt : TT} {te : TE} (hc : X.calm = true) (hN : X.N.Nodup) (hi : PI X tg iter wi) (ok : BlkOk X.N X.env.scope scope own)
    (hg : ∀ (s : Shared) (H : Hp) (C : Addr) (cl : List (Str × Addr)) (fp : List Addr), PG (X.blk s H scope (compEnvC scope cl C X.env) fp) tg g) (ht : ∀ (s : Shared) (H : Hp) (C : Addr) (cl : List (Str × Addr)) (fp : List Addr), PTs (X.blk s H scope (compEnvC scope cl C X.env) fp) ifs tt)
    (he : ∀ (s : Shared) (H : Hp) (C : Addr) (cl : List (Str × Addr)) (fp : List Addr), PE (X.blk s H scope (compEnvC scope cl C X.env) fp) elt te) (hs : ∀ x, foldedSetIterable iter X.env x = pure x := by intro _; rfl) :
    PE X (.ListComp elt [⟨tg, iter, ifs, 0⟩] scope pos) (tLc wi g tt te (own.map (·.2))) := by
  intro pins s σ H Q I h
  rw [eval_ListComp]
  refine lc_core hc hN I hi ok hg ht he hs h fun D C s' m H' I' q hn f => ⟨m, hn, fun h'' sb => ?_⟩
  obtain ⟨f0, f1, f2, f3, f4, f5⟩ := f
  exact ⟨.ref D, H', I'.turned (t' := s'.toks) (fun b o hb e => (sb.2 b hb).trans e) f0 f1 f3 f4 f5, rfl, q⟩
end
theorem lc_list {K : PySem.W.Frag} {a : Addr} {xs : List V} {g : TG} {tt : TT} {te : TE} {vs : List Nat} {σ : St} {H1 : Hp} {D : Addr} {Qd : Hp → Prop} (Pv : Nat → Hp → Prop) (h0 : Pv 0 (upd H1 D (.lst []))) (hl : ∀ i H, i ≤ xs.length → Pv i H → SqL K H a xs)
    (hs : ∀ i x H, xs[i]? = some x → Pv i H → g x (wipe σ vs) H fun σ2 H2 => wipe σ2 vs = wipe σ vs ∧ tt σ2 H2 fun b H3 =>
      if b = true then te σ2 H3 fun y H4 => ∃ acc, H4 D = some (.lst acc) ∧ acc.length < sizeLine ∧ Pv (i + 1) (upd H4 D (.lst (acc ++ [y]))) else Pv (i + 1) H3) (hd : ∀ H, Pv xs.length H → Qd H) :
    ∃ W : Nat → Nat → Hp → Prop, (∃ m, W 0 m (upd H1 D (.lst []))) ∧ ∀ i m H, W i m H →
      ((Itl K a).stop i H ∧ Qd H) ∨ ((Itl K a).go i H ∧ ∃ Nx : Hp → Prop, (∀ H', Nx H' → ∃ m', m' < m ∧ W (i + 1) m' H') ∧ ∀ x H', (Itl K a).yld i H x H' → g x (wipe σ vs) H' fun σ2 H2 => wipe σ2 vs = wipe σ vs ∧ tt σ2 H2 fun b H3 =>
        if b = true then te σ2 H3 fun y H4 => ∃ acc, H4 D = some (.lst acc) ∧ acc.length < sizeLine ∧ Nx (upd H4 D (.lst (acc ++ [y]))) else Nx H3) := by
  refine ⟨fun i m H => m = xs.length - i ∧ i ≤ xs.length ∧ Pv i H, ⟨xs.length, by simp, Nat.zero_le _, h0⟩, ?_⟩
  rintro i m H ⟨rfl, hi, p⟩
  have q := hl i H hi p
  by_cases hlt : i < xs.length
  · refine .inr ⟨⟨xs, xs[i], q, by simp [hlt]⟩, Pv (i + 1), fun H' p' => ⟨xs.length - (i + 1), by omega, rfl, hlt, p'⟩, fun x H' y => ?_⟩
    obtain ⟨e, y⟩ := y
    subst e
    exact hs i x _ (y xs q) p
  · have e : i = xs.length := by omega
    subst e
    exact .inl ⟨⟨xs, q, Nat.le_refl _⟩, hd H p⟩
theorem lc_tup {K : PySem.W.Frag} {a : Addr} {xs : List V} {g : TG} {tt : TT} {te : TE} {vs : List Nat} {σ : St} {H1 : Hp} {D : Addr} {Qd : Hp → Prop} (Pv : Nat → Hp → Prop) (h0 : Pv 0 (upd H1 D (.lst []))) (hl : ∀ i H, i ≤ xs.length → Pv i H → SqT K H a xs)
    (hs : ∀ i x H, xs[i]? = some x → Pv i H → g x (wipe σ vs) H fun σ2 H2 => wipe σ2 vs = wipe σ vs ∧ tt σ2 H2 fun b H3 =>
      if b = true then te σ2 H3 fun y H4 => ∃ acc, H4 D = some (.lst acc) ∧ acc.length < sizeLine ∧ Pv (i + 1) (upd H4 D (.lst (acc ++ [y]))) else Pv (i + 1) H3) (hd : ∀ H, Pv xs.length H → Qd H) :
    ∃ W : Nat → Nat → Hp → Prop, (∃ m, W 0 m (upd H1 D (.lst []))) ∧ ∀ i m H, W i m H →
      ((Itt K a).stop i H ∧ Qd H) ∨ ((Itt K a).go i H ∧ ∃ Nx : Hp → Prop, (∀ H', Nx H' → ∃ m', m' < m ∧ W (i + 1) m' H') ∧ ∀ x H', (Itt K a).yld i H x H' → g x (wipe σ vs) H' fun σ2 H2 => wipe σ2 vs = wipe σ vs ∧ tt σ2 H2 fun b H3 =>
        if b = true then te σ2 H3 fun y H4 => ∃ acc, H4 D = some (.lst acc) ∧ acc.length < sizeLine ∧ Nx (upd H4 D (.lst (acc ++ [y]))) else Nx H3) := by
  refine ⟨fun i m H => m = xs.length - i ∧ i ≤ xs.length ∧ Pv i H, ⟨xs.length, by simp, Nat.zero_le _, h0⟩, ?_⟩
  rintro i m H ⟨rfl, hi, p⟩
  have q := hl i H hi p
  by_cases hlt : i < xs.length
  · refine .inr ⟨⟨xs, xs[i], q, by simp [hlt]⟩, Pv (i + 1), fun H' p' => ⟨xs.length - (i + 1), by omega, rfl, hlt, p'⟩, fun x H' y => ?_⟩
    obtain ⟨e, y⟩ := y
    subst e
    exact hs i x _ (y xs q) p
  · have e : i = xs.length := by omega
    subst e
    exact .inl ⟨⟨xs, q, Nat.le_refl _⟩, hd H p⟩
def blkC (N : List Str) (sc scope : Scope) (own : List (Str × Nat)) : Bool :=
  (match scope.kind with | .function => true | _ => false) && (scope.names.all fun y => decide (scope.names.lookup y.1 = some y.2)) && (own.all fun p => decide (N[p.2]? = some p.1)) &&
    (scope.names.all fun y => match y.2 with
      | .free => (match sc.names.lookup y.1 with | some .cell => true | some .free => true | _ => false)
      | .local => decide (y.1 ∈ own.map (·.1)) || decide (y.1 ∉ N)
      | .cell => decide (y.1 ∈ own.map (·.1)) || decide (y.1 ∉ N)
      | _ => true)
theorem blkOk_by {N : List Str} {sc scope : Scope} {own : List (Str × Nat)} (h : blkC N sc scope own = true) : BlkOk N sc scope own := by
  unfold blkC at h
  simp only [Bool.and_eq_true, List.all_eq_true, decide_eq_true_eq] at h
  obtain ⟨⟨⟨h1, h2⟩, h3⟩, h4⟩ := h
  refine ⟨?_, h2, h3, fun y hy e => ?_, fun y hy e => ?_⟩
  · split at h1
    · assumption
    · cases h1
  · have q := h4 y hy
    simp only [e] at q
    split at q <;> first | exact .inl (by assumption) | exact .inr (by assumption) | cases q
  · have q := h4 y hy
    rcases e with e | e <;> (simp only [e, Bool.or_eq_true, decide_eq_true_eq] at q; exact q)
end L2
namespace L2
open PySem PySem.Spec PyProof.Rows
section
variable {prog : Program} {w : World} {A : Around} {R : Result → Shared → Prop} {s : Shared} {elt t0 i0 t1 i1 : Expr} {ifs0 ifs1 : List Expr} {scope : Scope} {pos : Pos} {it acc : Value} {env : Env}
end
section
variable {X : Cx}
end
end L2
namespace L2
open PySem PySem.Spec PyProof.Rows
section
variable {κ : Type} [DecidableEq κ]
end
section
variable {P : Program} {w : World} {H : Hp} {h : Heap} {a : Addr}
end
section
variable {X : Cx} {pins : List (Addr × Obj)} {σ : St} {H : Hp} {s : Shared} {a : Addr} {y v : V} {u r : Value} {o : Option V} {A : Around} {E : Value → Shared → Prop}
end
section
variable {X : Cx} {pins : List (Addr × Obj)} {σ : St} {H : Hp} {s : Shared} {a : Addr} {kvs : List (Key × V)} {k : Key} {u : Value} {A : Around} {E : Value → Shared → Prop}
end
def NoSl (i : Expr) : Prop := ∀ ov iv, subscripted i false ov iv = operate [ov, iv] (getItem ov iv)
theorem subD_of {prog : Program} {w : World} {A : Around} {E : Value → Shared → Prop} {s : Shared} {env : Env} {value slice : Expr} {pos : Pos} {T id : String} {Q : Value → Shared → Prop}
    (hl : typeLookup (.type T) "__getitem__" = pure (some (.builtin id))) (hs : NoSl slice)
    (h : wpAny (model prog w) A (eval value env) (fun o s₁ => wpAny (model prog w) A (eval slice env) (fun i s₂ => s₂.TypeIs o T ∧ wpAny (model prog w) A (getItem o i) Q E s₂) E s₁) E s) :
    wpAny (model prog w) A (eval (.Subscript value slice pos) env) Q E s := by
  refine Subscript_ (wpAny_mono h (fun o s₁ h₁ => wpAny_mono h₁ (fun i s₂ h₂ => ?_) fun _ _ x => x) fun _ _ x => x)
  obtain ⟨hT, h₂⟩ := h₂
  unfold subscriptTail
  refine wpAny_bind ?_
  rw [getitemInPython_of_ne hT.not_modules]
  refine wpAny_bind (wpAny_specialOf hT hl ?_)
  have fin : wpAny (model prog w) A (subscripted slice false o i) (fun r s₃ => wpAny (model prog w) A (letTemporaryGo value o r >>= fun _ => pure r) Q E s₃) E s₂ := by
    rw [hs o i]
    exact wpAny_operating (wpAny_mono h₂ (fun r s₃ h₃ => wpAny_bind (wpAny_letTemporaryGo (wpAny_pure h₃))) fun _ _ x => x)
  first
    | exact wpAny_pure (wpAny_bind fin)
    | exact wpAny_bind (wpAny_pure (wpAny_bind fin))
    | exact wpAny_bind fin
section
variable {X : Cx} {o i e value : Expr} {pos pos' tpos : Pos} {td ty tv : TE}
end
section
variable {X : Cx} {pos : Pos}
end
structure M1 (X : Cx) (o : Expr) (m : Str) (apos : Pos) (e : Expr) (cpos : Pos) : Prop where
  base : attributeBase o m X.env (eval o X.env) = eval o X.env
  few : ((backTo cpos (starEach [e] X.env)).all (fun x => !x.1) && (backToKw cpos (keywordEach [] X.env)).all (fun x => x.1.isSome)
    && decide (([e] : List Expr).length + ([] : List Keyword).length + (if ([] : List Keyword).isEmpty then 0 else 1) < 30)) = true
  line : (apos.endLine == cpos.line) = true
  trees : backTo cpos (starEach [e] X.env) = [(false, eval e X.env)]
structure M2 (X : Cx) (o : Expr) (m : Str) (apos : Pos) (e f : Expr) (cpos : Pos) : Prop where
  base : attributeBase o m X.env (eval o X.env) = eval o X.env
  few : ((backTo cpos (starEach [e, f] X.env)).all (fun x => !x.1) && (backToKw cpos (keywordEach [] X.env)).all (fun x => x.1.isSome)
    && decide (([e, f] : List Expr).length + ([] : List Keyword).length + (if ([] : List Keyword).isEmpty then 0 else 1) < 30)) = true
  line : (apos.endLine == cpos.line) = true
  trees : backTo cpos (starEach [e, f] X.env) = [(false, eval e X.env), (false, eval f X.env)]
section
variable {X : Cx} {pins : List (Addr × Obj)} {σ : St} {H : Hp} {s : Shared} {a : Addr} {y d : V} {u r : Value} {o : Option V} {A : Around} {E : Value → Shared → Prop}
end
section
variable {X : Cx} {o e f : Expr} {apos cpos : Pos} {td ty tx : TE}
end
section
variable {X : Cx} {pins : List (Addr × Obj)} {σ : St} {H : Hp} {s : Shared} {a : Addr} {kvs : List (Key × V)} {A : Around} {E : Value → Shared → Prop}
end
section
variable {X : Cx} {pins : List (Addr × Obj)} {σ : St} {H : Hp} {s : Shared} {a : Addr} {y : V} {u : Value} {A : Around} {E : Value → Shared → Prop}
end
end L2
namespace L2
open PySem PySem.Spec PyProof.Rows
section
variable {prog : Program} {w : World} {A : Around} {E : Value → Shared → Prop}
end
section
variable {X : Cx}
end
end L2
namespace L2
open PySem PySem.Spec PyProof.Rows
section
variable {X : Cx} {pins : List (Addr × Obj)} {σ : St} {H : Hp} {s : Shared} {h' : Heap}
end
section
variable {X : Cx}
end
section
variable {X : Cx} {tg : Expr}
end
section
variable {X : Cx} {tg : Expr}
end
section
variable {prog : Program} {w : World} {A : Around} {E : Value → Shared → Prop} {s : Shared}
end
section
variable {X : Cx} {pins : List (Addr × Obj)} {σ : St} {H : Hp} {s : Shared} {d : Addr} {o : Obj}
end
section
variable {P : Program} {w : World} {K : PySem.W.Frag} {tg : Expr} {d : Addr} {o : Obj} {es : Array DictEntry} {ep : Nat}
end
section
variable {X : Cx} {tg e : Expr} {td : TE} {apos cpos : Pos}
end
end L2
section 
namespace Bits
open PySem PyProof.Rows
end Bits
end 
section 
namespace TL
open PySem PySem.Builtin PySem.Builtin.Str PySem.StrLaws
end TL
end 
namespace L2
open PySem PySem.Spec PyProof.Rows
section
variable {X : Cx} {pins : List (Addr × Obj)} {σ : St} {H : Hp} {s : Shared} {Q : VK}
end
section
variable {X : Cx}
end
section
variable {X : Cx} {o e : Expr} {to te : TE}
end
end L2
namespace L2
open PySem PySem.Spec PyProof.Rows
section
variable {X : Cx}
end
end L2
namespace Att
open PySem PySem.W PySem.Calls PyProof.Rows
section
variable {prog : Program} {w : World} {A : Around} {E : Value → Shared → Prop} {s : Shared} {K : Frag}
end
end Att
namespace L2
open PySem PySem.Spec PyProof.Rows
end L2
namespace L2
open PySem PySem.Spec PyProof.Rows
end L2
/- THE LAST THEOREM (shape; LID, My.* are yours):
   My.Adr: a structure of the addresses that your layer names (classes, functions); My.Txt K t: a structure (Prop) of the equations over K;
   My.txt_mk : {K} {implicit addresses ..} (e1 : nsIn K mainGlobals "law" = some (some (.ref f))) (e2 : K.lookup f = some ⟨oc, od, .func (fnOf "law" "law" params body scope dV kV doc pm an cdv ct), sl⟩) (e3 : codeIn K cdv "law" = true) .. : ∃ t, My.Txt K t
set_option maxRecDepth 100000 in
set_option maxHeartbeats 0 in
theorem PySem.Challenge.cw_LID_holds : PySem.Challenge.rw_LID.Holds := by
  w_on; o_law; k_head; (case hw => w_witness2)
  k_fill
  refine L2.walk_of (l := PySem.Challenge.rw_LID) (n := 63) (k := 40) (x := "script") (CX := fun w => ..) (sp := fun _ => My.sp_law) rfl (by decide) rfl ⟨rfl, by decide, by decide⟩ (fun w h Y => PySem.W.kIn_of Y) ?F ?S ?C
  case F =>
    intro w mg fa h KX G hmg
    have T : ∃ t, My.Txt (L2.KOf KX) t := by
      dsimp only [L2.KOf]                          -- K must stand as «<heap const> w.params» for k_is
      refine' My.txt_mk ?e1 ?e2 ?e3 ..
      (case e1 => PySem.W.k_is)                    -- in the order: a name -> its address -> its object -> its parts
      (case e2 => PySem.W.k_is)
      ..
    obtain ⟨t, T⟩ := T
    have e0 := hmg.symm.trans (PySem.W.mg_of KX G T.law)
    cases e0                                       -- fa is the law's own address
    exact ⟨_, fun s u => .of_eq rfl, fun base kb nb => My.law_fn T kb nb⟩     -- if «.of_eq rfl» comes too early: refine' ⟨_, ?b, fun base kb nb => My.law_fn T kb nb⟩; exact fun s u => .of_eq rfl
  case S => exact fun w H a ns hl hO hS => ..
  case C => exact ..
(the tactic k_is has no namespace: write k_is) -/
namespace L2
open PySem PySem.Spec PyProof.Rows
def inClass (s : Stmt) (j : Nat) : Stmt := match s with
  | .ClassDef _ _ _ body _ _ _ _ _ _ _ => body.getD j (.Pass ⟨0, 0, 0, 0⟩)
  | _ => .Pass ⟨0, 0, 0, 0⟩
def defArgs (s : Stmt) : Arguments := match s with
  | .FunctionDef _ a _ _ _ _ _ _ _ _ => a
  | _ => { posonlyargs := [], args := [], vararg := none, kwonlyargs := [], kw_defaults := [], kwarg := none, defaults := [] }
def defBody (s : Stmt) : List Stmt := match s with
  | .FunctionDef _ _ b _ _ _ _ _ _ _ => b
  | _ => []
def defScope (s : Stmt) : Scope := match s with
  | .FunctionDef _ _ _ _ _ _ sc _ _ _ => sc
  | _ => { kind := .function, names := [], isGenerator := false, isCoroutine := false }
abbrev CX0 : CXT := fun _ _ _ _ _ _ => False
abbrev E0 : XK := fun _ _ _ => False
theorem pass0 {X : Cx} : Passes CX0 X E0 := fun _ _ _ _ _ _ _ h => h.elim
structure Fun (K : PySem.W.Frag) (x qual : Str) (st : Stmt) (f : Addr) (fd : FuncData) : Prop where
  ex : ∃ (oc : Value) (od : Option Addr) (kV doc pm : Value) (an : Option Addr) (cdv ct : Value) (osl : Array (Option Value)),
    fd = PySem.W.fnOf x qual (defArgs st) (defBody st) (defScope st) .none kV doc pm an cdv ct ∧ K.lookup f = some ⟨oc, od, .func fd, osl⟩ ∧ PySem.W.codeIn K cdv qual = true
  kp : PySem.W.keepIn K (.ref f) = true
section
variable {P : Program} {w : World} {K : PySem.W.Frag} {mg : Str → Option Value} {base : Heap}
theorem Fun.ok {x qual : Str} {st : Stmt} {f : Addr} {fd : FuncData} {N ps : List Str} {k : Nat} {sp : Sp} (F : Fun K x qual st f fd) (S : FnScope N ps (defScope st)) (len : ∀ vs H Q E, sp vs H Q E → vs.length = ps.length)
    (hbody : ∀ (cdv : Value) (A : Around) (outer : List Env) (s : Shared) (H : Hp) (vs : List V) (Q : VK) (E : XK), Room k (A.deeper (envOfC qual (defScope st) s.heap.objs.size f cdv)) → sp vs H Q E →
      ∃ t, PSs (cxOf CX0 P w K mg base N qual (defScope st) f cdv A outer s H E).nox (defBody st) t ∧ t { nx := fun _ H' => Q .non H', rt := Q } (start N vs) H) : FnOk P w K mg base CX0 (k + 1) f fd ps sp := by
  obtain ⟨oc, od, kV, doc, pm, an, cdv, ct, osl, rfl, lk, hcd⟩ := F.ex
  refine fn_of lk hcd S len fun A outer s H vs Q E hr hsp => ?_
  obtain ⟨t, h, q⟩ := hbody cdv A outer s H vs Q E hr hsp
  exact ⟨t, h.nox, q⟩
theorem Fun.binds {x qual : Str} {st : Stmt} {f : Addr} {fd : FuncData} {ps : List Str} (F : Fun K x qual st f fd)
    (h : ∀ (kV doc pm : Value) (an : Option Addr) (cdv ct : Value) (us : List Value), us.length = ps.length → bindArgs (PySem.W.fnOf x qual (defArgs st) (defBody st) (defScope st) .none kV doc pm an cdv ct) ⟨us, []⟩ = pure (ps.zip us)) : Binds K fd ps [] := by
  obtain ⟨oc, od, kV, doc, pm, an, cdv, ct, osl, rfl, lk, hcd⟩ := F.ex
  exact .all (h kV doc pm an cdv ct)
theorem fun_mk {x qual : Str} {st : Stmt} {f : Addr} {oc : Value} {od an : Option Addr} {osl : Array (Option Value)} {kV doc pm cdv ct : Value} (l : K.lookup f = some ⟨oc, od, .func (PySem.W.fnOf x qual (defArgs st) (defBody st) (defScope st) .none kV doc pm an cdv ct), osl⟩)
    (c : PySem.W.codeIn K cdv qual = true) (k : PySem.W.keepIn K (.ref f) = true) : Fun K x qual st f (PySem.W.fnOf x qual (defArgs st) (defBody st) (defScope st) .none kV doc pm an cdv ct) := ⟨⟨oc, od, kV, doc, pm, an, cdv, ct, osl, rfl, l, c⟩, k⟩
end
theorem small1000 {n : Nat} (h : n ≤ 1000) : n < sizeLine := Nat.lt_of_le_of_lt h (by decide)
section
variable {X : Cx}
theorem pv (i : Nat) {x : Str} {pos : Pos} (hN : X.N[i]? = some x := by rfl) (hv : Vis X.env.scope x := by first | exact Or.inl rfl | exact Or.inr (Or.inl rfl) | exact Or.inr (Or.inr rfl)) (hd : (x == ("__debug__" : Str)) = false := by decide)
    (hcd : (x == ("__classdict__" : Str)) = false := by decide) : PE X (.Name x pos) (tVar i) := pe_var hN hv hd hcd
end
theorem iteF {A B : Prop} (h : B) : if false = true then A else B := by
  rw [if_neg Bool.false_ne_true]
  exact h
theorem iteT {A B : Prop} (h : A) : if true = true then A else B := by
  rw [if_pos rfl]
  exact h
def Same (H H' : Hp) : Prop := ∀ b o, H b = some o → H' b = some o
theorem Same.refl (H : Hp) : Same H H := fun _ _ h => h
theorem Same.trans {H H1 H2 : Hp} (a : Same H H1) (b : Same H1 H2) : Same H H2 := fun c o h => b c o (a c o h)
theorem Same.free {H H' : Hp} (e : Same H H') {l : Addr} (h : H' l = Option.none) : H l = Option.none := by
  cases q : H l with
  | none => rfl
  | some o =>
    rw [e l o q] at h
    cases h
theorem Same.seq {K : PySem.W.Frag} {H H' : Hp} {a : Addr} {xs : List V} (e : Same H H') (h : SqL K H a xs) : SqL K H' a xs := by
  rcases h with (h | ⟨o, h⟩) | h
  · exact .inl (.inl (e _ _ h))
  · exact .inl (.inr ⟨o, e _ _ h⟩)
  · exact .inr h
section
variable {κ : Type} [DecidableEq κ]
end
theorem at_of {xs : List V} {z : Int} {j : Nat} {v : V} (e : z = (j : Int)) (h : xs[j]? = some v) : atI xs z = some v := by
  rw [e]
  exact atI_nat h
end L2
section
set_option Elab.async false
set_option linter.all false
set_option maxRecDepth 100000
namespace Att
open PySem PySem.W PySem.Calls PyProof.Rows
section
variable {prog : Program} {w : World} {A : Around} {E : Value → Shared → Prop} {s : Shared} {K : Frag}
end
end Att
namespace L2
open PySem PySem.Spec PyProof.Rows
end L2
namespace L2
open PySem PySem.Spec PyProof.Rows
end L2
end
section
set_option Elab.async false
set_option linter.all false
set_option maxRecDepth 100000
set_option maxHeartbeats 2000000
namespace L2
open PySem PySem.Spec PyProof.Rows
open PySem.W (WData Codec OpenSpec Well WellAll ReadsW ReadsAllW)
mutual
inductive Dw (K : PySem.W.Frag) (H : Hp) : V → WData → Prop
  | non : Dw K H .non .none
  | bl (b : Bool) : Dw K H (.bl b) (.bool b)
  | int (i : Int) : Dw K H (.int i) (.int i)
  | str (x : Str) : Dw K H (.str x) (.str x)
  | byt (b : Array UInt8) : Dw K H (.byt b) (.bytes b.toList)
  | lst {a : Addr} {xs : List V} {ds : List WData} : SqL K H a xs → DwAll K H xs ds → Dw K H (.ref a) (.list ds)
  | tup {a : Addr} {xs : List V} {ds : List WData} : SqT K H a xs → DwAll K H xs ds → Dw K H (.ref a) (.tuple ds)
inductive DwAll (K : PySem.W.Frag) (H : Hp) : List V → List WData → Prop
  | nil : DwAll K H [] []
  | cons {v : V} {vs : List V} {d : WData} {ds : List WData} : Dw K H v d → DwAll K H vs ds → DwAll K H (v :: vs) (d :: ds)
end
theorem dw_ints {K : PySem.W.Frag} {H : Hp} : ∀ ns : List Int, DwAll K H (ns.map V.int) (ns.map WData.int)
  | [] => .nil
  | n :: r => .cons (.int n) (dw_ints r)
theorem ints_dw {K : PySem.W.Frag} {H : Hp} : ∀ (ns : List Int) (xs : List V), DwAll K H xs (ns.map WData.int) → xs = ns.map V.int
  | [], xs, h => by
    cases h
    rfl
  | n :: r, xs, h => by
    cases h with
    | cons h1 h2 =>
      cases h1
      rw [ints_dw r _ h2] <;> rfl
section
variable {P : Program} {w : World} {K : PySem.W.Frag} {H : Hp} {h : Heap} {R : PySem.W.WRecords} {cl : Str → Option Addr}
theorem sqL_at {a : Addr} {xs : List V} (hok : HOk P w H h) (KX : K.In h) (q : SqL K H a xs) : ∃ (its : List Value) (o : Obj) (n : Nat), Vals xs its ∧ h.get? a = some o ∧ o.cls = .type "list" ∧ o.data = .seq its.toArray n := by
  rcases q with q | ⟨o, its, n, e, hc, _, hd, _, hv⟩
  · obtain ⟨_, its, n, hv, e⟩ := (show ObjOk P w H h a (.lst xs) from q.ok hok)
    exact ⟨its, _, n, hv, e, rfl, rfl⟩
  · exact ⟨its.toList, o, n, hv, KX _ _ e, hc, by simp [hd]⟩
theorem sqT_at {a : Addr} {xs : List V} (hok : HOk P w H h) (KX : K.In h) (q : SqT K H a xs) : ∃ (its : List Value) (o : Obj) (n : Nat), Vals xs its ∧ h.get? a = some o ∧ o.cls = .type "tuple" ∧ o.data = .seq its.toArray n := by
  rcases q with q | ⟨o, its, n, e, hc, hd, _, hv⟩
  · obtain ⟨_, its, hv, o, e, hc, n, hd⟩ := (show ObjOk P w H h a (.tup xs) from q.ok hok)
    exact ⟨its, o, n, hv, e, hc, hd⟩
  · exact ⟨its.toList, o, n, hv, KX _ _ e, hc, by simp [hd]⟩
mutual
theorem Dw.reads (hok : HOk P w H h) (KX : K.In h) : ∀ (d : WData) (v : V) (u : Value), Dw K H v d → RelV v u → ∃ as, ReadsW R cl h u d as
  | .none, _, _, x, r => by
    cases x
    cases r
    exact ⟨_, ReadsW.none⟩
  | .bool b, _, _, x, r => by
    cases x
    cases r
    exact ⟨_, ReadsW.bool b⟩
  | .int i, _, _, x, r => by
    cases x
    obtain ⟨t, rfl⟩ := r
    exact ⟨_, ReadsW.int i t⟩
  | .str s, _, _, x, r => by
    cases x
    obtain ⟨t, rfl⟩ := r
    exact ⟨_, ReadsW.str s t⟩
  | .bytes b, _, _, x, r => by
    cases x
    obtain ⟨t, rfl⟩ := r
    exact ⟨_, ReadsW.bytes _ t⟩
  | .list ds, _, _, x, r => by
    cases x with
    | lst hs ha =>
      cases r
      obtain ⟨its, o, n, rv, ho, hc, hd⟩ := sqL_at hok KX hs
      obtain ⟨as, hr⟩ := Dw.readsAll hok KX ds _ its ha rv
      exact ⟨_, ReadsW.list ho hc hd hr⟩
  | .tuple ds, _, _, x, r => by
    cases x with
    | tup hs ha =>
      cases r
      obtain ⟨its, o, n, rv, ho, hc, hd⟩ := sqT_at hok KX hs
      obtain ⟨as, hr⟩ := Dw.readsAll hok KX ds _ its ha rv
      exact ⟨_, ReadsW.tuple ho hc hd hr⟩
  | .float _, _, _, x, _ => by cases x
  | .dict _, _, _, x, _ => by cases x
  | .bytearray _, _, _, x, _ => by cases x
  | .set _, _, _, x, _ => by cases x
  | .frozenset _, _, _, x, _ => by cases x
  | .obj _ _, _, _, x, _ => by cases x
theorem Dw.readsAll (hok : HOk P w H h) (KX : K.In h) : ∀ (ds : List WData) (vs : List V) (us : List Value), DwAll K H vs ds → Vals vs us → ∃ as, ReadsAllW R cl h us ds as
  | [], _, _, x, r => by
    cases x
    cases r
    exact ⟨_, ReadsAllW.nil⟩
  | d :: ds, _, _, x, r => by
    cases x with
    | cons h1 h2 =>
      cases r with
      | cons r1 r2 =>
        obtain ⟨as, q1⟩ := Dw.reads hok KX d _ _ h1 r1
        obtain ⟨bs, q2⟩ := Dw.readsAll hok KX ds _ _ h2 r2
        exact ⟨_, ReadsAllW.cons q1 q2⟩
end
end
mutual
def plW : WData → Bool
  | .none => true
  | .bool _ => true
  | .int _ => true
  | .str _ => true
  | .bytes _ => true
  | .list xs => plWs xs
  | .tuple xs => plWs xs
  | _ => false
def plWs : List WData → Bool
  | [] => true
  | x :: r => plW x && plWs r
end
theorem plWs_map {α : Type} {f : α → WData} (h : ∀ a, plW (f a) = true) : ∀ l : List α, plWs (l.map f) = true
  | [] => rfl
  | x :: r => by
    show (plW (f x) && plWs (r.map f)) = true
    rw [h x, plWs_map h r] <;> rfl
theorem pl_enc : ∀ (c : Codec) (a : c.denote), plW (c.enc a) = true
  | .unit, _ => rfl
  | .bool, _ => rfl
  | .int _ _, _ => rfl
  | .nat _ _, _ => rfl
  | .u8, _ => rfl
  | .bytes _ _, _ => rfl
  | .text _ _ _ _, _ => rfl
  | .list _ _ c, a => plWs_map (fun x => pl_enc c x) a
  | .pair c d, a => by
    show (plW (c.enc a.1) && (plW (d.enc a.2) && true)) = true
    rw [pl_enc c a.1, pl_enc d a.2] <;> rfl
  | .triple c d e, a => by
    show (plW (c.enc a.1) && (plW (d.enc a.2.1) && (plW (e.enc a.2.2) && true))) = true
    rw [pl_enc c a.1, pl_enc d a.2.1, pl_enc e a.2.2] <;> rfl
  | .option c, none => rfl
  | .option c, some x => pl_enc c x
theorem pl_encAll : ∀ (cs : List Codec) (a : Codec.denoteAll cs), plWs (Codec.encAll cs a) = true
  | [], _ => rfl
  | c :: cs, a => by
    show (plW (c.enc a.1) && plWs (Codec.encAll cs a.2)) = true
    rw [pl_enc c a.1, pl_encAll cs a.2] <;> rfl
theorem weight_mem : ∀ {xs : List WData} {d : WData}, d ∈ xs → d.weight ≤ WData.weightAll xs
  | [], d, h => absurd h (by simp)
  | x :: r, d, h => by
    show d.weight ≤ x.weight + 1 + WData.weightAll r
    rcases List.mem_cons.mp h with e | m
    · rw [e]
      omega
    · have z := weight_mem m
      omega
def toV : Value → V
  | .none => .non
  | .bool b => .bl b
  | .int i _ => .int i
  | .str x _ => .str x
  | .bytes b _ => .byt b
  | .ref a => .ref a
  | _ => .non
def OkU (A : List Addr) : Value → Prop
  | .none => True
  | .bool _ => True
  | .int _ _ => True
  | .str _ _ => True
  | .bytes _ _ => True
  | .ref a => a ∈ A
  | _ => False
theorem OkU.mono {A B : List Addr} (h : ∀ a ∈ A, a ∈ B) : ∀ {u : Value}, OkU A u → OkU B u := fun {u} x => by
  cases u with
  | ref a => exact h a x
  | none => trivial
  | bool b => trivial
  | int i t => trivial
  | str s t => trivial
  | bytes b t => trivial
  | _ => exact False.elim x
theorem relV_toV {A : List Addr} {u : Value} (x : OkU A u) : RelV (toV u) u := by
  cases u with
  | ref a => rfl
  | none => rfl
  | bool b => rfl
  | int i t => exact ⟨t, rfl⟩
  | str s t => exact ⟨t, rfl⟩
  | bytes b t => exact ⟨t, rfl⟩
  | _ => exact False.elim x
theorem vals_toV {A : List Addr} : ∀ {vs : List Value}, (∀ u ∈ vs, OkU A u) → Vals (vs.map toV) vs
  | [], _ => .nil
  | u :: r, h => .cons (relV_toV (h u (List.mem_cons_self ..))) (vals_toV fun x hx => h x (List.mem_cons_of_mem _ hx))
def ArgOb (h : Heap) (A : List Addr) (a : Addr) : Prop := ∃ vs : List Value, vs.length ≤ sizeLine ∧ (∀ u ∈ vs, OkU A u) ∧
  (h.get? a = some { cls := .type "list", data := .seq vs.toArray } ∨ h.get? a = some { cls := .type "tuple", data := .seq vs.toArray })
theorem ArgOb.mono {h : Heap} {A B : List Addr} {a : Addr} (k : ∀ a ∈ A, a ∈ B) (x : ArgOb h A a) : ArgOb h B a := by
  obtain ⟨vs, h1, h2, h3⟩ := x
  exact ⟨vs, h1, fun u hu => (h2 u hu).mono k, h3⟩
theorem wellAll_len {P : Params} {h : Heap} : ∀ {vs : List Value} {ds : List WData}, WellAll P h vs ds → vs.length = ds.length
  | _, _, .nil => rfl
  | _, _, .cons _ b => by
    show _ + 1 = _ + 1
    rw [wellAll_len b]
theorem well_list {P : Params} {h : Heap} {v : Value} {ds : List WData} (x : Well P h v (.list ds)) : ∃ (a : Addr) (vs : List Value), v = .ref a ∧ h.get? a = some { cls := .type "list", data := .seq vs.toArray } ∧ WellAll P h vs ds := by
  cases x with
  | list ho hall => exact ⟨_, _, rfl, ho, hall⟩
theorem well_tuple {P : Params} {h : Heap} {v : Value} {ds : List WData} (x : Well P h v (.tuple ds)) : ∃ (a : Addr) (vs : List Value), v = .ref a ∧ h.get? a = some { cls := .type "tuple", data := .seq vs.toArray } ∧ WellAll P h vs ds := by
  cases x with
  | tuple ho hall => exact ⟨_, _, rfl, ho, hall⟩
theorem well_cons {P : Params} {h : Heap} {us : List Value} {d : WData} {ds : List WData} (x : WellAll P h us (d :: ds)) : ∃ (v : Value) (vs : List Value), us = v :: vs ∧ Well P h v d ∧ WellAll P h vs ds := by
  cases x with
  | cons a b => exact ⟨_, _, rfl, a, b⟩
theorem line_of {n : Nat} (h : n ≤ 1048576) : n ≤ sizeLine := Nat.le_trans h (by decide)
section
variable {P : Params} {h : Heap}
mutual
theorem area_one : ∀ (d : WData) (v : Value), Well P h v d → plW d = true → d.weight ≤ 1048576 → ∃ A : List Addr, OkU A v ∧ ∀ a ∈ A, ArgOb h A a
  | .none, _, x, _, _ => by
    cases x
    exact ⟨[], trivial, fun a m => absurd m (by simp)⟩
  | .bool b, _, x, _, _ => by
    cases x
    exact ⟨[], trivial, fun a m => absurd m (by simp)⟩
  | .int i, _, x, _, _ => by
    cases x
    exact ⟨[], trivial, fun a m => absurd m (by simp)⟩
  | .str s, _, x, _, _ => by
    cases x
    exact ⟨[], trivial, fun a m => absurd m (by simp)⟩
  | .bytes b, _, x, _, _ => by
    cases x
    exact ⟨[], trivial, fun a m => absurd m (by simp)⟩
  | .list ds, _, x, p, z => by
    obtain ⟨a, vs, rfl, ho, hall⟩ := well_list x
    have z2 : WData.weightAll ds ≤ 1048576 := z
    obtain ⟨A, h1, h2⟩ := area_all ds _ hall p fun d hd => Nat.le_trans (weight_mem hd) z2
    have k : ∀ b ∈ A, b ∈ a :: A := fun b hb => List.mem_cons_of_mem _ hb
    refine ⟨a :: A, List.mem_cons_self .., fun b hb => ?_⟩
    rcases List.mem_cons.mp hb with e | m
    · rw [e]
      exact ⟨vs, line_of (by rw [wellAll_len hall]; exact Nat.le_trans (PySem.W.length_le_weightAllW ds) z2), fun u hu => (h1 u hu).mono k, .inl ho⟩
    · exact (h2 b m).mono k
  | .tuple ds, _, x, p, z => by
    obtain ⟨a, vs, rfl, ho, hall⟩ := well_tuple x
    have z2 : WData.weightAll ds ≤ 1048576 := z
    obtain ⟨A, h1, h2⟩ := area_all ds _ hall p fun d hd => Nat.le_trans (weight_mem hd) z2
    have k : ∀ b ∈ A, b ∈ a :: A := fun b hb => List.mem_cons_of_mem _ hb
    refine ⟨a :: A, List.mem_cons_self .., fun b hb => ?_⟩
    rcases List.mem_cons.mp hb with e | m
    · rw [e]
      exact ⟨vs, line_of (by rw [wellAll_len hall]; exact Nat.le_trans (PySem.W.length_le_weightAllW ds) z2), fun u hu => (h1 u hu).mono k, .inr ho⟩
    · exact (h2 b m).mono k
  | .float _, _, _, p, _ => Bool.noConfusion (show false = true from p)
  | .dict _, _, _, p, _ => Bool.noConfusion (show false = true from p)
  | .bytearray _, _, _, p, _ => Bool.noConfusion (show false = true from p)
  | .set _, _, _, p, _ => Bool.noConfusion (show false = true from p)
  | .frozenset _, _, _, p, _ => Bool.noConfusion (show false = true from p)
  | .obj _ _, _, _, p, _ => Bool.noConfusion (show false = true from p)
theorem area_all : ∀ (ds : List WData) (vs : List Value), WellAll P h vs ds → plWs ds = true → (∀ d ∈ ds, d.weight ≤ 1048576) → ∃ A : List Addr, (∀ u ∈ vs, OkU A u) ∧ ∀ a ∈ A, ArgOb h A a
  | [], _, x, _, _ => by
    cases x
    exact ⟨[], fun u m => absurd m (by simp), fun a m => absurd m (by simp)⟩
  | d :: ds, _, x, p, z => by
    obtain ⟨v, vs, rfl, x1, x2⟩ := well_cons x
    have q : plW d = true ∧ plWs ds = true := Bool.and_eq_true_iff.mp p
    obtain ⟨A, a1, a2⟩ := area_one d v x1 q.1 (z d (List.mem_cons_self ..))
    obtain ⟨B, b1, b2⟩ := area_all ds vs x2 q.2 fun e he => z e (List.mem_cons_of_mem _ he)
    have kA : ∀ b ∈ A, b ∈ A ++ B := fun b hb => List.mem_append.mpr (.inl hb)
    have kB : ∀ b ∈ B, b ∈ A ++ B := fun b hb => List.mem_append.mpr (.inr hb)
    refine ⟨A ++ B, fun u hu => ?_, fun b hb => ?_⟩
    · rcases List.mem_cons.mp hu with e | m
      · rw [e]
        exact a1.mono kA
      · exact (b1 u m).mono kB
    · rcases List.mem_append.mp hb with m | m
      · exact (a2 b m).mono kA
      · exact (b2 b m).mono kB
end
end
def hoOf (o : Obj) : Option HO := match o.data with
  | .seq vs _ => if (o.cls == Value.type "list") = true then some (.frz o (.lst (vs.toList.map toV))) else some (.frz o (.tup (vs.toList.map toV)))
  | _ => none
def argH (K : PySem.W.Frag) (h : Heap) (A : List Addr) : Hp := fun b => if b ∈ A then (if (K.lookup b).isNone = true then (h.get? b).bind hoOf else none) else none
def OnlyF (H : Hp) : Prop := ∀ b, H b = none ∨ ∃ o u, H b = some (.frz o u)
theorem hoOf_lst (vs : List Value) : hoOf { cls := .type "list", data := .seq vs.toArray } = some (.frz { cls := .type "list", data := .seq vs.toArray } (.lst (vs.map toV))) := by
  show (if (Value.type "list" == Value.type "list") = true then some (HO.frz { cls := .type "list", data := .seq vs.toArray } (.lst (vs.toArray.toList.map toV))) else some (HO.frz { cls := .type "list", data := .seq vs.toArray } (.tup (vs.toArray.toList.map toV)))) = _
  rw [if_pos (beq_self_eq_true _)]
theorem hoOf_tup (vs : List Value) : hoOf { cls := .type "tuple", data := .seq vs.toArray } = some (.frz { cls := .type "tuple", data := .seq vs.toArray } (.tup (vs.map toV))) := by
  show (if (Value.type "tuple" == Value.type "list") = true then some (HO.frz { cls := .type "tuple", data := .seq vs.toArray } (.lst (vs.toArray.toList.map toV))) else some (HO.frz { cls := .type "tuple", data := .seq vs.toArray } (.tup (vs.toArray.toList.map toV)))) = _
  rw [if_neg (by decide)]
section
variable {P : Program} {w : World} {K : PySem.W.Frag} {h : Heap} {A : List Addr}
theorem argH_at {b : Addr} {o : Obj} (hb : b ∈ A) (hk : K.lookup b = none) (e : h.get? b = some o) : argH K h A b = hoOf o := by
  unfold argH
  rw [if_pos hb, hk, if_pos (show (none : Option Obj).isNone = true from rfl), e] <;> rfl
theorem of_argH {b : Addr} {u : HO} (q : argH K h A b = some u) : b ∈ A ∧ K.lookup b = none := by
  unfold argH at q
  by_cases hb : b ∈ A
  · rw [if_pos hb] at q
    cases hk : K.lookup b with
    | none => exact ⟨hb, rfl⟩
    | some o =>
      rw [hk, if_neg (by simp)] at q
      cases q
  · rw [if_neg hb] at q
    cases q
theorem argH_is (ar : ∀ a ∈ A, ArgOb h A a) {b : Addr} {u : HO} (q : argH K h A b = some u) : K.lookup b = none ∧ ∃ vs : List Value, vs.length ≤ sizeLine ∧ (∀ u ∈ vs, OkU A u) ∧
    ((h.get? b = some { cls := .type "list", data := .seq vs.toArray } ∧ u = .frz { cls := .type "list", data := .seq vs.toArray } (.lst (vs.map toV))) ∨
     (h.get? b = some { cls := .type "tuple", data := .seq vs.toArray } ∧ u = .frz { cls := .type "tuple", data := .seq vs.toArray } (.tup (vs.map toV)))) := by
  obtain ⟨hb, hk⟩ := of_argH q
  obtain ⟨vs, h1, h2, h3⟩ := ar b hb
  refine ⟨hk, vs, h1, h2, ?_⟩
  rcases h3 with e | e
  · rw [argH_at hb hk e, hoOf_lst] at q
    exact .inl ⟨e, (Option.some.inj q).symm⟩
  · rw [argH_at hb hk e, hoOf_tup] at q
    exact .inr ⟨e, (Option.some.inj q).symm⟩
theorem argH_only (ar : ∀ a ∈ A, ArgOb h A a) : OnlyF (argH K h A) := fun b => by
  cases q : argH K h A b with
  | none => exact .inl rfl
  | some u =>
    obtain ⟨_, vs, _, _, ⟨_, e⟩ | ⟨_, e⟩⟩ := argH_is ar q
    · exact .inr ⟨_, _, by rw [e]⟩
    · exact .inr ⟨_, _, by rw [e]⟩
theorem argH_ok (ar : ∀ a ∈ A, ArgOb h A a) : HOk P w (argH K h A) h := fun b u q => by
  obtain ⟨_, vs, h1, h2, ⟨e, rfl⟩ | ⟨e, rfl⟩⟩ := argH_is ar q
  · exact ⟨e, by rw [List.length_map]; exact h1, vs, _, vals_toV h2, e⟩
  · exact ⟨e, by rw [List.length_map]; exact h1, vs, vals_toV h2, _, e, rfl, _, rfl⟩
theorem seq_inj {c c' : Value} {vs us : List Value} (e : (some { cls := c, data := .seq vs.toArray } : Option Obj) = some { cls := c', data := .seq us.toArray }) : c = c' ∧ vs = us := by
  have e1 := Option.some.inj e
  have e2 : c = c' := congrArg Obj.cls e1
  have e3 : Data.seq vs.toArray = Data.seq us.toArray := congrArg Obj.data e1
  injection e3 with e4
  refine ⟨e2, ?_⟩
  have e5 := congrArg Array.toList e4
  simpa using e5
theorem argL (KX : K.In h) (ar : ∀ a ∈ A, ArgOb h A a) {a : Addr} {vs : List Value} (ha : a ∈ A) (e : h.get? a = some { cls := .type "list", data := .seq vs.toArray }) : (∀ u ∈ vs, OkU A u) ∧ SqL K (argH K h A) a (vs.map toV) := by
  obtain ⟨us, h1, h2, h3⟩ := ar a ha
  have hu : us = vs := by
    rcases h3 with q | q
    · rw [e] at q
      exact (seq_inj q).2.symm
    · rw [e] at q
      exact absurd (Value.type.inj (seq_inj q).1) (by decide)
  subst hu
  refine ⟨h2, ?_⟩
  cases hk : K.lookup a with
  | none => exact .inl (.inr ⟨_, by rw [argH_at ha hk e, hoOf_lst]⟩)
  | some o =>
    have e2 := KX a o hk
    rw [e] at e2
    obtain rfl := Option.some.inj e2
    exact .inr ⟨_, us.toArray, _, hk, rfl, rfl, rfl, by rw [List.size_toArray]; exact h1, by simpa using vals_toV h2⟩
theorem argT (KX : K.In h) (ar : ∀ a ∈ A, ArgOb h A a) {a : Addr} {vs : List Value} (ha : a ∈ A) (e : h.get? a = some { cls := .type "tuple", data := .seq vs.toArray }) : (∀ u ∈ vs, OkU A u) ∧ SqT K (argH K h A) a (vs.map toV) := by
  obtain ⟨us, h1, h2, h3⟩ := ar a ha
  have hu : us = vs := by
    rcases h3 with q | q
    · rw [e] at q
      exact absurd (Value.type.inj (seq_inj q).1) (by decide)
    · rw [e] at q
      exact (seq_inj q).2.symm
  subst hu
  refine ⟨h2, ?_⟩
  cases hk : K.lookup a with
  | none => exact .inl (.inr ⟨_, by rw [argH_at ha hk e, hoOf_tup]⟩)
  | some o =>
    have e2 := KX a o hk
    rw [e] at e2
    obtain rfl := Option.some.inj e2
    exact .inr ⟨_, us.toArray, _, hk, rfl, rfl, by rw [List.size_toArray]; exact h1, by simpa using vals_toV h2⟩
mutual
theorem dw_one {Pm : Params} (KX : K.In h) (ar : ∀ a ∈ A, ArgOb h A a) : ∀ (d : WData) (v : Value), Well Pm h v d → plW d = true → OkU A v → Dw K (argH K h A) (toV v) d
  | .none, _, x, _, _ => by
    cases x
    exact .non
  | .bool b, _, x, _, _ => by
    cases x
    exact .bl b
  | .int i, _, x, _, _ => by
    cases x
    exact .int i
  | .str s, _, x, _, _ => by
    cases x
    exact .str s
  | .bytes b, _, x, _, _ => by
    cases x
    have z := Dw.byt (K := K) (H := argH K h A) b.toArray
    exact z
  | .list ds, _, x, p, hu => by
    obtain ⟨a, vs, rfl, ho, hall⟩ := well_list x
    obtain ⟨h2, hs⟩ := argL KX ar hu ho
    exact .lst hs (dw_all KX ar ds _ hall p h2)
  | .tuple ds, _, x, p, hu => by
    obtain ⟨a, vs, rfl, ho, hall⟩ := well_tuple x
    obtain ⟨h2, hs⟩ := argT KX ar hu ho
    exact .tup hs (dw_all KX ar ds _ hall p h2)
  | .float _, _, _, p, _ => Bool.noConfusion (show false = true from p)
  | .dict _, _, _, p, _ => Bool.noConfusion (show false = true from p)
  | .bytearray _, _, _, p, _ => Bool.noConfusion (show false = true from p)
  | .set _, _, _, p, _ => Bool.noConfusion (show false = true from p)
  | .frozenset _, _, _, p, _ => Bool.noConfusion (show false = true from p)
  | .obj _ _, _, _, p, _ => Bool.noConfusion (show false = true from p)
theorem dw_all {Pm : Params} (KX : K.In h) (ar : ∀ a ∈ A, ArgOb h A a) : ∀ (ds : List WData) (vs : List Value), WellAll Pm h vs ds → plWs ds = true → (∀ u ∈ vs, OkU A u) → DwAll K (argH K h A) (vs.map toV) ds
  | [], _, x, _, _ => by
    cases x
    exact .nil
  | d :: ds, _, x, p, hu => by
    obtain ⟨v, vs, rfl, x1, x2⟩ := well_cons x
    have q : plW d = true ∧ plWs ds = true := Bool.and_eq_true_iff.mp p
    exact .cons (dw_one KX ar d v x1 q.1 (hu _ (List.mem_cons_self ..))) (dw_all KX ar ds vs x2 q.2 fun u m => hu u (List.mem_cons_of_mem _ m))
end
end
theorem spec_call {P : Program} {w : World} {K : PySem.W.Frag} {mg mb : Str → Option Value} {CX : CXT} {k : Nat} {fa : Addr} {fd : FuncData} {ps : List Str} {sp : Sp} {s₁ : Shared} {vals : List Value} {ds : List WData} {R : PySem.W.WRecords} {cl : Str → Option Addr} {d0 : WData}
    (KX : K.In s₁.heap) (hns : s₁.heap.Ns mainGlobals mg) (hb : s₁.heap.Ns builtinsNs mb) (hbb : ∀ x : Str, x ≠ "__name__" → mb x = bootBuiltins x) (hlim : s₁.heap.NoLimit) (hg : s₁.gens = #[])
    (hwl : WellAll w.params s₁.heap vals ds) (hpl : plWs ds = true) (hwt : ∀ d ∈ ds, d.weight ≤ 1048576) (hr : Room k callerA)
    (F : ∀ base : Heap, K.In base → base.Ns mainGlobals mg → FnOk P w K mg base CX k fa fd ps sp) (hbind : ∀ (s : Shared) (us : List Value), us.length = ps.length → BindsTo s fd ⟨us, []⟩ (ps.zip us)) (hlen : ds.length = ps.length)
    (hsp : ∀ (H : Hp) (xs : List V), OnlyF H → DwAll K H xs ds → sp xs H (fun v H' => Dw K H' v d0) fun _ _ _ => False)
    (hCX : ∀ H e s', CX [] H s₁ (fun _ _ _ => False) e s' → False) :
    codeAny (model P w) callerA (.call (.ref fa) ⟨vals, []⟩) (fun r s' => ∃ u as, r = .ok (.ret u) ∧ ReadsW R cl s'.heap u d0 as ∧ OldK s₁.heap s'.heap ∧ s'.os = s₁.os ∧ AllBare s'.gens) s₁ := by
  obtain ⟨A, ho, ar⟩ := area_all ds vals hwl hpl hwt
  have hO : OnlyF (argH K s₁.heap A) := argH_only ar
  have hok : HOk P w (argH K s₁.heap A) s₁.heap := argH_ok ar
  have hS := dw_all KX ar ds vals hwl hpl ho
  have hV := vals_toV ho
  have hK : ∀ b u, argH K s₁.heap A b = some u → K.lookup b = none := fun b u q => (argH_is ar q).1
  have noA : ∀ {b : Addr} {o : Obj} {es : Array DictEntry} {ep : Nat}, s₁.heap.get? b = some o → o.data = .dict es ep → argH K s₁.heap A b = none := fun {b o es ep} e d => by
    cases q : argH K s₁.heap A b with
    | none => rfl
    | some u =>
      obtain ⟨_, vs, _, _, ⟨e2, _⟩ | ⟨e2, _⟩⟩ := argH_is ar q
      · rw [e2] at e
        cases e
        have d' : Data.seq vs.toArray _ = Data.dict es ep := d
        cases d'
      · rw [e2] at e
        cases e
        have d' : Data.seq vs.toArray _ = Data.dict es ep := d
        cases d'
  generalize argH K s₁.heap A = H at hO hok hS hK noA
  have base_of : ∀ {b : Addr} {o : Obj}, s₁.heap.get? b = some o → H b = none → (hidT s₁.heap H).get? b = some o := fun e n => hidT_get e n
  have nsK : ∀ {b : Addr} {m : Str → Option Value}, s₁.heap.Ns b m → (hidT s₁.heap H).Ns b m := fun {b m} ⟨o, es, ep, e, d, r⟩ => ⟨o, es, ep, base_of e (noA e d), d, r⟩
  have nK : ∀ b o, K.lookup b = some o → H b = none := fun b o e => by
    cases q : H b with
    | none => rfl
    | some u =>
      rw [hK b u q] at e
      cases e
  have hKb : K.In (hidT s₁.heap H) := fun b o e => base_of (KX b o e) (nK b o e)
  have hM : Mod K mg (hidT s₁.heap H) := ⟨hKb, nsK hns, ⟨mb, nsK hb, hbb⟩, let ⟨mc, h1, h2⟩ := hlim; ⟨mc, nsK h1, h2⟩⟩
  have e0 : Env0 P w K mg (hidT s₁.heap H) callerA [] s₁ H := ⟨rfl, hM, fun b o e => of_hidT e, Nat.le_of_eq (hidT_size _ _), trivial, fun b hb => absurd (show b ∈ ([] : List Addr) from hb) (by simp), hok, .of_eq hg⟩
  have hl : vals.length = ps.length := by rw [wellAll_len hwl]; exact hlen
  refine codeAny_mono ((F _ hKb (nsK hns)).run callerA [] s₁ H ⟨vals, []⟩ vals (vals.map toV) _ _ hr e0 (hbind s₁ vals hl) hV (hsp H _ hO hS)) fun r s' x => ?_
  cases r with
  | error e => exact (hCX H e s' x).elim
  | ok fl =>
    cases fl with
    | next => exact False.elim x
    | brk => exact False.elim x
    | cont => exact False.elim x
    | ret u =>
      obtain ⟨v, H', os, bare, un, hok', r', q⟩ := x
      have kept : ∀ b o, s₁.heap.get? b = some o → s'.heap.get? b = some o := fun b o e => by
        cases q2 : H b with
        | none => exact un.keep b o e q2 (by intro z; exact absurd (show b ∈ ([] : List Addr) from z) (by simp)) (by simp)
        | some u2 =>
          rcases hO b with z | ⟨ob, u3, z⟩
          · rw [q2] at z
            cases z
          · have z2 := un.frzs b ob _ z
            obtain ⟨e1, _⟩ := hok b _ z
            obtain ⟨e2, _⟩ := hok' b _ z2
            rw [e] at e1
            cases e1
            exact e2
      have KX' : K.In s'.heap := fun b o e => kept b o (KX b o e)
      obtain ⟨as, hrd⟩ := Dw.reads (R := R) (cl := cl) hok' KX' d0 v u q r'
      exact ⟨u, as, rfl, hrd, OldK.of_keep kept, os, bare⟩
theorem layable_weight {ds : List WData} (h : WData.layableAll ds = true) : ∀ d ∈ ds, d.weight ≤ 1048576 := fun d hd =>
  (PySem.W.layableW_iff.mp (List.all_eq_true.mp h d hd)).2.2
theorem encAll_len : ∀ (cs : List Codec) (a : Codec.denoteAll cs), (Codec.encAll cs a).length = cs.length
  | [], _ => rfl
  | c :: cs, a => by
    show (Codec.encAll cs a.2).length + 1 = cs.length + 1
    rw [encAll_len cs a.2]
theorem walk_spec {r : OpenSpec} {k : Nat} {q : Program} {loose : List Str} {XP : (Str → Option Value) → Heap → Prop} {YP : World → Heap → Prop} {d : DefRec} {K : Params → PySem.W.Frag} {CX : World → CXT} {ps : List Str} {sp : World → Sp}
    (hwell : r.wellSaid = true) (hdf : d.params.defaults = []) (hlen : r.args.length = ps.length) (hr : Room k callerA)
    (hY : ∀ (w : World) (h : Heap), YP w h → (K w.params).In h)
    (F : ∀ (w : World) (mg : Str → Option Value) (fa : Addr) (h : Heap), YP w h → (K w.params).In h → h.Ns mainGlobals mg → mg d.name = some (.ref fa) →
      ∃ fd : FuncData, (∀ (s : Shared) (us : List Value), us.length = ps.length → BindsTo s fd ⟨us, []⟩ (ps.zip us)) ∧
        ∀ base : Heap, (K w.params).In base → base.Ns mainGlobals mg → FnOk r.prog w (K w.params) mg base (CX w) k fa fd ps (sp w))
    (hsp : ∀ (w : World) (H : Hp) (xs : List V) (a : Codec.denoteAll r.args), OnlyF H → Codec.withinAll r.args a = true → Codec.app r.args r.asked a = true → DwAll (K w.params) H xs (Codec.encAll r.args a) →
      sp w xs H (fun v H' => Dw (K w.params) H' v (r.ret.enc (Codec.app r.args r.f a))) fun _ _ _ => False)
    (hCX : ∀ (w : World) (H : Hp) (s : Shared) (e : Value) (s' : Shared), CX w [] H s (fun _ _ _ => False) e s' → False) :
    PySem.W.WalkOS q loose XP YP r d [] (fun f vs => PySem.call f vs) := by
  intro w s_0 s₁ mg mb G Y fa o pm cd doc dV kV ho hd hcd hD hmg hg args vals as hpre hlay hrd hwl hlo
  obtain ⟨a, e1, e2⟩ := PySem.W.os_pre_some hpre
  obtain ⟨e3, hwi⟩ := Codec.encAll_of_decAll r.args args a e1
  subst e3
  have KX := hY w _ Y
  obtain ⟨fd, hb, hF⟩ := F w mg fa _ Y KX G.T.g hmg
  refine PySem.W.enter_call (codeAny_mono (spec_call (R := []) (cl := classAt s_0.heap) (d0 := r.ret.enc (Codec.app r.args r.f a)) KX G.T.g G.T.b G.T.builtins G.T.nolimit hg hwl (pl_encAll _ _) (layable_weight hlay) hr hF hb (by rw [encAll_len]; exact hlen)
    (fun H xs hO hS => hsp w H xs a hO hwi e2 hS) fun H e s' => hCX w H s₁ e s') fun r' s' hq => ?_)
  obtain ⟨u, as', rfl, h1, h2, h3, h4⟩ := hq
  exact ⟨.inl ⟨u, _, as', rfl, fun _ => rfl, h1, (OpenSpec.post_iff hwell hwi _ _).mpr rfl, fun z => Bool.noConfusion (show false = true from z)⟩, h2, h3, h4⟩
theorem walk_specK {r : OpenSpec} {k : Nat} {q : Program} {loose : List Str} {XP : (Str → Option Value) → Heap → Prop} {YP : World → Heap → Prop} {d : DefRec} {K : Params → PySem.W.Frag} {CX : CXT} {ps : List Str} {sp : PySem.W.Frag → Sp}
    (hwell : r.wellSaid = true) (hdf : d.params.defaults = []) (hlen : r.args.length = ps.length) (hr : Room k callerA)
    (hY : ∀ (w : World) (h : Heap), YP w h → (K w.params).In h)
    (F : ∀ (w : World) (mg : Str → Option Value) (fa : Addr) (h : Heap), YP w h → (K w.params).In h → h.Ns mainGlobals mg → mg d.name = some (.ref fa) →
      ∃ fd : FuncData, (∀ (s : Shared) (us : List Value), us.length = ps.length → BindsTo s fd ⟨us, []⟩ (ps.zip us)) ∧
        ∀ base : Heap, (K w.params).In base → base.Ns mainGlobals mg → FnOk r.prog w (K w.params) mg base CX k fa fd ps (sp (K w.params)))
    (hsp : ∀ (K : PySem.W.Frag) (H : Hp) (xs : List V) (a : Codec.denoteAll r.args), OnlyF H → Codec.withinAll r.args a = true → Codec.app r.args r.asked a = true → DwAll K H xs (Codec.encAll r.args a) →
      sp K xs H (fun v H' => Dw K H' v (r.ret.enc (Codec.app r.args r.f a))) fun _ _ _ => False)
    (hCX : ∀ (H : Hp) (s : Shared) (e : Value) (s' : Shared), CX [] H s (fun _ _ _ => False) e s' → False) :
    PySem.W.WalkOS q loose XP YP r d [] (fun f vs => PySem.call f vs) :=
  walk_spec (K := K) (CX := fun _ => CX) (sp := fun w => sp (K w.params)) hwell hdf hlen hr hY F (fun w H xs a h1 h2 h3 h4 => hsp (K w.params) H xs a h1 h2 h3 h4) fun _ H s e s' => hCX H s e s'
end L2
end
set_option Elab.async false
set_option linter.all false
set_option maxRecDepth 100000
set_option maxHeartbeats 2000000
namespace L2
open PySem PySem.Spec PyProof.Rows
/-! set(xs), len(set); a call through a table of functions -/
def setN (ns : List Int) : Nat := (firstMet (fun i => ns.getD i 0) ns.length).length
section
variable {X : Cx}
theorem call_set_of (hc : X.calm = true) : CallR X (.type "set") (fun xs H Q => ∃ (a : Addr) (ns : List Int), xs = [V.ref a] ∧ SqL X.K H a (ns.map V.int) ∧ ns.length ≤ 1000 ∧ ∀ (p : Addr) (S : Int → Bool), H p = none → Q (.ref p) (upd H p (.set S (setN ns)))) := by
  intro pins s σ H xs us Q I r h
  obtain ⟨a, ns, rfl, hs, hl, q⟩ := h
  obtain ⟨its, rv, pl, _⟩ := I.list hs
  rw [Vals.ref1 r]
  have hi := intsAre_of rv
  have hn : its.length = ns.length := by rw [← rv.length, List.length_map]
  have hf : H s.heap.objs.size = none := I.hok.fresh (Nat.le_refl _)
  refine PySem.call_set_list (items := its.toArray) (ns := ns) (I.ok.hd hc) pl.isList (by simpa using hi) (by rw [List.size_toArray, hn]; unfold scanBound; omega) fun h' tk hS hk => ?_
  refine ⟨.ref s.heap.objs.size, _, I.laid (a := s.heap.objs.size) (o := .set (fun k' => (firstMet (fun i => ns.getD i 0) its.toArray.size).any (· == k')) (setN ns)) (t' := tk) (fun b u e => hk b u (Heap.lt_size e) e) (Nat.le_refl _) ?_, rfl, q _ _ hf⟩
  show h'.SetOf (intKind X.prog X.w) s.heap.objs.size _ (setN ns)
  have e : setN ns = (firstMet (fun i => ns.getD i 0) its.toArray.size).length := by unfold setN; rw [List.size_toArray, hn]
  rw [e]
  exact hS
theorem call_len_of_set : CallR X (.builtin "len") (fun xs H Q => ∃ (a : Addr) (S : Int → Bool) (n : Nat), xs = [V.ref a] ∧ H a = some (.set S n) ∧ Q (.int n) H) := by
  intro pins s σ H xs us Q I r h
  obtain ⟨a, S, n, rfl, ha, q⟩ := h
  rw [Vals.ref1 r]
  obtain ⟨o, es, ep, t, ho, hex, hd, _, _, hb, hf, hn⟩ := (show ObjOk X.prog X.w H s.heap a (.set S n) from I.hok a _ ha)
  have hfit : (es.size : Int) < 2 ^ 63 := by unfold scanBound at hb; omega
  refine PySem.call_len_set ho hex hd hf hfit ?_
  subst hn
  exact ⟨.int es.size, H, (I.tok _).tok _, ⟨_, rfl⟩, q⟩
end
theorem setN_eq (ns : List Int) : setN ns = (ns.foldl step_dedup []).length := by
  unfold setN firstMet
  have e : (List.range ns.length).map (fun i => ns.getD i 0) = ns := by
    apply List.ext_getElem
    · simp
    · intro i h1 h2
      simp at h1
      simp [List.getD, h1]
  rw [e]
theorem dedup_len : ∀ (l acc : List Int), acc.Nodup → ((l.foldl step_dedup acc).length = acc.length + l.length ↔ (acc ++ l).Nodup)
  | [], acc, h => by simp [h]
  | x :: l, acc, h => by
    rw [List.foldl_cons]
    by_cases hx : acc.any (· == x) = true
    · have e : step_dedup acc x = acc := by unfold step_dedup; rw [if_pos hx]
      rw [e]
      have hm : x ∈ acc := by
        obtain ⟨y, hy, q⟩ := List.any_eq_true.mp hx
        have : y = x := by simpa using q
        rw [← this]; exact hy
      have hle := length_foldl_step_dedup_le l acc
      constructor
      · intro q; rw [List.length_cons] at q; omega
      · intro q
        have := (List.nodup_append.mp q).2.2 x hm x List.mem_cons_self
        exact absurd rfl this
    · have e : step_dedup acc x = acc ++ [x] := by unfold step_dedup; rw [if_neg hx]
      have hm : x ∉ acc := fun q => hx (List.any_eq_true.mpr ⟨x, q, by simp⟩)
      rw [e]
      have nd : (acc ++ [x]).Nodup := by
        rw [List.nodup_append]
        exact ⟨h, by simp, fun a ha b hb => by
          have : b = x := by simpa using hb
          subst this
          exact fun z => hm (by rw [← z]; exact ha)⟩
      have ih := dedup_len l (acc ++ [x]) nd
      rw [List.append_assoc, List.singleton_append, List.length_append, List.length_singleton] at ih
      rw [List.length_cons, ← ih]
      omega
theorem setN_nodup (ns : List Int) : setN ns = ns.length ↔ ns.Nodup := by
  rw [setN_eq]
  have := dedup_len ns [] List.nodup_nil
  simpa using this
/-! a call through a table -/
def CallOk (X : Cx) (f : Addr) (sp : Sp) : Prop := ∃ fd ps k, FnOk X.prog X.w X.K X.mg X.base CX0 k f fd ps sp ∧ Room k X.A ∧ Binds X.K fd ps [] ∧ PySem.W.keepIn X.K (.ref f) = true
/-- the table at d -/
def Tab (K : PySem.W.Frag) (d : Addr) (tb : List (Int × Addr)) : Prop := ∀ (P : Program) (w : World) (h : Heap), K.In h → h.DictOf (mixKind P w) d (tb.map fun p => ((Sum.inl p.1 : Key), Value.ref p.2))
def tTab (X : Cx) (tb : List (Int × Addr)) (ti : TE) (ta : TA) : TE := fun σ H Q => ti σ H fun y H1 => ∃ k f sp, y = .int k ∧ tb.lookup k = some f ∧ CallOk X f sp ∧ ta σ H1 fun vs H2 => sp vs H2 Q E0
theorem tab_val : ∀ {tb : List (Int × Addr)} {k : Int} {f : Addr}, tb.lookup k = some f → valueAt (tb.map fun p => ((Sum.inl p.1 : Key), Value.ref p.2)) (Sum.inl k) = some (Value.ref f)
  | [], k, f, h => by cases h
  | (k', f') :: r, k, f, h => by
    unfold valueAt
    rw [List.map_cons, List.find?_cons]
    by_cases e : k' = k
    · subst e
      have h' : f' = f := by simpa [List.lookup_cons] using h
      subst h'
      simp
    · have hn : ¬ ((Sum.inl k' : Key) = Sum.inl k) := fun q => e (Sum.inl.inj q)
      have e2 : (k == k') = false := beq_eq_false_iff_ne.mpr fun q => e q.symm
      rw [List.lookup_cons, e2] at h
      have ih := tab_val (tb := r) h
      unfold valueAt at ih
      simp only [hn, decide_false]
      exact ih
theorem pe_table {X : Cx} {d : Addr} {tb : List (Int × Addr)} {x : Str} {i e : Expr} {es : List Expr} {p1 p2 pos : Pos} {ti : TE} {ta : TA} (hg : Gl X x) (hm : X.mg x = some (.ref d)) (hT : Tab X.K d tb) (hi : PE X i ti) (hs : NoSl i) (ha : PA X (e :: es) ta)
    (hdb : (x == ("__debug__" : Str)) = false := by decide) (he : starEach (e :: es) X.env = (false, eval e X.env) :: starEach es X.env := by rfl) (hpl : (backTo pos (starEach es X.env)).any (·.1) = false := by rfl) :
    PE X (.Call (.Subscript (.Name x p1) i p2) (e :: es) [] pos) (tTab X tb ti ta) := by
  intro pins s σ H Q I h
  refine Call_ ?_
  refine subD_of PySem.F.slot_dict_getitem.lookup hs (ld_glob I hg hm ?_ hdb)
  refine thn (hi pins s σ H _ I h) fun iv s1 ⟨y, H1, I1, ry, k, f, sp, ey, hk, ⟨fd, ps, kk, F, hr, hb, kp⟩, q⟩ => ?_
  subst ey
  obtain ⟨t, rfl⟩ := ry
  have dd := hT X.prog X.w s1.heap I1.kIn
  refine ⟨dd.typeIs, wpAny_getItem_of (knd := mixKind X.prog X.w) (k := Sum.inl k) (mixKind_int _ _ _ _) dd.mapOf (tab_val hk) ?_⟩
  have I2 := I1.tok (s1.toks + 1)
  refine PySem.W.callWith_K (h₀ := X.base) I.ok.mod.kin kp (thn (ha pos pins _ σ H1 _ I2 q) fun us s2 ⟨vs, H2, I3, r, q2⟩ => ⟨I3.kIn, ?_⟩) he hpl
  exact run_fn (dvs := []) F hr hb .nil pass0 I3 r (by rw [List.append_nil]; exact q2)
end L2
/-! The mathematics: the program's own reckoning over plain lists, and the specification. -/
namespace Cq
open Kg54
/-- four balls, none above 13 -/
structure BOk (b : Balls) : Prop where
  len : b.length = 4
  le : ∀ x, made b x ≤ 13
theorem made_set {b : Balls} {x y v : Nat} (h : x < b.length) : made (b.set x v) y = if y = x then v else made b y := by
  unfold made
  by_cases e : y = x
  · subst e
    simp [List.getD, h]
  · rw [if_neg e]
    simp [List.getD, Ne.symm e]
theorem made_bump {b : Balls} {x y : Nat} (h : x < b.length) : made (bump b x) y = if y = x then made b x + 1 else made b y := made_set h
theorem bump_len (b : Balls) (x : Nat) : (bump b x).length = b.length := by unfold bump; simp
theorem set_made (b : Balls) (x : Nat) (h : x < b.length) : b.set x (made b x) = b := by
  unfold made
  simp [List.getD, h]
/-- a hoop for each ball of ran that has fewer than 12, one behind the other -/
def ranStep (c : Balls) (x : Nat) : Balls := if made c x < 12 then bump c x else c
def pegStep (c : Balls) (x : Nat) : Balls := if made c x = 12 then c.set x 13 else c
/-- the striker's hoop, then the others' -/
def hoops1 (hoop : Bool) (ball : Nat) (b : Balls) : Balls := if hoop = true then bump b ball else b
def hoops2 (hoop : Bool) (ball : Nat) (ran : List Nat) (b : Balls) : Balls := ran.foldl ranStep (hoops1 hoop ball b)
def pegs (ball : Nat) (peg : List Nat) (c : Balls) : Balls := if made c ball = 12 then peg.foldl pegStep c else c
/-- what the program counts -/
def cnt (half fault hoop : Bool) (ball : Nat) (ran peg : List Nat) (b : Balls) : Balls :=
  if fault = true ∨ half = true then b else pegs ball peg (hoops2 hoop ball ran b)
theorem ranStep_len (c : Balls) (x : Nat) : (ranStep c x).length = c.length := by
  unfold ranStep; split <;> simp [bump_len]
theorem pegStep_len (c : Balls) (x : Nat) : (pegStep c x).length = c.length := by
  unfold pegStep; split <;> simp
theorem foldl_len {f : Balls → Nat → Balls} (hf : ∀ c x, (f c x).length = c.length) : ∀ (l : List Nat) (c : Balls), (l.foldl f c).length = c.length
  | [], c => rfl
  | x :: l, c => by rw [List.foldl_cons, foldl_len hf l, hf]
theorem ran_eq (b : Balls) (ball : Nat) : ∀ (ran : List Nat) (c : Balls), ran.Nodup → ball ∉ ran → (∀ x ∈ ran, x < c.length) → (∀ x ∈ ran, made c x = made b x) →
    ran.foldl ranStep c = (ran.filter fun x => x != ball && decide (made b x < HOOPS)).foldl bump c
  | [], c, _, _, _, _ => rfl
  | x :: l, c, nd, hb, hl, hm => by
    have nd' := (List.nodup_cons.mp nd)
    have hx : x < c.length := hl x (List.mem_cons_self)
    have ex : made c x = made b x := hm x (List.mem_cons_self)
    have hbx : (x != ball) = true := by
      simp only [bne_iff_ne, ne_eq]
      intro e; exact hb (by rw [← e]; exact List.mem_cons_self)
    have hb' : ball ∉ l := fun h => hb (List.mem_cons_of_mem _ h)
    rw [List.foldl_cons, List.filter_cons]
    by_cases h : made b x < HOOPS
    · rw [if_pos (by rw [hbx]; simpa using h), List.foldl_cons]
      have e1 : ranStep c x = bump c x := by unfold ranStep; rw [if_pos (by rw [ex]; exact h)]
      rw [e1]
      refine ran_eq b ball l _ nd'.2 hb' (fun y hy => by rw [bump_len]; exact hl y (List.mem_cons_of_mem _ hy)) fun y hy => ?_
      rw [made_bump hx, if_neg (fun e => nd'.1 (by rw [← e]; exact hy))]
      exact hm y (List.mem_cons_of_mem _ hy)
    · rw [if_neg (by rw [hbx]; simpa using h)]
      have e1 : ranStep c x = c := by unfold ranStep; rw [if_neg (by rw [ex]; exact h)]
      rw [e1]
      exact ran_eq b ball l _ nd'.2 hb' (fun y hy => hl y (List.mem_cons_of_mem _ hy)) fun y hy => hm y (List.mem_cons_of_mem _ hy)
theorem peg_eq (b : Balls) : ∀ (peg : List Nat) (c : Balls), peg.Nodup → (∀ x ∈ peg, x < c.length) → (∀ x ∈ peg, made c x = made b x) →
    peg.foldl pegStep c = (peg.filter fun x => made b x == HOOPS).foldl bump c
  | [], c, _, _, _ => rfl
  | x :: l, c, nd, hl, hm => by
    have nd' := (List.nodup_cons.mp nd)
    have hx : x < c.length := hl x (List.mem_cons_self)
    have ex : made c x = made b x := hm x (List.mem_cons_self)
    rw [List.foldl_cons, List.filter_cons]
    by_cases h : made b x = HOOPS
    · rw [if_pos (by simpa using h), List.foldl_cons]
      have e1 : pegStep c x = bump c x := by
        have h2 : made c x = 12 := ex.trans h
        unfold pegStep bump; rw [if_pos h2, h2]
      rw [e1]
      refine peg_eq b l _ nd'.2 (fun y hy => by rw [bump_len]; exact hl y (List.mem_cons_of_mem _ hy)) fun y hy => ?_
      rw [made_bump hx, if_neg (fun e => nd'.1 (by rw [← e]; exact hy))]
      exact hm y (List.mem_cons_of_mem _ hy)
    · rw [if_neg (by simpa using h)]
      have e1 : pegStep c x = c := by unfold pegStep; rw [if_neg (by rw [ex]; exact h)]
      rw [e1]
      exact peg_eq b l _ nd'.2 (fun y hy => hl y (List.mem_cons_of_mem _ hy)) fun y hy => hm y (List.mem_cons_of_mem _ hy)
/-- what can have been -/
structure Could (b : Balls) (t : Kg54.Turn) (k : Stroke) : Prop where
  hit : ∀ x, k.hit = some x → x ≠ t.ball ∧ inPlay b x = true
  hoop : k.hoop = true → made b t.ball < 12
  nran : k.ran.Nodup
  npeg : k.peg.Nodup
  noff : k.off.Nodup
  ran : ∀ x ∈ k.ran, inPlay b x = true
  peg : ∀ x ∈ k.peg, inPlay b x = true
  off : ∀ x ∈ k.off, inPlay b x = true
  own : t.ball ∉ k.ran
theorem could_iff {b : Balls} {t : Kg54.Turn} {k : Stroke} : couldBe b t k = true ↔ Could b t k := by
  unfold couldBe once
  constructor
  · intro h
    simp only [Bool.and_eq_true, List.all_cons, List.all_nil, decide_eq_true_eq, List.all_eq_true, Bool.not_eq_true', Bool.or_eq_true, and_true] at h
    obtain ⟨h1, h2, ⟨⟨a1, a2⟩, ⟨b1, b2⟩, ⟨c1, c2⟩⟩, h4⟩ := h
    refine ⟨fun x e => ?_, fun e => ?_, a1, b1, c1, a2, b2, c2, ?_⟩
    · rw [e] at h1
      simp only [Bool.and_eq_true, bne_iff_ne, ne_eq] at h1
      exact h1
    · rcases h2 with h | h
      · rw [e] at h; cases h
      · exact h
    · intro hm
      have := List.contains_iff_mem.mpr hm
      rw [this] at h4; cases h4
  · intro h
    simp only [Bool.and_eq_true, List.all_cons, List.all_nil, decide_eq_true_eq, List.all_eq_true, Bool.not_eq_true', Bool.or_eq_true, and_true]
    refine ⟨?_, ?_, ⟨⟨h.nran, h.ran⟩, ⟨h.npeg, h.peg⟩, ⟨h.noff, h.off⟩⟩, ?_⟩
    · cases e : k.hit with
      | none => rfl
      | some x =>
        have := h.hit x e
        simp only [Bool.and_eq_true, bne_iff_ne, ne_eq]
        exact this
    · cases e : k.hoop with
      | false => exact .inl rfl
      | true => exact .inr (h.hoop e)
    · cases e : k.ran.contains t.ball with
      | false => rfl
      | true => exact absurd (List.contains_iff_mem.mp e) h.own
theorem inPlay_lt {b : Balls} {x : Nat} (h : inPlay b x = true) : x < 4 ∧ made b x < 13 := by
  unfold inPlay OUT at h
  simpa using h
theorem inPlay_iff {b : Balls} {x : Nat} : inPlay b x = true ↔ x < 4 ∧ made b x < 13 := by
  unfold inPlay OUT
  simp
theorem hoops1_len (hoop : Bool) (x : Nat) (b : Balls) : (hoops1 hoop x b).length = b.length := by
  unfold hoops1
  split
  · exact bump_len b x
  · rfl
theorem hoops2_len (hoop : Bool) (x : Nat) (ran : List Nat) (b : Balls) : (hoops2 hoop x ran b).length = b.length := by
  unfold hoops2
  rw [foldl_len ranStep_len, hoops1_len]
theorem hoops_eq {b : Balls} {t : Kg54.Turn} {k : Stroke} (hb : BOk b) (hc : Could b t k) (hh : t.half = false) : hoops2 k.hoop t.ball k.ran b = afterHoops t k b := by
  unfold afterHoops hoops2
  have hl : ∀ x ∈ k.ran, x < (hoops1 k.hoop t.ball b).length := fun x hx => by
    rw [hoops1_len, hb.len]; exact (inPlay_lt (hc.ran x hx)).1
  rw [if_neg (fun q => by rw [hh] at q; cases q)]
  refine ran_eq b t.ball k.ran _ hc.nran hc.own hl fun x hx => ?_
  unfold hoops1
  by_cases e : k.hoop = true
  · rw [if_pos e]
    rcases Nat.lt_or_ge t.ball b.length with hlt | hlt
    · rw [made_bump hlt, if_neg (fun q => hc.own (by rw [← q]; exact hx))]
    · unfold bump
      rw [List.set_eq_of_length_le hlt]
  · rw [if_neg e]
theorem cnt_eq {b : Balls} {t : Kg54.Turn} {k : Stroke} (hb : BOk b) (hc : Could b t k) : cnt t.half k.fault k.hoop t.ball k.ran k.peg b = after t k b := by
  unfold cnt after
  cases hf : k.fault with
  | true => simp
  | false =>
    cases hh : t.half with
    | true =>
      unfold afterPeg afterHoops
      simp [hh]
    | false =>
      simp only [Bool.false_eq_true, or_self, if_false]
      rw [hoops_eq hb hc hh]
      have hlen : (afterHoops t k b).length = 4 := by
        rw [← hoops_eq hb hc hh, hoops2_len, hb.len]
      unfold afterPeg pegs
      by_cases h12 : made (afterHoops t k b) t.ball = 12
      · rw [if_pos h12, if_neg (by rw [hh]; simp [HOOPS, h12])]
        exact peg_eq _ k.peg _ hc.npeg (fun x hx => by rw [hlen]; exact (inPlay_lt (hc.peg x hx)).1) fun _ _ => rfl
      · rw [if_neg h12, if_pos (.inr h12)]
/-- counting only adds, and never above 13 -/
structure Grown (b c : Balls) : Prop where
  len : c.length = b.length
  ge : ∀ x, made b x ≤ made c x
theorem Grown.refl (b : Balls) : Grown b b := ⟨rfl, fun _ => Nat.le_refl _⟩
theorem Grown.trans {a b c : Balls} (h : Grown a b) (k : Grown b c) : Grown a c := ⟨k.len.trans h.len, fun x => Nat.le_trans (h.ge x) (k.ge x)⟩
theorem made_out {b : Balls} {x : Nat} (h : b.length ≤ x) : made b x = 0 := by
  unfold made
  simp [List.getD, h]
theorem grown_bump (b : Balls) (x : Nat) : Grown b (bump b x) := by
  refine ⟨bump_len b x, fun y => ?_⟩
  by_cases h : x < b.length
  · rw [made_bump h]
    split
    · rename_i e; subst e; omega
    · omega
  · unfold bump
    rw [List.set_eq_of_length_le (Nat.not_lt.mp h)]
    exact Nat.le_refl _
theorem grown_ran (c : Balls) (x : Nat) : Grown c (ranStep c x) := by
  unfold ranStep; split
  · exact grown_bump c x
  · exact .refl c
theorem grown_peg (c : Balls) (x : Nat) : Grown c (pegStep c x) := by
  unfold pegStep
  split
  · rename_i h
    refine ⟨by simp, fun y => ?_⟩
    by_cases hl : x < c.length
    · rw [made_set hl]; split
      · rename_i e; subst e; omega
      · omega
    · rw [List.set_eq_of_length_le (Nat.not_lt.mp hl)]
      exact Nat.le_refl _
  · exact .refl c
theorem grown_fold {f : Balls → Nat → Balls} (hf : ∀ c x, Grown c (f c x)) : ∀ (l : List Nat) (c : Balls), Grown c (l.foldl f c)
  | [], c => .refl c
  | x :: l, c => (hf c x).trans (by rw [List.foldl_cons]; exact grown_fold hf l _)
theorem grown_hoops1 (hoop : Bool) (ball : Nat) (b : Balls) : Grown b (hoops1 hoop ball b) := by
  unfold hoops1
  split
  · exact grown_bump b ball
  · exact .refl b
theorem grown_pegs (ball : Nat) (peg : List Nat) (b : Balls) : Grown b (pegs ball peg b) := by
  unfold pegs
  split
  · exact grown_fold grown_peg peg _
  · exact .refl b
theorem grown_cnt (half fault hoop : Bool) (ball : Nat) (ran peg : List Nat) (b : Balls) : Grown b (cnt half fault hoop ball ran peg b) := by
  unfold cnt
  split
  · exact .refl b
  · exact ((grown_hoops1 hoop ball b).trans (grown_fold grown_ran ran _)).trans (grown_pegs ball peg _)
theorem le_bump {b : Balls} {x : Nat} (h : ∀ y, made b y ≤ 13) (hx : made b x < 13) : ∀ y, made (bump b x) y ≤ 13 := fun y => by
  by_cases hl : x < b.length
  · rw [made_bump hl]; split
    · omega
    · exact h y
  · unfold bump
    rw [List.set_eq_of_length_le (Nat.not_lt.mp hl)]
    exact h y
theorem le_fold {f : Balls → Nat → Balls} (hf : ∀ c x, (∀ y, made c y ≤ 13) → ∀ y, made (f c x) y ≤ 13) : ∀ (l : List Nat) (c : Balls), (∀ y, made c y ≤ 13) → ∀ y, made (l.foldl f c) y ≤ 13
  | [], c, h => h
  | x :: l, c, h => le_fold hf l _ (hf c x h)
theorem le_pegs {ball : Nat} {peg : List Nat} {b : Balls} (h2 : ∀ y, made b y ≤ 13) : ∀ y, made (pegs ball peg b) y ≤ 13 := by
  unfold pegs
  split
  · refine le_fold (f := pegStep) (fun c x h y => ?_) peg _ h2
    unfold pegStep
    split
    · by_cases hl : x < c.length
      · rw [made_set hl]; split
        · omega
        · exact h y
      · rw [List.set_eq_of_length_le (Nat.not_lt.mp hl)]; exact h y
    · exact h y
  · exact h2
theorem ok_cnt {half fault hoop : Bool} {ball : Nat} {ran peg : List Nat} {b : Balls} (hb : BOk b) (hh : hoop = true → made b ball < 12) : BOk (cnt half fault hoop ball ran peg b) := by
  refine ⟨by rw [(grown_cnt half fault hoop ball ran peg b).len, hb.len], ?_⟩
  unfold cnt
  split
  · exact hb.le
  · have h1 : ∀ y, made (hoops1 hoop ball b) y ≤ 13 := by
      unfold hoops1
      split
      · rename_i e; exact le_bump hb.le (by have := hh e; omega)
      · exact hb.le
    refine le_pegs (le_fold (f := ranStep) (fun c x h => ?_) ran _ h1)
    unfold ranStep; split
    · exact le_bump h (by omega)
    · exact h
/-! ### who has won -/
def lead (b : Balls) : Int := if points b 0 = points b 1 then -1 else if points b 1 < points b 0 then 0 else 1
def encW : Option Nat → Int
  | none => -1
  | some w => (w : Int)
def winN (b : Balls) (side : Nat) (time : Nat) : Int :=
  if points b side = 26 then (side : Int) else if points b (1 - side) = 26 then ((1 - side : Nat) : Int) else if time = 3 then lead b else -1
theorem gone_iff {b : Balls} (hb : BOk b) (s : Nat) : gone b s = true ↔ points b s = 26 := by
  unfold gone points OUT
  have h1 := hb.le s
  have h2 := hb.le (s + 2)
  simp only [Bool.and_eq_true, beq_iff_eq]
  omega
theorem encW_points (b : Balls) : encW (if points b 1 < points b 0 then some 0 else if points b 0 < points b 1 then some 1 else none) = lead b := by
  unfold lead
  by_cases h : points b 1 < points b 0
  · rw [if_pos h, if_neg (by omega), if_pos h]; rfl
  · rw [if_neg h]
    by_cases h2 : points b 0 < points b 1
    · rw [if_pos h2, if_neg (by omega), if_neg h]; rfl
    · rw [if_neg h2, if_pos (by omega)]; rfl
theorem winN_eq {b : Balls} (hb : BOk b) (side time : Nat) : winN b side time = encW (winner b side (decide (time = 3))) := by
  unfold winN winner other
  by_cases h1 : points b side = 26
  · rw [if_pos h1, if_pos ((gone_iff hb side).mpr h1)]; rfl
  · rw [if_neg h1, if_neg (fun q => h1 ((gone_iff hb side).mp q))]
    by_cases h2 : points b (1 - side) = 26
    · rw [if_pos h2, if_pos ((gone_iff hb _).mpr h2)]; rfl
    · rw [if_neg h2, if_neg (fun q => h2 ((gone_iff hb _).mp q))]
      by_cases h3 : time = 3
      · rw [if_pos h3, if_pos (by simpa using h3)]
        exact (encW_points b).symm
      · rw [if_neg h3, if_neg (by simpa using h3)]; rfl
theorem lead_eq {b : Balls} {side : Nat} (h : gone b side = false) (h' : gone b (1 - side) = false) : lead b = encW (winner b side true) := by
  unfold winner other
  rw [if_neg (by rw [h]; simp), if_neg (by rw [h']; simp), if_pos rfl]
  exact (encW_points b).symm
end Cq
namespace Cq
open Kg54
/-! ### how a turn goes on, as the program reckons it -/
def hitC (t : Kg54.Turn) (k : Stroke) (b : Balls) : Bool := (roquet t k b).isSome
def bes : Next → Int
  | .single => -1
  | .croquet x => (x : Int)
/-- the turn is over, whatever was earned -/
def loses (t : Kg54.Turn) (k : Stroke) (c : Balls) (hc : Bool) : Bool :=
  if k.fault = true ∨ inPlay c t.ball = false then true else
    match t.next with
    | .single => false
    | .croquet x => if x ∈ k.off ∧ inPlay c x = true then true else decide (t.ball ∈ k.off) && (!ranOwn t k && !hc)
def earns (t : Kg54.Turn) (k : Stroke) (hc : Bool) : Bool := hc || (ranOwn t k || decide (bes t.next ≠ -1))
/-- the next stroke's turn -/
def nextT (t : Kg54.Turn) (k : Stroke) (b c : Balls) : Kg54.Turn :=
  { t with strokes := t.strokes + 1,
           next := match k.hit with
             | some x => if hitC t k b = true ∧ inPlay c x = true then .croquet x else .single
             | none => .single,
           live := (liveAt t k b).filter fun y => decide (k.hit ≠ some y) && inPlay c y }
theorem inPlay_back {b c : Balls} (h : Grown b c) {x : Nat} (q : inPlay c x = true) : inPlay b x = true := by
  obtain ⟨h1, h2⟩ := inPlay_lt q
  exact inPlay_iff.mpr ⟨h1, Nat.lt_of_le_of_lt (h.ge x) h2⟩
theorem others_grown {b c : Balls} (h : Grown b c) (x : Nat) : (others b x).filter (inPlay c) = others c x := by
  unfold others
  rw [List.filter_filter]
  refine List.filter_congr fun y _ => ?_
  cases e : inPlay c y with
  | false => simp
  | true => rw [inPlay_back h e]; simp
theorem roquet_some {t : Kg54.Turn} {k : Stroke} {b : Balls} {x : Nat} (h : roquet t k b = some x) : k.hit = some x ∧ x ∈ liveAt t k b := by
  unfold roquet at h
  cases e : k.hit with
  | none => rw [e] at h; cases h
  | some y =>
    rw [e] at h
    dsimp only at h
    by_cases hm : y ∈ liveAt t k b
    · rw [if_pos hm] at h
      cases h
      exact ⟨rfl, hm⟩
    · rw [if_neg hm] at h; cases h
theorem roquet_none {t : Kg54.Turn} {k : Stroke} {b : Balls} (h : roquet t k b = none) : ∀ x, k.hit = some x → x ∉ liveAt t k b := by
  intro x e hm
  unfold roquet at h
  rw [e] at h
  dsimp only at h
  rw [if_pos hm] at h
  cases h
theorem filter_nohit {t : Kg54.Turn} {k : Stroke} {b c : Balls} (h : roquet t k b = none) : ((liveAt t k b).filter fun y => decide (k.hit ≠ some y) && inPlay c y) = (liveAt t k b).filter (inPlay c) := by
  refine List.filter_congr fun y hy => ?_
  have : k.hit ≠ some y := fun e => roquet_none h y e hy
  simp [this]
theorem goes_eq {t : Kg54.Turn} {k : Stroke} {b : Balls} (hg : Grown b (after t k b)) :
    t.goes k b = if loses t k (after t k b) (hitC t k b) = true ∨ earns t k (hitC t k b) = false then none else some (nextT t k b (after t k b)) := by
  unfold Turn.goes
  dsimp only
  generalize hc : after t k b = c at hg
  by_cases h1 : k.fault = true ∨ inPlay c t.ball = false
  · have e : loses t k c (hitC t k b) = true := by unfold loses; rw [if_pos h1]
    rw [if_pos (show k.fault = true ∨ inPlay c t.ball = false ∨ lostByOff t k b c = true from ?_), if_pos (.inl e)]
    rcases h1 with h | h
    · exact .inl h
    · exact .inr (.inl h)
  · have hl : lostByOff t k b c = loses t k c (hitC t k b) := by
      unfold loses lostByOff
      rw [if_neg h1]
      cases hn : t.next with
      | single => rfl
      | croquet x =>
        dsimp only
        have e1 : k.off.contains x = decide (x ∈ k.off) := by
          by_cases q : x ∈ k.off
          · rw [List.contains_iff_mem.mpr q]; simp [q]
          · have : k.off.contains x = false := by
              cases e : k.off.contains x with
              | false => rfl
              | true => exact absurd (List.contains_iff_mem.mp e) q
            rw [this]; simp [q]
        have e2 : k.off.contains t.ball = decide (t.ball ∈ k.off) := by
          by_cases q : t.ball ∈ k.off
          · rw [List.contains_iff_mem.mpr q]; simp [q]
          · have : k.off.contains t.ball = false := by
              cases e : k.off.contains t.ball with
              | false => rfl
              | true => exact absurd (List.contains_iff_mem.mp e) q
            rw [this]; simp [q]
        have e3 : (roquet t k b).isNone = !hitC t k b := by
          unfold hitC
          cases roquet t k b <;> rfl
        rw [e1, e2, e3]
        by_cases q : x ∈ k.off ∧ inPlay c x = true
        · rw [if_pos q]
          simp [q.1, q.2]
        · rw [if_neg q]
          have : (decide (x ∈ k.off) && inPlay c x) = false := by
            cases e : (decide (x ∈ k.off) && inPlay c x) with
            | false => rfl
            | true => exact absurd (by simpa using e) q
          rw [this, Bool.false_or]
    by_cases h2 : loses t k c (hitC t k b) = true
    · rw [if_pos (show k.fault = true ∨ inPlay c t.ball = false ∨ lostByOff t k b c = true from .inr (.inr (by rw [hl]; exact h2))), if_pos (.inl h2)]
    · have h3 : ¬ (k.fault = true ∨ inPlay c t.ball = false ∨ lostByOff t k b c = true) := by
        rintro (q | q | q)
        · exact h1 (.inl q)
        · exact h1 (.inr q)
        · exact h2 (by rw [← hl]; exact q)
      rw [if_neg h3]
      cases hr : roquet t k b with
      | some x =>
        obtain ⟨ex, hx⟩ := roquet_some hr
        have e : earns t k (hitC t k b) = true := by unfold earns hitC; rw [hr]; rfl
        have hh : hitC t k b = true := by unfold hitC; rw [hr]; rfl
        dsimp only
        refine Eq.trans ?_ (if_neg (by rintro (q | q); exact h2 q; rw [e] at q; cases q)).symm
        unfold nextT
        rw [ex, hh]
        simp only [true_and]
        congr 2
        refine List.filter_congr fun y _ => ?_
        by_cases q : y = x
        · subst q; simp
        · have q2 : ¬ x = y := fun z => q z.symm
          simp [q, q2]
      | none =>
        have hh : hitC t k b = false := by unfold hitC; rw [hr]; rfl
        have nx : nextT t k b c = { t with strokes := t.strokes + 1, next := .single, live := (liveAt t k b).filter (inPlay c) } := by
          unfold nextT
          rw [filter_nohit hr, hh]
          cases k.hit with
          | none => rfl
          | some x => simp
        dsimp only
        by_cases h4 : ranOwn t k = true
        · have e : earns t k (hitC t k b) = true := by unfold earns; rw [h4]; simp
          rw [if_pos h4]
          refine Eq.trans ?_ (if_neg (by rintro (q | q); exact h2 q; rw [e] at q; cases q)).symm
          rw [nx]
          have : liveAt t k b = others b t.ball := by unfold liveAt; rw [if_pos h4]
          rw [this, others_grown hg]
        · have h4' : ranOwn t k = false := by simpa using h4
          have hv : liveAt t k b = t.live := by unfold liveAt; rw [if_neg h4]
          rw [if_neg h4]
          cases hn : t.next with
          | croquet x =>
            have e : earns t k (hitC t k b) = true := by
              unfold earns
              rw [hn]
              have : (x : Int) ≠ -1 := by omega
              simp [bes, this]
            dsimp only
            refine Eq.trans ?_ (if_neg (by rintro (q | q); exact h2 q; rw [e] at q; cases q)).symm
            rw [nx, hv]
          | single =>
            have e : earns t k (hitC t k b) = false := by
              unfold earns
              rw [hn, hh, h4']
              simp [bes]
            dsimp only
            rw [if_pos (.inr e)]
/-! ### what is owed -/
def owesN (lifts : Bool) (pts had mate : Nat) : Nat :=
  if lifts = false then 0 else
    let now := min pts 12
    if had < 7 ∧ 7 ≤ now ∧ (had < 10 ∧ 10 ≤ now) ∧ mate < 7 then 2 else if (had < 7 ∧ 7 ≤ now) ∨ (had < 10 ∧ 10 ≤ now) then 1 else 0
theorem owes_eq (g : Game) (t : Kg54.Turn) : owes g t = owesN g.lifts (made g.balls t.ball) t.had t.mate := by
  unfold owes owesN FIRST SECOND HOOPS
  cases g.lifts with
  | false => simp
  | true =>
    simp only [Bool.true_eq_false, if_false, Bool.and_eq_true, decide_eq_true_eq, and_assoc]
/-! ### the invariant of a game -/
structure TOk (b : Balls) (side : Nat) (t : Kg54.Turn) : Prop where
  ball : t.ball < 4
  inp : inPlay b t.ball = true
  side : sideOf t.ball = side
  live : ∀ y ∈ t.live, y < 4
  next : ∀ x, t.next = .croquet x → x < 4
/-- a game that goes on -/
structure GOk (G : Game) : Prop where
  side : G.side < 2
  time : G.time ≤ 3
  g0 : gone G.balls 0 = false
  g1 : gone G.balls 1 = false
  turn : ∀ t, G.turn = some t → TOk G.balls G.side t
  last : ∀ t, G.last = some t → t.ball < 4 ∧ sideOf t.ball = other G.side
  late : G.time ≠ 0 → G.last = none
/-- a state -/
structure SOk (G : Game) : Prop where
  balls : BOk G.balls
  more : G.more.length = 2
  won : ∀ w, G.won = some w → w < 2
  ok : G.won = none → GOk G
theorem winner_lt {b : Balls} {side : Nat} {p : Bool} (h : side < 2) {w : Nat} (e : winner b side p = some w) : w < 2 := by
  unfold winner other at e
  split at e
  · cases e; exact h
  · split at e
    · cases e; omega
    · split at e
      · split at e
        · cases e; omega
        · split at e
          · cases e; omega
          · cases e
      · cases e
theorem winner_none {b : Balls} {side : Nat} {p : Bool} (h : side < 2) (e : winner b side p = none) : gone b 0 = false ∧ gone b 1 = false := by
  unfold winner other at e
  split at e
  · cases e
  · rename_i h1
    split at e
    · cases e
    · rename_i h2
      have h1' : gone b side = false := by simpa using h1
      have h2' : gone b (1 - side) = false := by simpa using h2
      rcases (show side = 0 ∨ side = 1 by omega) with q | q
      · subst q; exact ⟨h1', h2'⟩
      · subst q; exact ⟨h2', h1'⟩
end Cq
namespace Cq
open Kg54 PyFlat
/-! ### the flat list, call by call -/
/-- what the program reads of a call: its number p, the rest r; c: the call, t: what is left -/
inductive Rd1 : Int → List Int → List (List Int) → List Int → Prop
  | begin_ (l f a b : Int) (t : List Int) : Rd1 1 (l :: f :: a :: b :: t) [[1, l, f, a, b]] t
  | turn (x h : Int) (t : List Int) : Rd1 2 (x :: h :: t) [[2, x, h]] t
  | stroke (h p f : Int) (r g o t : List Int) : Rd1 3 (h :: p :: f :: ((r.length : Int) :: (r ++ ((g.length : Int) :: (g ++ ((o.length : Int) :: (o ++ t))))))) [[3, h, p, f], r, g, o] t
  | pass (t : List Int) : Rd1 4 t [[4]] t
  | more (h : Int) (t : List Int) : Rd1 5 (h :: t) [[5, h]] t
  | wired (t : List Int) : Rd1 6 t [[6]] t
  | time (t : List Int) : Rd1 7 t [[7]] t
  | now (t : List Int) : Rd1 8 t [[8]] t
  | balls (t : List Int) : Rd1 9 t [[9]] t
theorem row_inv {l x s : List Int} (h : row l = some (x, s)) : l = (x.length : Int) :: (x ++ s) := by
  cases l with
  | nil => cases h
  | cons n r =>
    have h' : (if 0 ≤ n ∧ n.toNat ≤ r.length then some (r.take n.toNat, r.drop n.toNat) else none) = some (x, s) := h
    by_cases k : 0 ≤ n ∧ n.toNat ≤ r.length
    · rw [if_pos k] at h'
      simp only [Option.some.injEq, Prod.mk.injEq] at h'
      obtain ⟨rfl, rfl⟩ := h'
      have : ((r.take n.toNat).length : Int) = n := by
        rw [List.length_take]
        omega
      rw [this, List.take_append_drop]
    · rw [if_neg k] at h'
      cases h'
theorem rows_zero {l : List Int} {xs : List (List Int)} {s : List Int} (h : rows 0 l = some (xs, s)) : xs = [] ∧ s = l := by
  unfold rows at h
  simp only [Option.some.injEq, Prod.mk.injEq] at h
  exact ⟨h.1.symm, h.2.symm⟩
theorem rows_succ {k : Nat} {l : List Int} {xs : List (List Int)} {s : List Int} (h : rows (k + 1) l = some (xs, s)) : ∃ x m ys, row l = some (x, m) ∧ rows k m = some (ys, s) ∧ xs = x :: ys := by
  unfold rows at h
  cases e : row l with
  | none => rw [e] at h; cases h
  | some q =>
    obtain ⟨x, m⟩ := q
    rw [e] at h
    dsimp only at h
    cases e2 : rows k m with
    | none => rw [e2] at h; cases h
    | some q2 =>
      obtain ⟨ys, u⟩ := q2
      rw [e2] at h
      dsimp only at h
      simp only [Option.some.injEq, Prod.mk.injEq] at h
      obtain ⟨rfl, rfl⟩ := h
      exact ⟨x, m, ys, rfl, e2, rfl⟩
theorem call_inv {p : Int} {r : List Int} {c : List (List Int)} {t : List Int} (h : call PyKg54.shape (p :: r) = some (c, t)) :
    ∃ n k xs, PyKg54.shape p = some (n, k) ∧ n ≤ r.length ∧ rows k (r.drop n) = some (xs, t) ∧ c = (p :: r.take n) :: xs := by
  unfold call at h
  dsimp only at h
  cases e : PyKg54.shape p with
  | none => rw [e] at h; cases h
  | some q =>
    obtain ⟨n, k⟩ := q
    rw [e] at h
    dsimp only at h
    split at h
    · cases h
    · rename_i hl
      cases e2 : rows k (r.drop n) with
      | none => rw [e2] at h; cases h
      | some q2 =>
        obtain ⟨xs, u⟩ := q2
        rw [e2] at h
        simp only [Option.some.injEq, Prod.mk.injEq] at h
        obtain ⟨rfl, rfl⟩ := h
        exact ⟨n, k, xs, rfl, Nat.not_lt.mp hl, e2, rfl⟩
theorem call_rd {p : Int} {r : List Int} {c : List (List Int)} {t : List Int} (h : call PyKg54.shape (p :: r) = some (c, t)) : Rd1 p r c t := by
  obtain ⟨n, k, xs, hs, hl, hr, rfl⟩ := call_inv h
  unfold PyKg54.shape at hs
  split at hs
  · rename_i e; subst e; cases hs
    obtain ⟨rfl, rfl⟩ := rows_zero hr
    match r, hl with
    | l :: f :: a :: b :: t, _ => exact .begin_ l f a b t
  split at hs
  · rename_i e; subst e; cases hs
    obtain ⟨rfl, rfl⟩ := rows_zero hr
    match r, hl with
    | x :: y :: t, _ => exact .turn x y t
  split at hs
  · rename_i e; subst e; cases hs
    obtain ⟨x1, m1, y1, a1, b1, rfl⟩ := rows_succ hr
    obtain ⟨x2, m2, y2, a2, b2, rfl⟩ := rows_succ b1
    obtain ⟨x3, m3, y3, a3, b3, rfl⟩ := rows_succ b2
    obtain ⟨rfl, rfl⟩ := rows_zero b3
    match r, hl with
    | h :: p :: f :: q, _ =>
      have e1 : q = _ := row_inv a1
      have e2 := row_inv a2
      have e3 := row_inv a3
      rw [e1, e2, e3]
      exact .stroke h p f x1 x2 x3 t
  split at hs
  · rename_i e; subst e; cases hs
    obtain ⟨rfl, rfl⟩ := rows_zero hr
    exact .pass _
  split at hs
  · rename_i e; subst e; cases hs
    obtain ⟨rfl, rfl⟩ := rows_zero hr
    match r, hl with
    | x :: t, _ => exact .more x t
  split at hs
  · rename_i e; subst e; cases hs
    obtain ⟨rfl, rfl⟩ := rows_zero hr
    exact .wired _
  split at hs
  · rename_i e; subst e; cases hs
    obtain ⟨rfl, rfl⟩ := rows_zero hr
    exact .time _
  split at hs
  · rename_i e; subst e; cases hs
    obtain ⟨rfl, rfl⟩ := rows_zero hr
    exact .now _
  split at hs
  · rename_i e; subst e; cases hs
    obtain ⟨rfl, rfl⟩ := rows_zero hr
    exact .balls _
  · cases hs
/-- the calls that a flat list holds -/
inductive RdAll : List Int → List (List (List Int)) → Prop
  | nil : RdAll [] []
  | cons {p : Int} {r t : List Int} {c : List (List Int)} {cs : List (List (List Int))} : Rd1 p r c t → RdAll t cs → RdAll (p :: r) (c :: cs)
theorem calls_rd : ∀ (f : Nat) (l : List Int) (cs : List (List (List Int))), PyFlat.calls PyKg54.shape f l = some cs → RdAll l cs
  | 0, [], cs, h => by
    unfold PyFlat.calls at h
    cases h; exact .nil
  | 0, _ :: _, cs, h => by
    unfold PyFlat.calls at h
    cases h
  | f + 1, [], cs, h => by
    unfold PyFlat.calls at h
    cases h; exact .nil
  | f + 1, p :: r, cs, h => by
    unfold PyFlat.calls at h
    cases e : call PyKg54.shape (p :: r) with
    | none => rw [e] at h; cases h
    | some q =>
      obtain ⟨c, t⟩ := q
      rw [e] at h
      dsimp only at h
      cases e2 : PyFlat.calls PyKg54.shape f t with
      | none => rw [e2] at h; cases h
      | some ds =>
        rw [e2] at h
        cases h
        exact .cons (call_rd e) (calls_rd f t ds e2)
theorem whole_rd {p : Int} {r t : List Int} {c : List (List Int)} (h : Rd1 p r c t) : PyKg54.whole c = c := by
  cases h <;> rfl
theorem whole_all : ∀ {l : List Int} {cs : List (List (List Int))}, RdAll l cs → cs.map PyKg54.whole = cs
  | _, _, .nil => rfl
  | _, _, .cons h t => by rw [List.map_cons, whole_rd h, whole_all t]
/-- the answers told from a state on -/
def tell (s : State) (cs : List (List (List Int))) : List Int := PyFlat.told (PyFlat.played Kg54Neutral.step s cs)
theorem tell_cons (s : State) (c : List (List Int)) (cs : List (List (List Int))) :
    tell s (c :: cs) = ((Kg54Neutral.step s c).2.length : Int) :: ((Kg54Neutral.step s c).2 ++ tell (Kg54Neutral.step s c).1 cs) := by
  unfold tell PyFlat.told
  show List.flatMap _ ((Kg54Neutral.step s c).2 :: PyFlat.played Kg54Neutral.step (Kg54Neutral.step s c).1 cs) = _
  rw [List.flatMap_cons]
  rfl
/-- what is asked: the calls of the list, at most 300 of them, each as it may be -/
theorem asked_rd {l : List Int} (h : PyKg54.answers_asked l = true) :
    ∃ cs, RdAll l cs ∧ cs.length ≤ 300 ∧ (∀ c ∈ cs, Kg54Neutral.asked1 c = true) ∧ PyKg54.answers l = tell none cs := by
  unfold PyKg54.answers_asked at h
  cases e : PyKg54.calls l with
  | none => rw [e] at h; cases h
  | some ds =>
    rw [e] at h
    dsimp only at h
    unfold PyKg54.calls at e
    cases e2 : PyFlat.calls PyKg54.shape l.length l with
    | none => rw [e2] at e; cases e
    | some cs =>
      rw [e2] at e
      dsimp only at e
      have hR := calls_rd _ _ _ e2
      rw [whole_all hR] at e
      obtain rfl := Option.some.inj e
      clear e
      have e3 : PyKg54.calls l = some cs := by
        unfold PyKg54.calls
        rw [e2]
        dsimp only
        rw [whole_all hR]
      simp only [Bool.and_eq_true, PyFlat.atMost, decide_eq_true_eq, Kg54Neutral.asked, List.all_eq_true] at h
      refine ⟨cs, hR, h.1, h.2.1, ?_⟩
      unfold PyKg54.answers
      rw [e3]
      rfl
theorem asked_row {r : List Int} (h : Kg54Neutral.row r 8 = true) : r.length ≤ 8 := by
  unfold Kg54Neutral.row at h
  simp only [Bool.and_eq_true, decide_eq_true_eq] at h
  exact h.2
end Cq
namespace Cq
open Kg54
/-! ### the invariant is kept -/
theorem ok_start {l : Bool} {f a b : Nat} (hf : f < 2) : SOk ⟨l, [0, 0, 0, 0], [a, b], f, none, none, 0, 0, none⟩ := by
  refine ⟨⟨rfl, fun x => ?_⟩, rfl, fun w h => (by cases h), fun _ => ⟨hf, (by show 0 ≤ 3; decide), (by show gone [0, 0, 0, 0] 0 = false; decide), (by show gone [0, 0, 0, 0] 1 = false; decide), fun t h => (by cases h), fun t h => (by cases h), fun h => absurd rfl h⟩⟩
  have : made [0, 0, 0, 0] x = 0 := by
    unfold made
    match x with
    | 0 => rfl
    | 1 => rfl
    | 2 => rfl
    | 3 => rfl
    | n + 4 => rfl
  dsimp only
  rw [this]; omega
theorem tok_begun {G : Game} {x : Nat} {h : Bool} (hp : inPlay G.balls x = true) : TOk G.balls (sideOf x) (begun G x h) := by
  obtain ⟨h1, h2⟩ := inPlay_lt hp
  refine ⟨h1, hp, rfl, fun y hy => ?_, fun x e => (by cases e)⟩
  have hy : y ∈ others G.balls x := hy
  unfold others at hy
  exact List.mem_range.mp (List.mem_filter.mp hy).1
theorem others_lt {b : Balls} {x y : Nat} (hy : y ∈ others b x) : y < 4 := by
  unfold others at hy
  exact List.mem_range.mp (List.mem_filter.mp hy).1
theorem ok_turn {G : Game} (h : SOk G) (hw : G.won = none) {x : Nat} (hs : sideOf x = G.side) (hp : inPlay G.balls x = true) :
    SOk { G with turn := some (begun G x false), last := none, owed := 0 } := by
  have o := h.ok hw
  refine ⟨h.balls, h.more, h.won, fun _ => ⟨o.side, o.time, o.g0, o.g1, fun t e => ?_, fun t e => (by cases e), fun _ => rfl⟩⟩
  cases e
  have := tok_begun (G := G) (h := false) hp
  rw [hs] at this
  exact this
theorem ok_more {G : Game} (h : SOk G) (hw : G.won = none) {t : Kg54.Turn} (hl : G.last = some t) (hp : inPlay G.balls t.ball = true) {hf : Bool} {m : Nat} :
    SOk { G with side := other G.side, more := G.more.set (other G.side) m, turn := some (begun G t.ball hf), last := none, owed := 0 } := by
  have o := h.ok hw
  obtain ⟨h1, h2⟩ := o.last t hl
  refine ⟨h.balls, by simpa using h.more, h.won, fun _ => ⟨by unfold other; dsimp only; omega, o.time, o.g0, o.g1, fun u e => ?_, fun t e => (by cases e), fun _ => rfl⟩⟩
  cases e
  have := tok_begun (G := G) (h := hf) hp
  rw [h2] at this
  exact this
theorem ok_wired {G : Game} (h : SOk G) {n : Nat} : SOk { G with owed := n } := by
  refine ⟨h.balls, h.more, h.won, fun e => ?_⟩
  have o := h.ok e
  exact ⟨o.side, o.time, o.g0, o.g1, o.turn, o.last, o.late⟩
theorem ok_time {G : Game} (h : SOk G) : SOk { G with time := 1, last := none } := by
  refine ⟨h.balls, h.more, h.won, fun e => ?_⟩
  have o := h.ok e
  exact ⟨o.side, (by show 1 ≤ 3; decide), o.g0, o.g1, o.turn, fun t e => (by cases e), fun _ => rfl⟩
/-- a turn is over -/
theorem ok_pass {G : Game} (hbl : BOk G.balls) (hmo : G.more.length = 2) (hw : G.won = none) (hsi : G.side < 2) (hti : G.time ≤ 3) (hg0 : gone G.balls 0 = false) (hg1 : gone G.balls 1 = false) {t : Option Kg54.Turn} (ht : ∀ u, t = some u → u.ball < 4 ∧ sideOf u.ball = G.side) : SOk (G.pass t) := by
  have hs : other G.side < 2 := by unfold other; omega
  have hoo : other (other G.side) = G.side := by unfold other; omega
  have hwn : ∀ w, G.won = some w → w < 2 := fun w e => by rw [hw] at e; cases e
  unfold Game.pass
  dsimp only
  split
  · exact ⟨hbl, hmo, hwn, fun _ => ⟨hs, (by show 2 ≤ 3; decide), hg0, hg1, fun u e => (by cases e), fun u e => (by cases e), fun _ => rfl⟩⟩
  split
  · exact ⟨hbl, hmo, fun w e => winner_lt hsi e, fun e => ⟨hs, (by show 3 ≤ 3; decide), hg0, hg1, fun u e => (by cases e), fun u e => (by cases e), fun _ => rfl⟩⟩
  split
  · exact ⟨hbl, hmo, hwn, fun _ => ⟨hs, hti, hg0, hg1, fun u e => (by cases e), fun u e => (by cases e), fun _ => rfl⟩⟩
  · rename_i h1 h2 h3
    have h0 : G.time = 0 := by omega
    refine ⟨hbl, hmo, hwn, fun _ => ⟨hs, hti, hg0, hg1, fun u e => (by cases e), fun u e => ?_, fun e => absurd h0 e⟩⟩
    obtain ⟨a, b⟩ := ht u e
    exact ⟨a, by rw [b]; exact hoo.symm⟩
theorem after_grown {b : Balls} {t : Kg54.Turn} {k : Stroke} (hb : BOk b) (hc : Could b t k) : Grown b (after t k b) := by
  rw [← cnt_eq hb hc]; exact grown_cnt _ _ _ _ _ _ _
theorem after_ok {b : Balls} {t : Kg54.Turn} {k : Stroke} (hb : BOk b) (hc : Could b t k) : BOk (after t k b) := by
  rw [← cnt_eq hb hc]; exact ok_cnt hb hc.hoop
theorem liveAt_lt {b : Balls} {t : Kg54.Turn} {k : Stroke} {s : Nat} (ht : TOk b s t) : ∀ y ∈ liveAt t k b, y < 4 := by
  intro y hy
  unfold liveAt at hy
  split at hy
  · exact others_lt hy
  · exact ht.live y hy
theorem tok_next {b : Balls} {t : Kg54.Turn} {k : Stroke} {s : Nat} (hb : BOk b) (hc : Could b t k) (ht : TOk b s t) {u : Kg54.Turn} (e : t.goes k b = some u) : TOk (after t k b) s u := by
  have e0 := e
  rw [goes_eq (after_grown hb hc)] at e
  split at e
  · cases e
  · rename_i hl
    cases e
    have hl' : ¬ loses t k (after t k b) (hitC t k b) = true := fun q => hl (.inl q)
    have hi : inPlay (after t k b) t.ball = true := by
      unfold loses at hl'
      cases q : inPlay (after t k b) t.ball with
      | true => rfl
      | false => rw [if_pos (.inr q)] at hl'; exact absurd rfl hl'
    refine ⟨ht.ball, hi, ht.side, fun y hy => ?_, fun x e => ?_⟩
    · exact liveAt_lt ht y (List.mem_filter.mp hy).1
    · unfold nextT at e
      dsimp only at e
      cases q : k.hit with
      | none => rw [q] at e; cases e
      | some z =>
        rw [q] at e
        dsimp only at e
        split at e
        · cases e
          exact (inPlay_lt (hc.hit _ q).2).1
        · cases e
theorem ok_struck {G : Game} (h : SOk G) (hw : G.won = none) {t : Kg54.Turn} {k : Stroke} (ht : G.turn = some t) (hc : Could G.balls t k) : SOk (G.struck t k) := by
  have o := h.ok hw
  have tk := o.turn t ht
  have hb := after_ok h.balls hc
  have hsd : sideOf t.ball < 2 := by unfold sideOf; omega
  unfold Game.struck
  dsimp only
  cases e : winner (after t k G.balls) (sideOf t.ball) (decide (G.time = 3)) with
  | some w =>
    dsimp only
    exact ⟨hb, h.more, fun w' e' => by cases e'; exact winner_lt hsd e, fun e' => by cases e'⟩
  | none =>
    dsimp only
    obtain ⟨g0, g1⟩ := winner_none hsd e
    cases e2 : t.goes k G.balls with
    | some u =>
      dsimp only
      refine ⟨hb, h.more, h.won, fun _ => ⟨o.side, o.time, g0, g1, fun v e3 => ?_, o.last, o.late⟩⟩
      cases e3
      exact tok_next h.balls hc tk e2
    | none =>
      dsimp only
      refine ok_pass (G := { G with balls := after t k G.balls }) hb h.more hw o.side o.time g0 g1 fun u e3 => ?_
      cases e3
      exact ⟨tk.ball, tk.side⟩
end Cq
set_option Elab.async false
set_option linter.all false
set_option maxRecDepth 100000
set_option maxHeartbeats 2000000
namespace Hg
open PySem PySem.Spec PyProof.Rows L2
theorem bo_set : bootBuiltins "set" = some (.type "set") := by decide +kernel
theorem bo_min : bootBuiltins "min" = some (.builtin "min") := by decide +kernel
theorem bo_max : bootBuiltins "max" = some (.builtin "max") := by decide +kernel
theorem bo_all : bootBuiltins "all" = some (.builtin "all") := by decide +kernel
theorem bo_any : bootBuiltins "any" = some (.builtin "any") := by decide +kernel
def top (i : Nat) : Stmt := PySem.Challenge.pw_hoopgame_s01_answers.main.body.getD i (.Pass ⟨0, 0, 0, 0⟩)
abbrev st_Stroke_init : Stmt := inClass (top 18) 0
abbrev st_Turn_init : Stmt := inClass (top 19) 0
abbrev st_Game_init : Stmt := inClass (top 20) 0
abbrev st_Game_is_out : Stmt := inClass (top 20) 1
abbrev st_Game_others_in_play : Stmt := inClass (top 20) 2
abbrev st_Game_side_points : Stmt := inClass (top 20) 3
abbrev st_Game_leader : Stmt := inClass (top 20) 4
abbrev st_Game_state : Stmt := inClass (top 20) 5
abbrev st_side_of : Stmt := top 21
abbrev st_partner_of : Stmt := top 22
abbrev st_begin_turn : Stmt := top 23
abbrev st_hand_over : Stmt := top 24
abbrev st_pass_turn : Stmt := top 25
abbrev st_end_turn : Stmt := top 26
abbrev st_find_wired : Stmt := top 27
abbrev st_call_time : Stmt := top 28
abbrev st_owed_for : Stmt := top 29
abbrev st_price_of : Stmt := top 30
abbrev st_take_turn_more : Stmt := top 31
abbrev st_play_stroke : Stmt := top 32
abbrev st_hoop_counts : Stmt := top 33
abbrev st_live_as_it_hits : Stmt := top 34
abbrev st_count_points : Stmt := top 35
abbrev st_winner_behind_stroke : Stmt := top 36
abbrev st_prepare_next_stroke : Stmt := top 37
abbrev st_loses_turn : Stmt := top 38
abbrev st_earns_stroke : Stmt := top 39
abbrev st_Referee_init : Stmt := inClass (top 43) 0
abbrev st_Reader_init : Stmt := inClass (top 44) 0
abbrev st_Reader_at_end : Stmt := inClass (top 44) 1
abbrev st_Reader_number : Stmt := inClass (top 44) 2
abbrev st_Reader_row : Stmt := inClass (top 44) 3
abbrev st_Reader_stroke : Stmt := inClass (top 44) 4
abbrev st_no_game_goes_on : Stmt := top 45
abbrev st_refusal_of_begin : Stmt := top 46
abbrev st_refusal_of_turn : Stmt := top 47
abbrev st_refusal_of_stroke : Stmt := top 48
abbrev st_is_in_range : Stmt := top 49
abbrev st_can_have_been : Stmt := top 50
abbrev st_can_be_told : Stmt := top 51
abbrev st_refusal_between_turns : Stmt := top 52
abbrev st_refusal_of_time : Stmt := top 53
abbrev st_refusal_of_more : Stmt := top 54
abbrev st_answer_begin : Stmt := top 55
abbrev st_answer_turn : Stmt := top 56
abbrev st_answer_stroke : Stmt := top 57
abbrev st_answer_pass : Stmt := top 58
abbrev st_answer_more : Stmt := top 59
abbrev st_answer_wired : Stmt := top 60
abbrev st_answer_time : Stmt := top 61
abbrev st_answer_now : Stmt := top 62
abbrev st_told_of_turn : Stmt := top 63
abbrev st_answer_balls : Stmt := top 64
abbrev st_answer_call : Stmt := top 66
abbrev st_answers : Stmt := top 67
structure Adr where
  Stroke_init : Addr
  Stroke_init_d : FuncData
  Turn_init : Addr
  Turn_init_d : FuncData
  Game_init : Addr
  Game_init_d : FuncData
  Game_is_out : Addr
  Game_is_out_d : FuncData
  Game_others_in_play : Addr
  Game_others_in_play_d : FuncData
  Game_side_points : Addr
  Game_side_points_d : FuncData
  Game_leader : Addr
  Game_leader_d : FuncData
  Game_state : Addr
  Game_state_d : FuncData
  side_of : Addr
  side_of_d : FuncData
  partner_of : Addr
  partner_of_d : FuncData
  begin_turn : Addr
  begin_turn_d : FuncData
  hand_over : Addr
  hand_over_d : FuncData
  pass_turn : Addr
  pass_turn_d : FuncData
  end_turn : Addr
  end_turn_d : FuncData
  find_wired : Addr
  find_wired_d : FuncData
  call_time : Addr
  call_time_d : FuncData
  owed_for : Addr
  owed_for_d : FuncData
  price_of : Addr
  price_of_d : FuncData
  take_turn_more : Addr
  take_turn_more_d : FuncData
  play_stroke : Addr
  play_stroke_d : FuncData
  hoop_counts : Addr
  hoop_counts_d : FuncData
  live_as_it_hits : Addr
  live_as_it_hits_d : FuncData
  count_points : Addr
  count_points_d : FuncData
  winner_behind_stroke : Addr
  winner_behind_stroke_d : FuncData
  prepare_next_stroke : Addr
  prepare_next_stroke_d : FuncData
  loses_turn : Addr
  loses_turn_d : FuncData
  earns_stroke : Addr
  earns_stroke_d : FuncData
  Referee_init : Addr
  Referee_init_d : FuncData
  Reader_init : Addr
  Reader_init_d : FuncData
  Reader_at_end : Addr
  Reader_at_end_d : FuncData
  Reader_number : Addr
  Reader_number_d : FuncData
  Reader_row : Addr
  Reader_row_d : FuncData
  Reader_stroke : Addr
  Reader_stroke_d : FuncData
  no_game_goes_on : Addr
  no_game_goes_on_d : FuncData
  refusal_of_begin : Addr
  refusal_of_begin_d : FuncData
  refusal_of_turn : Addr
  refusal_of_turn_d : FuncData
  refusal_of_stroke : Addr
  refusal_of_stroke_d : FuncData
  is_in_range : Addr
  is_in_range_d : FuncData
  can_have_been : Addr
  can_have_been_d : FuncData
  can_be_told : Addr
  can_be_told_d : FuncData
  refusal_between_turns : Addr
  refusal_between_turns_d : FuncData
  refusal_of_time : Addr
  refusal_of_time_d : FuncData
  refusal_of_more : Addr
  refusal_of_more_d : FuncData
  answer_begin : Addr
  answer_begin_d : FuncData
  answer_turn : Addr
  answer_turn_d : FuncData
  answer_stroke : Addr
  answer_stroke_d : FuncData
  answer_pass : Addr
  answer_pass_d : FuncData
  answer_more : Addr
  answer_more_d : FuncData
  answer_wired : Addr
  answer_wired_d : FuncData
  answer_time : Addr
  answer_time_d : FuncData
  answer_now : Addr
  answer_now_d : FuncData
  told_of_turn : Addr
  told_of_turn_d : FuncData
  answer_balls : Addr
  answer_balls_d : FuncData
  answer_call : Addr
  answer_call_d : FuncData
  answers : Addr
  answers_d : FuncData
  C_Stroke : Addr
  C_Turn : Addr
  C_Game : Addr
  C_Referee : Addr
  C_Reader : Addr
  V_BALLS : Addr
  k_NO_BALL : Tok
  k_NO_SIDE : Tok
  k_ALL_HOOPS : Tok
  k_OUT : Tok
  k_FIRST_LIFT : Tok
  k_SECOND_LIFT : Tok
  k_LIFT : Tok
  k_LIFT_TO_A_BALL : Tok
  k_BY_ITSELF : Tok
  k_BALL_AT_SIDE : Tok
  k_TURN_OVER : Tok
  k_GAME_OVER : Tok
  k_TIME_NOT_CALLED : Tok
  k_TIME_CALLED : Tok
  k_TIME_LAST_TURN : Tok
  k_TIME_TILL_ONE_HAS_MORE : Tok
  k_MOST_HALF_TURNS : Tok
  k_BALLS_TOLD : Tok
  V_CALLS : Addr
structure Txt (K : PySem.W.Frag) (mg : Str → Option Value) (a : Adr) : Prop where
  F_Stroke_init : Fun K "__init__" "Stroke.__init__" st_Stroke_init a.Stroke_init a.Stroke_init_d
  b_Stroke_init : Binds K a.Stroke_init_d ["self", "hit", "hoop", "fault", "ran", "peg", "off"] []
  F_Turn_init : Fun K "__init__" "Turn.__init__" st_Turn_init a.Turn_init a.Turn_init_d
  b_Turn_init : Binds K a.Turn_init_d ["self", "ball", "half", "game"] []
  F_Game_init : Fun K "__init__" "Game.__init__" st_Game_init a.Game_init a.Game_init_d
  b_Game_init : Binds K a.Game_init_d ["self", "lifts", "first", "half_turns"] []
  F_Game_is_out : Fun K "is_out" "Game.is_out" st_Game_is_out a.Game_is_out a.Game_is_out_d
  b_Game_is_out : Binds K a.Game_is_out_d ["self", "ball"] []
  m_Game_is_out : Meth K a.C_Game "is_out" a.Game_is_out
  F_Game_others_in_play : Fun K "others_in_play" "Game.others_in_play" st_Game_others_in_play a.Game_others_in_play a.Game_others_in_play_d
  b_Game_others_in_play : Binds K a.Game_others_in_play_d ["self", "ball"] []
  m_Game_others_in_play : Meth K a.C_Game "others_in_play" a.Game_others_in_play
  F_Game_side_points : Fun K "side_points" "Game.side_points" st_Game_side_points a.Game_side_points a.Game_side_points_d
  b_Game_side_points : Binds K a.Game_side_points_d ["self", "side"] []
  m_Game_side_points : Meth K a.C_Game "side_points" a.Game_side_points
  F_Game_leader : Fun K "leader" "Game.leader" st_Game_leader a.Game_leader a.Game_leader_d
  b_Game_leader : Binds K a.Game_leader_d ["self"] []
  m_Game_leader : Meth K a.C_Game "leader" a.Game_leader
  F_Game_state : Fun K "state" "Game.state" st_Game_state a.Game_state a.Game_state_d
  b_Game_state : Binds K a.Game_state_d ["self"] []
  m_Game_state : Meth K a.C_Game "state" a.Game_state
  F_side_of : Fun K "side_of" "side_of" st_side_of a.side_of a.side_of_d
  b_side_of : Binds K a.side_of_d ["ball"] []
  g_side_of : mg "side_of" = some (.ref a.side_of)
  F_partner_of : Fun K "partner_of" "partner_of" st_partner_of a.partner_of a.partner_of_d
  b_partner_of : Binds K a.partner_of_d ["ball"] []
  g_partner_of : mg "partner_of" = some (.ref a.partner_of)
  F_begin_turn : Fun K "begin_turn" "begin_turn" st_begin_turn a.begin_turn a.begin_turn_d
  b_begin_turn : Binds K a.begin_turn_d ["game", "ball", "half"] []
  g_begin_turn : mg "begin_turn" = some (.ref a.begin_turn)
  F_hand_over : Fun K "hand_over" "hand_over" st_hand_over a.hand_over a.hand_over_d
  b_hand_over : Binds K a.hand_over_d ["game", "owed"] []
  g_hand_over : mg "hand_over" = some (.ref a.hand_over)
  F_pass_turn : Fun K "pass_turn" "pass_turn" st_pass_turn a.pass_turn a.pass_turn_d
  b_pass_turn : Binds K a.pass_turn_d ["game"] []
  g_pass_turn : mg "pass_turn" = some (.ref a.pass_turn)
  F_end_turn : Fun K "end_turn" "end_turn" st_end_turn a.end_turn a.end_turn_d
  b_end_turn : Binds K a.end_turn_d ["game"] []
  g_end_turn : mg "end_turn" = some (.ref a.end_turn)
  F_find_wired : Fun K "find_wired" "find_wired" st_find_wired a.find_wired a.find_wired_d
  b_find_wired : Binds K a.find_wired_d ["game"] []
  g_find_wired : mg "find_wired" = some (.ref a.find_wired)
  F_call_time : Fun K "call_time" "call_time" st_call_time a.call_time a.call_time_d
  b_call_time : Binds K a.call_time_d ["game"] []
  g_call_time : mg "call_time" = some (.ref a.call_time)
  F_owed_for : Fun K "owed_for" "owed_for" st_owed_for a.owed_for a.owed_for_d
  b_owed_for : Binds K a.owed_for_d ["game", "turn"] []
  g_owed_for : mg "owed_for" = some (.ref a.owed_for)
  F_price_of : Fun K "price_of" "price_of" st_price_of a.price_of a.price_of_d
  b_price_of : Binds K a.price_of_d ["half"] []
  g_price_of : mg "price_of" = some (.ref a.price_of)
  F_take_turn_more : Fun K "take_turn_more" "take_turn_more" st_take_turn_more a.take_turn_more a.take_turn_more_d
  b_take_turn_more : Binds K a.take_turn_more_d ["game", "half"] []
  g_take_turn_more : mg "take_turn_more" = some (.ref a.take_turn_more)
  F_play_stroke : Fun K "play_stroke" "play_stroke" st_play_stroke a.play_stroke a.play_stroke_d
  b_play_stroke : Binds K a.play_stroke_d ["game", "stroke"] []
  g_play_stroke : mg "play_stroke" = some (.ref a.play_stroke)
  F_hoop_counts : Fun K "hoop_counts" "hoop_counts" st_hoop_counts a.hoop_counts a.hoop_counts_d
  b_hoop_counts : Binds K a.hoop_counts_d ["turn", "stroke"] []
  g_hoop_counts : mg "hoop_counts" = some (.ref a.hoop_counts)
  F_live_as_it_hits : Fun K "live_as_it_hits" "live_as_it_hits" st_live_as_it_hits a.live_as_it_hits a.live_as_it_hits_d
  b_live_as_it_hits : Binds K a.live_as_it_hits_d ["game", "stroke"] []
  g_live_as_it_hits : mg "live_as_it_hits" = some (.ref a.live_as_it_hits)
  F_count_points : Fun K "count_points" "count_points" st_count_points a.count_points a.count_points_d
  b_count_points : Binds K a.count_points_d ["game", "stroke"] []
  g_count_points : mg "count_points" = some (.ref a.count_points)
  F_winner_behind_stroke : Fun K "winner_behind_stroke" "winner_behind_stroke" st_winner_behind_stroke a.winner_behind_stroke a.winner_behind_stroke_d
  b_winner_behind_stroke : Binds K a.winner_behind_stroke_d ["game"] []
  g_winner_behind_stroke : mg "winner_behind_stroke" = some (.ref a.winner_behind_stroke)
  F_prepare_next_stroke : Fun K "prepare_next_stroke" "prepare_next_stroke" st_prepare_next_stroke a.prepare_next_stroke a.prepare_next_stroke_d
  b_prepare_next_stroke : Binds K a.prepare_next_stroke_d ["game", "stroke", "live"] []
  g_prepare_next_stroke : mg "prepare_next_stroke" = some (.ref a.prepare_next_stroke)
  F_loses_turn : Fun K "loses_turn" "loses_turn" st_loses_turn a.loses_turn a.loses_turn_d
  b_loses_turn : Binds K a.loses_turn_d ["game", "stroke", "hit_counts"] []
  g_loses_turn : mg "loses_turn" = some (.ref a.loses_turn)
  F_earns_stroke : Fun K "earns_stroke" "earns_stroke" st_earns_stroke a.earns_stroke a.earns_stroke_d
  b_earns_stroke : Binds K a.earns_stroke_d ["turn", "stroke", "hit_counts"] []
  g_earns_stroke : mg "earns_stroke" = some (.ref a.earns_stroke)
  F_Referee_init : Fun K "__init__" "Referee.__init__" st_Referee_init a.Referee_init a.Referee_init_d
  b_Referee_init : Binds K a.Referee_init_d ["self"] []
  F_Reader_init : Fun K "__init__" "Reader.__init__" st_Reader_init a.Reader_init a.Reader_init_d
  b_Reader_init : Binds K a.Reader_init_d ["self", "calls"] []
  F_Reader_at_end : Fun K "at_end" "Reader.at_end" st_Reader_at_end a.Reader_at_end a.Reader_at_end_d
  b_Reader_at_end : Binds K a.Reader_at_end_d ["self"] []
  m_Reader_at_end : Meth K a.C_Reader "at_end" a.Reader_at_end
  F_Reader_number : Fun K "number" "Reader.number" st_Reader_number a.Reader_number a.Reader_number_d
  b_Reader_number : Binds K a.Reader_number_d ["self"] []
  m_Reader_number : Meth K a.C_Reader "number" a.Reader_number
  F_Reader_row : Fun K "row" "Reader.row" st_Reader_row a.Reader_row a.Reader_row_d
  b_Reader_row : Binds K a.Reader_row_d ["self"] []
  m_Reader_row : Meth K a.C_Reader "row" a.Reader_row
  F_Reader_stroke : Fun K "stroke" "Reader.stroke" st_Reader_stroke a.Reader_stroke a.Reader_stroke_d
  b_Reader_stroke : Binds K a.Reader_stroke_d ["self"] []
  m_Reader_stroke : Meth K a.C_Reader "stroke" a.Reader_stroke
  F_no_game_goes_on : Fun K "no_game_goes_on" "no_game_goes_on" st_no_game_goes_on a.no_game_goes_on a.no_game_goes_on_d
  b_no_game_goes_on : Binds K a.no_game_goes_on_d ["game"] []
  g_no_game_goes_on : mg "no_game_goes_on" = some (.ref a.no_game_goes_on)
  F_refusal_of_begin : Fun K "refusal_of_begin" "refusal_of_begin" st_refusal_of_begin a.refusal_of_begin a.refusal_of_begin_d
  b_refusal_of_begin : Binds K a.refusal_of_begin_d ["lifts", "first", "half_turns"] []
  g_refusal_of_begin : mg "refusal_of_begin" = some (.ref a.refusal_of_begin)
  F_refusal_of_turn : Fun K "refusal_of_turn" "refusal_of_turn" st_refusal_of_turn a.refusal_of_turn a.refusal_of_turn_d
  b_refusal_of_turn : Binds K a.refusal_of_turn_d ["game", "ball", "how"] []
  g_refusal_of_turn : mg "refusal_of_turn" = some (.ref a.refusal_of_turn)
  F_refusal_of_stroke : Fun K "refusal_of_stroke" "refusal_of_stroke" st_refusal_of_stroke a.refusal_of_stroke a.refusal_of_stroke_d
  b_refusal_of_stroke : Binds K a.refusal_of_stroke_d ["game", "stroke"] []
  g_refusal_of_stroke : mg "refusal_of_stroke" = some (.ref a.refusal_of_stroke)
  F_is_in_range : Fun K "is_in_range" "is_in_range" st_is_in_range a.is_in_range a.is_in_range_d
  b_is_in_range : Binds K a.is_in_range_d ["stroke"] []
  g_is_in_range : mg "is_in_range" = some (.ref a.is_in_range)
  F_can_have_been : Fun K "can_have_been" "can_have_been" st_can_have_been a.can_have_been a.can_have_been_d
  b_can_have_been : Binds K a.can_have_been_d ["game", "stroke"] []
  g_can_have_been : mg "can_have_been" = some (.ref a.can_have_been)
  F_can_be_told : Fun K "can_be_told" "can_be_told" st_can_be_told a.can_be_told a.can_be_told_d
  b_can_be_told : Binds K a.can_be_told_d ["game", "balls"] []
  g_can_be_told : mg "can_be_told" = some (.ref a.can_be_told)
  F_refusal_between_turns : Fun K "refusal_between_turns" "refusal_between_turns" st_refusal_between_turns a.refusal_between_turns a.refusal_between_turns_d
  b_refusal_between_turns : Binds K a.refusal_between_turns_d ["game"] []
  g_refusal_between_turns : mg "refusal_between_turns" = some (.ref a.refusal_between_turns)
  F_refusal_of_time : Fun K "refusal_of_time" "refusal_of_time" st_refusal_of_time a.refusal_of_time a.refusal_of_time_d
  b_refusal_of_time : Binds K a.refusal_of_time_d ["game"] []
  g_refusal_of_time : mg "refusal_of_time" = some (.ref a.refusal_of_time)
  F_refusal_of_more : Fun K "refusal_of_more" "refusal_of_more" st_refusal_of_more a.refusal_of_more a.refusal_of_more_d
  b_refusal_of_more : Binds K a.refusal_of_more_d ["game", "half"] []
  g_refusal_of_more : mg "refusal_of_more" = some (.ref a.refusal_of_more)
  F_answer_begin : Fun K "answer_begin" "answer_begin" st_answer_begin a.answer_begin a.answer_begin_d
  b_answer_begin : Binds K a.answer_begin_d ["referee", "reader"] []
  g_answer_begin : mg "answer_begin" = some (.ref a.answer_begin)
  F_answer_turn : Fun K "answer_turn" "answer_turn" st_answer_turn a.answer_turn a.answer_turn_d
  b_answer_turn : Binds K a.answer_turn_d ["referee", "reader"] []
  g_answer_turn : mg "answer_turn" = some (.ref a.answer_turn)
  F_answer_stroke : Fun K "answer_stroke" "answer_stroke" st_answer_stroke a.answer_stroke a.answer_stroke_d
  b_answer_stroke : Binds K a.answer_stroke_d ["referee", "reader"] []
  g_answer_stroke : mg "answer_stroke" = some (.ref a.answer_stroke)
  F_answer_pass : Fun K "answer_pass" "answer_pass" st_answer_pass a.answer_pass a.answer_pass_d
  b_answer_pass : Binds K a.answer_pass_d ["referee", "reader"] []
  g_answer_pass : mg "answer_pass" = some (.ref a.answer_pass)
  F_answer_more : Fun K "answer_more" "answer_more" st_answer_more a.answer_more a.answer_more_d
  b_answer_more : Binds K a.answer_more_d ["referee", "reader"] []
  g_answer_more : mg "answer_more" = some (.ref a.answer_more)
  F_answer_wired : Fun K "answer_wired" "answer_wired" st_answer_wired a.answer_wired a.answer_wired_d
  b_answer_wired : Binds K a.answer_wired_d ["referee", "reader"] []
  g_answer_wired : mg "answer_wired" = some (.ref a.answer_wired)
  F_answer_time : Fun K "answer_time" "answer_time" st_answer_time a.answer_time a.answer_time_d
  b_answer_time : Binds K a.answer_time_d ["referee", "reader"] []
  g_answer_time : mg "answer_time" = some (.ref a.answer_time)
  F_answer_now : Fun K "answer_now" "answer_now" st_answer_now a.answer_now a.answer_now_d
  b_answer_now : Binds K a.answer_now_d ["referee", "reader"] []
  g_answer_now : mg "answer_now" = some (.ref a.answer_now)
  F_told_of_turn : Fun K "told_of_turn" "told_of_turn" st_told_of_turn a.told_of_turn a.told_of_turn_d
  b_told_of_turn : Binds K a.told_of_turn_d ["turn"] []
  g_told_of_turn : mg "told_of_turn" = some (.ref a.told_of_turn)
  F_answer_balls : Fun K "answer_balls" "answer_balls" st_answer_balls a.answer_balls a.answer_balls_d
  b_answer_balls : Binds K a.answer_balls_d ["referee", "reader"] []
  g_answer_balls : mg "answer_balls" = some (.ref a.answer_balls)
  F_answer_call : Fun K "answer_call" "answer_call" st_answer_call a.answer_call a.answer_call_d
  b_answer_call : Binds K a.answer_call_d ["referee", "reader"] []
  g_answer_call : mg "answer_call" = some (.ref a.answer_call)
  F_answers : Fun K "answers" "answers" st_answers a.answers a.answers_d
  b_answers : Binds K a.answers_d ["calls"] []
  g_answers : mg "answers" = some (.ref a.answers)
  c_Stroke : Cls K a.C_Stroke
  g_Stroke : mg "Stroke" = some (.ref a.C_Stroke)
  k_Stroke : Mk K a.C_Stroke a.Stroke_init
  n_Stroke_fault : NoAttr K a.C_Stroke "fault"
  n_Stroke_hit : NoAttr K a.C_Stroke "hit"
  n_Stroke_hoop : NoAttr K a.C_Stroke "hoop"
  n_Stroke_off : NoAttr K a.C_Stroke "off"
  n_Stroke_peg : NoAttr K a.C_Stroke "peg"
  n_Stroke_ran : NoAttr K a.C_Stroke "ran"
  c_Turn : Cls K a.C_Turn
  g_Turn : mg "Turn" = some (.ref a.C_Turn)
  k_Turn : Mk K a.C_Turn a.Turn_init
  n_Turn_ball : NoAttr K a.C_Turn "ball"
  n_Turn_beside : NoAttr K a.C_Turn "beside"
  n_Turn_half : NoAttr K a.C_Turn "half"
  n_Turn_hoops_before : NoAttr K a.C_Turn "hoops_before"
  n_Turn_live : NoAttr K a.C_Turn "live"
  n_Turn_partner_before : NoAttr K a.C_Turn "partner_before"
  n_Turn_strokes : NoAttr K a.C_Turn "strokes"
  c_Game : Cls K a.C_Game
  g_Game : mg "Game" = some (.ref a.C_Game)
  k_Game : Mk K a.C_Game a.Game_init
  n_Game_half_turns : NoAttr K a.C_Game "half_turns"
  n_Game_last_ball : NoAttr K a.C_Game "last_ball"
  n_Game_lifts : NoAttr K a.C_Game "lifts"
  n_Game_owed : NoAttr K a.C_Game "owed"
  n_Game_points : NoAttr K a.C_Game "points"
  n_Game_side : NoAttr K a.C_Game "side"
  n_Game_time : NoAttr K a.C_Game "time"
  n_Game_turn : NoAttr K a.C_Game "turn"
  n_Game_winner : NoAttr K a.C_Game "winner"
  c_Referee : Cls K a.C_Referee
  g_Referee : mg "Referee" = some (.ref a.C_Referee)
  k_Referee : Mk K a.C_Referee a.Referee_init
  n_Referee_game : NoAttr K a.C_Referee "game"
  c_Reader : Cls K a.C_Reader
  g_Reader : mg "Reader" = some (.ref a.C_Reader)
  k_Reader : Mk K a.C_Reader a.Reader_init
  n_Reader_calls : NoAttr K a.C_Reader "calls"
  n_Reader_place : NoAttr K a.C_Reader "place"
  g_BALLS : mg "BALLS" = some (.ref a.V_BALLS)
  g_NO_BALL : mg "NO_BALL" = some (.int (-1) a.k_NO_BALL)
  g_NO_SIDE : mg "NO_SIDE" = some (.int (-1) a.k_NO_SIDE)
  g_ALL_HOOPS : mg "ALL_HOOPS" = some (.int 12 a.k_ALL_HOOPS)
  g_OUT : mg "OUT" = some (.int 13 a.k_OUT)
  g_FIRST_LIFT : mg "FIRST_LIFT" = some (.int 7 a.k_FIRST_LIFT)
  g_SECOND_LIFT : mg "SECOND_LIFT" = some (.int 10 a.k_SECOND_LIFT)
  g_LIFT : mg "LIFT" = some (.int 1 a.k_LIFT)
  g_LIFT_TO_A_BALL : mg "LIFT_TO_A_BALL" = some (.int 2 a.k_LIFT_TO_A_BALL)
  g_BY_ITSELF : mg "BY_ITSELF" = some (.int 0 a.k_BY_ITSELF)
  g_BALL_AT_SIDE : mg "BALL_AT_SIDE" = some (.int 1 a.k_BALL_AT_SIDE)
  g_TURN_OVER : mg "TURN_OVER" = some (.int 2 a.k_TURN_OVER)
  g_GAME_OVER : mg "GAME_OVER" = some (.int 3 a.k_GAME_OVER)
  g_TIME_NOT_CALLED : mg "TIME_NOT_CALLED" = some (.int 0 a.k_TIME_NOT_CALLED)
  g_TIME_CALLED : mg "TIME_CALLED" = some (.int 1 a.k_TIME_CALLED)
  g_TIME_LAST_TURN : mg "TIME_LAST_TURN" = some (.int 2 a.k_TIME_LAST_TURN)
  g_TIME_TILL_ONE_HAS_MORE : mg "TIME_TILL_ONE_HAS_MORE" = some (.int 3 a.k_TIME_TILL_ONE_HAS_MORE)
  g_MOST_HALF_TURNS : mg "MOST_HALF_TURNS" = some (.int 40 a.k_MOST_HALF_TURNS)
  g_BALLS_TOLD : mg "BALLS_TOLD" = some (.int 4 a.k_BALLS_TOLD)
  g_CALLS : mg "CALLS" = some (.ref a.V_CALLS)
  t_BALLS : ∀ H : Hp, SqT K H a.V_BALLS [.int 0, .int 1, .int 2, .int 3]
  t_CALLS : Tab K a.V_CALLS [(1, a.answer_begin), (2, a.answer_turn), (3, a.answer_stroke), (4, a.answer_pass), (5, a.answer_more), (6, a.answer_wired), (7, a.answer_time), (8, a.answer_now), (9, a.answer_balls)]
  n_len : mg "len" = none
  n_min : mg "min" = none
  n_max : mg "max" = none
  n_all : mg "all" = none
  n_any : mg "any" = none
  n_set : mg "set" = none
theorem sc_Stroke_init : FnScope ["self", "hit", "hoop", "fault", "ran", "peg", "off"] ["self", "hit", "hoop", "fault", "ran", "peg", "off"] (defScope st_Stroke_init) := ⟨rfl, rfl, rfl, by decide +kernel, rfl, by decide +kernel, by decide +kernel⟩
theorem sc_Turn_init : FnScope ["self", "ball", "half", "game"] ["self", "ball", "half", "game"] (defScope st_Turn_init) := ⟨rfl, rfl, rfl, by decide +kernel, rfl, by decide +kernel, by decide +kernel⟩
theorem sc_Game_init : FnScope ["self", "lifts", "first", "half_turns"] ["self", "lifts", "first", "half_turns"] (defScope st_Game_init) := ⟨rfl, rfl, rfl, by decide +kernel, rfl, by decide +kernel, by decide +kernel⟩
theorem sc_Game_is_out : FnScope ["self", "ball"] ["self", "ball"] (defScope st_Game_is_out) := ⟨rfl, rfl, rfl, by decide +kernel, rfl, by decide +kernel, by decide +kernel⟩
theorem sc_Game_others_in_play : FnScope ["self", "ball", "other"] ["self", "ball"] (defScope st_Game_others_in_play) := ⟨rfl, rfl, rfl, by decide +kernel, rfl, by decide +kernel, by decide +kernel⟩
theorem sc_Game_side_points : FnScope ["self", "side"] ["self", "side"] (defScope st_Game_side_points) := ⟨rfl, rfl, rfl, by decide +kernel, rfl, by decide +kernel, by decide +kernel⟩
theorem sc_Game_leader : FnScope ["self", "lead"] ["self"] (defScope st_Game_leader) := ⟨rfl, rfl, rfl, by decide +kernel, rfl, by decide +kernel, by decide +kernel⟩
theorem sc_Game_state : FnScope ["self"] ["self"] (defScope st_Game_state) := ⟨rfl, rfl, rfl, by decide +kernel, rfl, by decide +kernel, by decide +kernel⟩
theorem sc_side_of : FnScope ["ball"] ["ball"] (defScope st_side_of) := ⟨rfl, rfl, rfl, by decide +kernel, rfl, by decide +kernel, by decide +kernel⟩
theorem sc_partner_of : FnScope ["ball"] ["ball"] (defScope st_partner_of) := ⟨rfl, rfl, rfl, by decide +kernel, rfl, by decide +kernel, by decide +kernel⟩
theorem sc_begin_turn : FnScope ["game", "ball", "half"] ["game", "ball", "half"] (defScope st_begin_turn) := ⟨rfl, rfl, rfl, by decide +kernel, rfl, by decide +kernel, by decide +kernel⟩
theorem sc_hand_over : FnScope ["game", "owed"] ["game", "owed"] (defScope st_hand_over) := ⟨rfl, rfl, rfl, by decide +kernel, rfl, by decide +kernel, by decide +kernel⟩
theorem sc_pass_turn : FnScope ["game"] ["game"] (defScope st_pass_turn) := ⟨rfl, rfl, rfl, by decide +kernel, rfl, by decide +kernel, by decide +kernel⟩
theorem sc_end_turn : FnScope ["game", "turn"] ["game"] (defScope st_end_turn) := ⟨rfl, rfl, rfl, by decide +kernel, rfl, by decide +kernel, by decide +kernel⟩
theorem sc_find_wired : FnScope ["game"] ["game"] (defScope st_find_wired) := ⟨rfl, rfl, rfl, by decide +kernel, rfl, by decide +kernel, by decide +kernel⟩
theorem sc_call_time : FnScope ["game"] ["game"] (defScope st_call_time) := ⟨rfl, rfl, rfl, by decide +kernel, rfl, by decide +kernel, by decide +kernel⟩
theorem sc_owed_for : FnScope ["game", "turn", "hoops", "came_to_first", "came_to_second"] ["game", "turn"] (defScope st_owed_for) := ⟨rfl, rfl, rfl, by decide +kernel, rfl, by decide +kernel, by decide +kernel⟩
theorem sc_price_of : FnScope ["half"] ["half"] (defScope st_price_of) := ⟨rfl, rfl, rfl, by decide +kernel, rfl, by decide +kernel, by decide +kernel⟩
theorem sc_take_turn_more : FnScope ["game", "half"] ["game", "half"] (defScope st_take_turn_more) := ⟨rfl, rfl, rfl, by decide +kernel, rfl, by decide +kernel, by decide +kernel⟩
theorem sc_play_stroke : FnScope ["game", "stroke", "live"] ["game", "stroke"] (defScope st_play_stroke) := ⟨rfl, rfl, rfl, by decide +kernel, rfl, by decide +kernel, by decide +kernel⟩
theorem sc_hoop_counts : FnScope ["turn", "stroke"] ["turn", "stroke"] (defScope st_hoop_counts) := ⟨rfl, rfl, rfl, by decide +kernel, rfl, by decide +kernel, by decide +kernel⟩
theorem sc_live_as_it_hits : FnScope ["game", "stroke", "turn"] ["game", "stroke"] (defScope st_live_as_it_hits) := ⟨rfl, rfl, rfl, by decide +kernel, rfl, by decide +kernel, by decide +kernel⟩
theorem sc_count_points : FnScope ["game", "stroke", "turn", "points", "ball"] ["game", "stroke"] (defScope st_count_points) := ⟨rfl, rfl, rfl, by decide +kernel, rfl, by decide +kernel, by decide +kernel⟩
theorem sc_winner_behind_stroke : FnScope ["game", "side"] ["game"] (defScope st_winner_behind_stroke) := ⟨rfl, rfl, rfl, by decide +kernel, rfl, by decide +kernel, by decide +kernel⟩
theorem sc_prepare_next_stroke : FnScope ["game", "stroke", "live", "turn", "hit_counts", "ball"] ["game", "stroke", "live"] (defScope st_prepare_next_stroke) := ⟨rfl, rfl, rfl, by decide +kernel, rfl, by decide +kernel, by decide +kernel⟩
theorem sc_loses_turn : FnScope ["game", "stroke", "hit_counts", "turn"] ["game", "stroke", "hit_counts"] (defScope st_loses_turn) := ⟨rfl, rfl, rfl, by decide +kernel, rfl, by decide +kernel, by decide +kernel⟩
theorem sc_earns_stroke : FnScope ["turn", "stroke", "hit_counts"] ["turn", "stroke", "hit_counts"] (defScope st_earns_stroke) := ⟨rfl, rfl, rfl, by decide +kernel, rfl, by decide +kernel, by decide +kernel⟩
theorem sc_Referee_init : FnScope ["self"] ["self"] (defScope st_Referee_init) := ⟨rfl, rfl, rfl, by decide +kernel, rfl, by decide +kernel, by decide +kernel⟩
theorem sc_Reader_init : FnScope ["self", "calls"] ["self", "calls"] (defScope st_Reader_init) := ⟨rfl, rfl, rfl, by decide +kernel, rfl, by decide +kernel, by decide +kernel⟩
theorem sc_Reader_at_end : FnScope ["self"] ["self"] (defScope st_Reader_at_end) := ⟨rfl, rfl, rfl, by decide +kernel, rfl, by decide +kernel, by decide +kernel⟩
theorem sc_Reader_number : FnScope ["self"] ["self"] (defScope st_Reader_number) := ⟨rfl, rfl, rfl, by decide +kernel, rfl, by decide +kernel, by decide +kernel⟩
theorem sc_Reader_row : FnScope ["self", "size"] ["self"] (defScope st_Reader_row) := ⟨rfl, rfl, rfl, by decide +kernel, rfl, by decide +kernel, by decide +kernel⟩
theorem sc_Reader_stroke : FnScope ["self", "hit", "hoop", "fault", "ran", "peg", "off"] ["self"] (defScope st_Reader_stroke) := ⟨rfl, rfl, rfl, by decide +kernel, rfl, by decide +kernel, by decide +kernel⟩
theorem sc_no_game_goes_on : FnScope ["game"] ["game"] (defScope st_no_game_goes_on) := ⟨rfl, rfl, rfl, by decide +kernel, rfl, by decide +kernel, by decide +kernel⟩
theorem sc_refusal_of_begin : FnScope ["lifts", "first", "half_turns", "number"] ["lifts", "first", "half_turns"] (defScope st_refusal_of_begin) := ⟨rfl, rfl, rfl, by decide +kernel, rfl, by decide +kernel, by decide +kernel⟩
theorem sc_refusal_of_turn : FnScope ["game", "ball", "how"] ["game", "ball", "how"] (defScope st_refusal_of_turn) := ⟨rfl, rfl, rfl, by decide +kernel, rfl, by decide +kernel, by decide +kernel⟩
theorem sc_refusal_of_stroke : FnScope ["game", "stroke"] ["game", "stroke"] (defScope st_refusal_of_stroke) := ⟨rfl, rfl, rfl, by decide +kernel, rfl, by decide +kernel, by decide +kernel⟩
theorem sc_is_in_range : FnScope ["stroke", "ball"] ["stroke"] (defScope st_is_in_range) := ⟨rfl, rfl, rfl, by decide +kernel, rfl, by decide +kernel, by decide +kernel⟩
theorem sc_can_have_been : FnScope ["game", "stroke", "striker", "balls"] ["game", "stroke"] (defScope st_can_have_been) := ⟨rfl, rfl, rfl, by decide +kernel, rfl, by decide +kernel, by decide +kernel⟩
theorem sc_can_be_told : FnScope ["game", "balls", "ball"] ["game", "balls"] (defScope st_can_be_told) := ⟨rfl, rfl, rfl, by decide +kernel, rfl, by decide +kernel, by decide +kernel⟩
theorem sc_refusal_between_turns : FnScope ["game"] ["game"] (defScope st_refusal_between_turns) := ⟨rfl, rfl, rfl, by decide +kernel, rfl, by decide +kernel, by decide +kernel⟩
theorem sc_refusal_of_time : FnScope ["game"] ["game"] (defScope st_refusal_of_time) := ⟨rfl, rfl, rfl, by decide +kernel, rfl, by decide +kernel, by decide +kernel⟩
theorem sc_refusal_of_more : FnScope ["game", "half"] ["game", "half"] (defScope st_refusal_of_more) := ⟨rfl, rfl, rfl, by decide +kernel, rfl, by decide +kernel, by decide +kernel⟩
theorem sc_answer_begin : FnScope ["referee", "reader", "lifts", "first", "half_turns", "refusal"] ["referee", "reader"] (defScope st_answer_begin) := ⟨rfl, rfl, rfl, by decide +kernel, rfl, by decide +kernel, by decide +kernel⟩
theorem sc_answer_turn : FnScope ["referee", "reader", "ball", "how", "refusal"] ["referee", "reader"] (defScope st_answer_turn) := ⟨rfl, rfl, rfl, by decide +kernel, rfl, by decide +kernel, by decide +kernel⟩
theorem sc_answer_stroke : FnScope ["referee", "reader", "game", "stroke", "refusal"] ["referee", "reader"] (defScope st_answer_stroke) := ⟨rfl, rfl, rfl, by decide +kernel, rfl, by decide +kernel, by decide +kernel⟩
theorem sc_answer_pass : FnScope ["referee", "reader", "game", "refusal"] ["referee", "reader"] (defScope st_answer_pass) := ⟨rfl, rfl, rfl, by decide +kernel, rfl, by decide +kernel, by decide +kernel⟩
theorem sc_answer_more : FnScope ["referee", "reader", "game", "half", "refusal"] ["referee", "reader"] (defScope st_answer_more) := ⟨rfl, rfl, rfl, by decide +kernel, rfl, by decide +kernel, by decide +kernel⟩
theorem sc_answer_wired : FnScope ["referee", "reader", "game", "refusal"] ["referee", "reader"] (defScope st_answer_wired) := ⟨rfl, rfl, rfl, by decide +kernel, rfl, by decide +kernel, by decide +kernel⟩
theorem sc_answer_time : FnScope ["referee", "reader", "game", "refusal"] ["referee", "reader"] (defScope st_answer_time) := ⟨rfl, rfl, rfl, by decide +kernel, rfl, by decide +kernel, by decide +kernel⟩
theorem sc_answer_now : FnScope ["referee", "reader", "game", "told"] ["referee", "reader"] (defScope st_answer_now) := ⟨rfl, rfl, rfl, by decide +kernel, rfl, by decide +kernel, by decide +kernel⟩
theorem sc_told_of_turn : FnScope ["turn"] ["turn"] (defScope st_told_of_turn) := ⟨rfl, rfl, rfl, by decide +kernel, rfl, by decide +kernel, by decide +kernel⟩
theorem sc_answer_balls : FnScope ["referee", "reader", "game"] ["referee", "reader"] (defScope st_answer_balls) := ⟨rfl, rfl, rfl, by decide +kernel, rfl, by decide +kernel, by decide +kernel⟩
theorem sc_answer_call : FnScope ["referee", "reader"] ["referee", "reader"] (defScope st_answer_call) := ⟨rfl, rfl, rfl, by decide +kernel, rfl, by decide +kernel, by decide +kernel⟩
theorem sc_answers : FnScope ["calls", "referee", "reader", "answered", "answer"] ["calls"] (defScope st_answers) := ⟨rfl, rfl, rfl, by decide +kernel, rfl, by decide +kernel, by decide +kernel⟩
end Hg
set_option Elab.async false
set_option linter.all false
set_option maxRecDepth 100000
set_option maxHeartbeats 2000000
namespace L2
open PySem PySem.Spec PyProof.Rows
/-! a global int, a global object; == and in of ints -/
section
variable {X : Cx}
theorem pe_gi {x : Str} {i : Int} {t : Tok} {pos : Pos} (hg : Gl X x) (hm : X.mg x = some (.int i t)) (hd : (x == ("__debug__" : Str)) = false := by decide) : PE X (.Name x pos) (tC (.int i)) := pe_glob hg hm ⟨t, rfl⟩ hd
theorem pe_gr {x : Str} {b : Addr} {pos : Pos} (hg : Gl X x) (hm : X.mg x = some (.ref b)) (hd : (x == ("__debug__" : Str)) = false := by decide) : PE X (.Name x pos) (tC (.ref b)) := pe_glob hg hm rfl hd
theorem op_eqI : OpR X (compareOp .Eq) (rI0 fun i j => .bl (decide (i = j))) := by
  rintro pins s σ H x y v u Q I rx ry ⟨i, j, rfl, rfl, q⟩
  refine op_eq pins s σ H _ _ v u Q I rx ry ⟨rfl, ?_⟩
  have e : decide (V.int i = V.int j) = decide (i = j) := by
    by_cases h : i = j
    · subst h; simp
    · have h' : ¬ V.int i = V.int j := fun z => h (V.int.inj z)
      rw [decide_eq_false h, decide_eq_false h']
  rw [e]
  exact q
theorem op_neI : OpR X (compareOp .NotEq) (rI0 fun i j => .bl (decide (i ≠ j))) := by
  rintro pins s σ H x y v u Q I rx ry ⟨i, j, rfl, rfl, q⟩
  refine op_ne pins s σ H _ _ v u Q I rx ry ⟨rfl, ?_⟩
  have e : (!decide (V.int i = V.int j)) = decide (i ≠ j) := by
    by_cases h : i = j
    · subst h; simp
    · have h' : ¬ V.int i = V.int j := fun z => h (V.int.inj z)
      rw [decide_eq_false h', decide_eq_true h]; rfl
  rw [e]
  exact q
theorem inV_int (i : Int) : ∀ ns : List Int, inV (.int i) (ns.map V.int) = decide (i ∈ ns)
  | [] => rfl
  | n :: ns => by
    have ih := inV_int i ns
    unfold inV at ih ⊢
    rw [List.map_cons, List.any_cons, ih]
    have e : eqV (.int n) (.int i) = decide (i = n) := by
      show (n == i) = decide (i = n)
      by_cases h : i = n
      · subst h; simp
      · rw [decide_eq_false h]; exact beq_eq_false_iff_ne.mpr fun z => h z.symm
    rw [e]
    by_cases h : i = n
    · subst h; simp
    · simp [h]
theorem flat_ints : ∀ ns : List Int, (ns.map V.int).all flatV = true
  | [] => rfl
  | n :: ns => by rw [List.map_cons, List.all_cons, flat_ints ns]; rfl
def rInI (K : PySem.W.Frag) (neg : Bool) : R2 := fun x y H Q => ∃ (p : Addr) (ns : List Int) (i : Int), x = .int i ∧ y = .ref p ∧ (SqL K H p (ns.map V.int) ∨ SqT K H p (ns.map V.int)) ∧ Q (.bl (if neg then !decide (i ∈ ns) else decide (i ∈ ns))) H
theorem op_inI : OpR X (compareOp .In) (rInI X.K false) := by
  rintro pins s σ H x y v u Q I rx ry ⟨p, ns, i, rfl, rfl, hq, q⟩
  exact op_in_seq pins s σ H _ _ v u Q I rx ry ⟨p, _, rfl, hq, rfl, flat_ints ns, by rw [inV_int]; exact q⟩
theorem op_notInI : OpR X (compareOp .NotIn) (rInI X.K true) := by
  rintro pins s σ H x y v u Q I rx ry ⟨p, ns, i, rfl, rfl, hq, q⟩
  exact op_notIn_seq pins s σ H _ _ v u Q I rx ry ⟨p, _, rfl, hq, rfl, flat_ints ns, by rw [inV_int]; exact q⟩
theorem pe_fldK (K : PySem.W.Frag) {e : Expr} {f : Str} {pos : Pos} {ta : TE} (he : PE X e ta) (hb : attributeBase e f X.env (eval e X.env) = eval e X.env := by rfl) (hK : X.K = K := by rfl) : PE X (.Attribute e f pos) (tFld K ta f) := by
  subst hK; exact pe_fld he hb
theorem op_inIK (K : PySem.W.Frag) (hK : X.K = K := by rfl) : OpR X (compareOp .In) (rInI K false) := by
  subst hK; exact op_inI
/-- x not in (1, 2): the tuple is not tracked -/
def tLitT (ta : TE) (ns : List Int) : TT := fun σ H Q => ta σ H fun x H1 => ∃ i, x = .int i ∧ Q (!decide (i ∈ ns)) H1
theorem vals_lit : ∀ {es : List Expr} {ns : List Int} {t : TA}, PA X es t → (∀ σ H Q, Q (ns.map V.int) H → t σ H Q) → PA X es (fun _ H Q => Q (ns.map V.int) H) := fun h q => fun pos pins s σ H Q I hq => h pos pins s σ H Q I (q σ H Q hq)
theorem pt_notInLit {a : Expr} {es : List Expr} {ta : TE} {t : TA} {ns : List Int} {k : Nat} {p pos : Pos} (ha : PE X a ta) (ht : PA X es t) (hn : ∀ σ H Q, Q (ns.map V.int) H → t σ H Q) (hl : ns.length ≤ 100)
    (hm : behindInMarks .NotIn (.Tuple es k p) = false) : PT X (.Compare a [.NotIn] [.Tuple es k p] pos) (tLitT ta ns) := by
  intro pins s σ H Q I h
  refine wpAny_isTrue_Compare1 (thn (ha pins s σ H _ I h) fun v s1 ⟨x, H1, I1, r1, i, ex, q1⟩ => ?_) hm
  subst ex
  refine wpAny_Tuple_spliced (thn (ht p pins s1 σ H1 (fun vs H2 => vs = ns.map V.int ∧ H2 = H1) I1 (hn σ H1 _ ⟨rfl, rfl⟩)) fun us s2 ⟨xs, H2, I2, r, e1, e2⟩ => ?_)
  subst e1 e2
  have hz : us.length ≤ sizeLine := by
    rw [← r.length, List.length_map]
    exact Nat.le_of_lt (small1000 (by omega))
  refine ⟨hz, ?_⟩
  have I3 : Inv X pins σ H2 { s2 with heap := s2.heap.push { cls := .type "tuple", data := .seq us.toArray } } := I2.kept (t' := s2.toks) fun b o e => Heap.get?_push_of_some _ e
  have ht2 : IsTup (s2.heap.push { cls := .type "tuple", data := .seq us.toArray }) s2.heap.objs.size us.toArray := ⟨_, Heap.get?_push_size _ rfl, rfl, _, rfl⟩
  refine SeqAt.notIn_tupleAt (eqU (.int i)) (items := us.toArray) ht2 (fun w hw => mem_eqAt r1 rfl r (flat_ints ns) w (by simpa using hw)) ?_
  rw [show us.toArray.any (eqU (.int i)) = us.any (eqU (.int i)) by simp, any_eqU r (flat_ints ns)]
  refine wpAny_truthy_bool ⟨H2, I3, ?_⟩
  have e := inV_int i ns
  unfold inV at e
  rw [e]
  exact q1
theorem get_list : PGet X (rIxL X.K) := by
  intro pins s σ H o i ov iv Q I ro ri h
  obtain ⟨p, xs, k, z, rfl, rfl, hq, he, q⟩ := h
  cases ro
  obtain ⟨t, rfl⟩ := ri
  obtain ⟨its, r, pl, hz⟩ := I.list hq
  obtain ⟨j, h1, h2, h3, h4, h5⟩ := atI_get he
  obtain ⟨w, ew, rw'⟩ := r.get h2
  have hl := r.length
  have hn := line63
  have fin : EP X pins σ Q w s := ⟨z, H, I, rw', q⟩
  by_cases h0 : 0 ≤ k
  · have hj : k.toNat = j := by
      rw [seqIndex_of h0 h5] at h1
      exact Option.some.inj h1
    exact wpAny_getItem_list pl.isList h0 (by omega) (by rw [hj]; simpa using ew) fin
  · have hj : (k + (its.toArray.size : Int)).toNat = j := by
      rw [seqIndex_neg (by omega) h4] at h1
      rw [List.size_toArray, ← hl]
      exact Option.some.inj h1
    exact wpAny_getItem_list_neg pl.isList (by omega) (by rw [List.size_toArray] <;> omega) (by omega) (by rw [hj]; simpa using ew) fin
end
/-! what a reading gives where nothing is written -/
def Ev (t : TE) (σ : St) (H : Hp) (v : V) : Prop := ∀ Q : VK, Q v H → t σ H Q
def Et (t : TT) (σ : St) (H : Hp) (b : Bool) : Prop := ∀ Q : Bool → Hp → Prop, Q b H → t σ H Q
def Ea (t : TA) (σ : St) (H : Hp) (vs : List V) : Prop := ∀ Q : List V → Hp → Prop, Q vs H → t σ H Q
section
variable {K : PySem.W.Frag} {σ : St} {H : Hp} {ta tb tc : TE} {t u : TT} {tl : TA} {v w : V} {i j : Int} {b c : Bool} {C dx p : Addr} {fs : List (Str × V)} {f : Str} {xs : List V}
theorem Ev.cast (h : Ev ta σ H v) (e : v = w) : Ev ta σ H w := e ▸ h
theorem Et.cast (h : Et t σ H b) (e : b = c) : Et t σ H c := e ▸ h
theorem ev_var {n : Nat} (h : σ[n]? = some (some v)) : Ev (tVar n) σ H v := fun Q q => ⟨v, h, q⟩
theorem ev_c : Ev (tC v) σ H v := fun Q q => q
theorem ev_fld (h : Ev ta σ H (.ref p)) (hp : H p = some (.ins C dx fs)) (c : Cls K C) (n : NoAttr K C f) (l : fs.lookup f = some v) : Ev (tFld K ta f) σ H v := fun Q q => h _ ⟨p, C, dx, fs, v, rfl, hp, c, n, l, q⟩
theorem ev_op {g : Int → Int → V} (h : Ev ta σ H (.int i)) (h' : Ev tb σ H (.int j)) : Ev (tOp (rI0 g) ta tb) σ H (g i j) := fun Q q => h _ (h' _ ⟨i, j, rfl, rfl, q⟩)
theorem ev_opC {R : Int → Int → Prop} {g : Int → Int → V} (h : Ev ta σ H (.int i)) (h' : Ev tb σ H (.int j)) (r : R i j) : Ev (tOp (rI R g) ta tb) σ H (g i j) := fun Q q => h _ (h' _ ⟨i, j, rfl, rfl, r, q⟩)
theorem ev_un {g : Int → V} (h : Ev ta σ H (.int i)) : Ev (tUn (rU g) ta) σ H (g i) := fun Q q => h _ ⟨i, rfl, q⟩
theorem ev_isN (h : Ev ta σ H v) : Ev (tOp (fun x y H Q => y = .non ∧ Q (.bl (decide (x = .non))) H) ta (tC .non)) σ H (.bl (decide (v = .non))) := fun Q q => h _ ⟨rfl, q⟩
theorem ev_notN (h : Ev ta σ H v) : Ev (tOp (fun x y H Q => y = .non ∧ Q (.bl (!decide (x = .non))) H) ta (tC .non)) σ H (.bl (!decide (v = .non))) := fun Q q => h _ ⟨rfl, q⟩
theorem ev_inL {ns : List Int} (h : Ev ta σ H (.int i)) (h' : Ev tb σ H (.ref p)) (s : H p = some (.lst (ns.map V.int))) : Ev (tOp (rInI K false) ta tb) σ H (.bl (decide (i ∈ ns))) := fun Q q => h _ (h' _ ⟨p, ns, i, rfl, rfl, .inl (SqL.of s), q⟩)
theorem ev_ninL {ns : List Int} (h : Ev ta σ H (.int i)) (h' : Ev tb σ H (.ref p)) (s : H p = some (.lst (ns.map V.int))) : Ev (tOp (rInI K true) ta tb) σ H (.bl (!decide (i ∈ ns))) := fun Q q => h _ (h' _ ⟨p, ns, i, rfl, rfl, .inl (SqL.of s), q⟩)
theorem ev_inT {ns : List Int} (h : Ev ta σ H (.int i)) (h' : Ev tb σ H (.ref p)) (s : SqT K H p (ns.map V.int)) : Ev (tOp (rInI K false) ta tb) σ H (.bl (decide (i ∈ ns))) := fun Q q => h _ (h' _ ⟨p, ns, i, rfl, rfl, .inr s, q⟩)
theorem ev_ninT {ns : List Int} (h : Ev ta σ H (.int i)) (h' : Ev tb σ H (.ref p)) (s : SqT K H p (ns.map V.int)) : Ev (tOp (rInI K true) ta tb) σ H (.bl (!decide (i ∈ ns))) := fun Q q => h _ (h' _ ⟨p, ns, i, rfl, rfl, .inr s, q⟩)
theorem ev_ix (h : Ev ta σ H (.ref p)) (h' : Ev tb σ H (.int i)) (s : H p = some (.lst xs)) (e : atI xs i = some v) : Ev (tOp (rIxL K) ta tb) σ H v := fun Q q => h _ (h' _ ⟨p, xs, i, v, rfl, rfl, SqL.of s, e, q⟩)
theorem ev_ixS (h : Ev ta σ H (.ref p)) (h' : Ev tb σ H (.int i)) (s : SqL K H p xs) (e : atI xs i = some v) : Ev (tOp (rIxL K) ta tb) σ H v := fun Q q => h _ (h' _ ⟨p, xs, i, v, rfl, rfl, s, e, q⟩)
theorem ev_and (h : Ev ta σ H (.bl b)) (h' : b = true → Ev tb σ H (.bl c)) : Ev (tAndV ta tb) σ H (.bl (b && c)) := fun Q q => h _ ⟨b, rfl, by
  cases b with
  | true => exact h' rfl Q q
  | false => exact q⟩
theorem ev_or (h : Ev ta σ H (.bl b)) (h' : b = false → Ev tb σ H (.bl c)) : Ev (tOrV ta tb) σ H (.bl (b || c)) := fun Q q => h _ ⟨b, rfl, by
  cases b with
  | true => exact q
  | false => exact h' rfl Q q⟩
theorem ev_not (h : Ev ta σ H (.bl b)) : Ev (tNotV ta) σ H (.bl (!b)) := fun Q q => h _ ⟨b, rfl, q⟩
theorem ev_if (h : Et t σ H b) (h1 : b = true → Ev ta σ H v) (h2 : b = false → Ev tb σ H w) : Ev (tIf t ta tb) σ H (if b = true then v else w) := fun Q q => h _ (by
  cases b with
  | true => exact h1 rfl Q q
  | false => exact h2 rfl Q q)
theorem ev_ifI (h : Et t σ H b) (h1 : b = true → Ev ta σ H (.int i)) (h2 : b = false → Ev tb σ H (.int j)) : Ev (tIf t ta tb) σ H (.int (if b = true then i else j)) := fun Q q => h _ (by
  cases b with
  | true => exact h1 rfl Q q
  | false => exact h2 rfl Q q)
theorem ev_chain {g g' : Int → Int → Bool} {k : Int} (h : Ev ta σ H (.int i)) (h' : Ev tb σ H (.int j)) (h'' : Ev tc σ H (.int k)) : Ev (tChain (rI0 fun i j => .bl (g i j)) (rI0 fun i j => .bl (g' i j)) ta tb tc) σ H (.bl (g i j && g' j k)) := fun Q q => h _ (h' _ ⟨i, j, rfl, rfl, _, rfl, by
  cases e : g i j with
  | true => rw [e] at q; exact h'' _ ⟨j, k, rfl, rfl, q⟩
  | false => rw [e] at q; exact q⟩)
theorem ev_call {sp : Sp} {vs : List V} (h : Ea tl σ H vs) (s : ∀ Q, Q v H → sp vs H Q E0) : Ev (tCall sp [] E0 tl) σ H v := fun Q q => h _ (by rw [List.append_nil]; exact s Q q)
theorem ev_meth {m : Str} {sp : Sp} {vs : List V} (h : Ev ta σ H (.ref p)) (hp : H p = some (.ins C dx fs)) (l : fs.lookup m = none) (h' : Ea tl σ H vs) (s : ∀ Q, Q v H → sp (.ref p :: vs) H Q E0) : Ev (tMeth C m sp [] E0 ta tl) σ H v :=
  fun Q q => h _ ⟨p, dx, fs, rfl, hp, l, h' _ (by rw [List.append_nil]; exact s Q q)⟩
theorem ev_cb {r : List V → Hp → VK → Prop} {vs : List V} (h : Ea tl σ H vs) (s : ∀ Q, Q v H → r vs H Q) : Ev (tCB r tl) σ H v := fun Q q => h _ (s Q q)
theorem ev_max (h : Ev ta σ H (.int i)) (h' : Ev tb σ H (.int j)) : Ev (tCB (fun xs H Q => ∃ i j, xs = [V.int i, V.int j] ∧ Q (.int (if j > i then j else i)) H) (tCons ta (tCons tb tNil))) σ H (.int (if j > i then j else i)) := fun Q q => h _ (h' _ ⟨i, j, rfl, q⟩)
theorem ev_min (h : Ev ta σ H (.int i)) (h' : Ev tb σ H (.int j)) : Ev (tCB (fun xs H Q => ∃ i j, xs = [V.int i, V.int j] ∧ Q (.int (if j < i then j else i)) H) (tCons ta (tCons tb tNil))) σ H (.int (if j < i then j else i)) := fun Q q => h _ (h' _ ⟨i, j, rfl, q⟩)
theorem ea_nil : Ea tNil σ H [] := fun Q q => q
theorem ea_cons {vs : List V} (h : Ev ta σ H v) (h' : Ea tl σ H vs) : Ea (tCons ta tl) σ H (v :: vs) := fun Q q => h _ (h' _ q)
theorem et_test (h : Ev ta σ H (.bl b)) : Et (tTest ta) σ H b := fun Q q => h _ ⟨b, rfl, q⟩
theorem et_b (h : Ev ta σ H (.bl b)) : Et (tB ta) σ H b := fun Q q => h _ ⟨b, rfl, q⟩
theorem et_lit {ns : List Int} (h : Ev ta σ H (.int i)) : Et (tLitT ta ns) σ H (!decide (i ∈ ns)) := fun Q q => h _ ⟨i, rfl, q⟩
theorem et_and (h : Et t σ H b) (h' : b = true → Et u σ H c) : Et (tAnd t u) σ H (b && c) := fun Q q => h _ (by
  cases b with
  | true => exact h' rfl Q q
  | false => exact q)
theorem et_or (h : Et t σ H b) (h' : b = false → Et u σ H c) : Et (tOr t u) σ H (b || c) := fun Q q => h _ (by
  cases b with
  | true => exact q
  | false => exact h' rfl Q q)
theorem et_not (h : Et t σ H b) : Et (tNot t) σ H (!b) := fun Q q => h _ q
/-! statements -/
variable {D : Ends} {ts us : TS}
theorem st_seq (h : ts { D with nx := us D } σ H) : tSeq ts us D σ H := h
theorem st_next (q : D.nx σ H) : tNext D σ H := q
theorem st_ret (h : Ev ta σ H v) (q : D.rt v H) : tRet ta D σ H := h _ q
theorem st_if (h : Et t σ H b) (h1 : b = true → ts D σ H) (h2 : b = false → us D σ H) : tIfS t ts us D σ H := h _ (by
  cases b with
  | true => exact h1 rfl
  | false => exact h2 rfl)
theorem st_set {n : Nat} (h : Ev ta σ H v) (q : D.nx (σ.set n (some v)) H) : tAsg ta (gName n) D σ H := h _ q
theorem st_fld (h : Ev tb σ H v) (h' : Ev ta σ H (.ref p)) (hp : H p = some (.ins C dx fs)) (c : Cls K C) (n : NoAttr K C f) (l : fs.length < 1000) (q : D.nx σ (upd H p (.ins C dx (putF f v fs)))) : sFld K ta tb f D σ H := h _ (h' _ ⟨p, C, dx, fs, rfl, hp, c, n, l, q⟩)
theorem sq_if (h : Et t σ H b) (h1 : b = true → ts { D with nx := us D } σ H) (h2 : b = false → us D σ H) : tSeq (tIfS t ts tNext) us D σ H := h _ (by
  cases b with
  | true => exact h1 rfl
  | false => exact h2 rfl)
theorem sq_set {n : Nat} (h : Ev ta σ H v) (q : us D (σ.set n (some v)) H) : tSeq (tAsg ta (gName n)) us D σ H := h _ q
theorem sq_fld (h : Ev tb σ H v) (h' : Ev ta σ H (.ref p)) (hp : H p = some (.ins C dx fs)) (c : Cls K C) (n : NoAttr K C f) (l : fs.length < 1000) (q : us D σ (upd H p (.ins C dx (putF f v fs)))) : tSeq (sFld K ta tb f) us D σ H := h _ (h' _ ⟨p, C, dx, fs, rfl, hp, c, n, l, q⟩)
theorem st_drop (h : Ev ta σ H v) (q : D.nx σ H) : tDrop ta D σ H := h _ q
end
end L2
set_option Elab.async false
set_option linter.all false
set_option maxRecDepth 100000
set_option maxHeartbeats 2000000
namespace L2
open PySem PySem.Spec PyProof.Rows
theorem iT {α : Sort _} {b : Bool} {x y : α} (h : b = true) : (if b = true then x else y) = x := if_pos h
theorem iF {α : Sort _} {b : Bool} {x y : α} (h : b = false) : (if b = true then x else y) = y := if_neg (by rw [h]; exact Bool.false_ne_true)
theorem Same.upd {H : Hp} {D : Addr} {o : HO} (h : H D = Option.none) : Same H (upd H D o) := fun b u e => by rw [upd_ne (ne_of_none e h)]; exact e
theorem Same.upd' {H H' : Hp} {D : Addr} {o : HO} (h : H D = Option.none) (s : Same H H') : Same H (L2.upd H' D o) := fun b u e => by rw [upd_ne (ne_of_none e h)]; exact s b u e
/-- a value; the heap may grow -/
def Es (t : TE) (σ : St) (H : Hp) (v : V) : Prop := ∀ Q : VK, (∀ H', Same H H' → Q v H') → t σ H Q
def Ets (t : TT) (σ : St) (H : Hp) (b : Bool) : Prop := ∀ Q : Bool → Hp → Prop, (∀ H', Same H H' → Q b H') → t σ H Q
section
variable {K : PySem.W.Frag} {σ : St} {H : Hp} {ta tb tc tl te : TE} {tt : TT} {v w : V} {p : Addr} {n : Nat} {xs : List V}
theorem Ev.es (h : Ev ta σ H v) : Es ta σ H v := fun Q q => h Q (q H (Same.refl H))
theorem Es.cast (h : Es ta σ H v) (e : v = w) : Es ta σ H w := e ▸ h
theorem wipe1 (σ : St) (n : Nat) (x : Option V) : wipe ((wipe σ [n]).set n x) [n] = wipe σ [n] := by
  show (((σ.set n none).set n x).set n none) = σ.set n none
  rw [List.set_set, List.set_set]
theorem take_snoc' {α : Type} : ∀ {l : List α} {i : Nat} {x : α}, l[i]? = some x → l.take (i + 1) = l.take i ++ [x]
  | [], i, x, h => by simp at h
  | a :: l, 0, x, h => by
    have e : a = x := Option.some.inj h
    subst e
    rfl
  | a :: l, i + 1, x, h => by
    have ih := take_snoc' (l := l) (i := i) (x := x) h
    show a :: l.take (i + 1) = a :: l.take i ++ [x]
    rw [ih]
    rfl
/-- the list made so far -/
def lcA (f : V → Bool) (e : V → V) (xs : List V) : List V := (xs.filter f).map e
theorem lcA_pos {f : V → Bool} {e : V → V} {xs : List V} {i : Nat} {x : V} (h : xs[i]? = some x) (hf : f x = true) : lcA f e (xs.take (i + 1)) = lcA f e (xs.take i) ++ [e x] := by
  unfold lcA
  rw [take_snoc' h, List.filter_append, List.filter_cons, if_pos hf, List.filter_nil, List.map_append]
  rfl
theorem lcA_neg {f : V → Bool} {e : V → V} {xs : List V} {i : Nat} {x : V} (h : xs[i]? = some x) (hf : f x = false) : lcA f e (xs.take (i + 1)) = lcA f e (xs.take i) := by
  unfold lcA
  rw [take_snoc' h, List.filter_append, List.filter_cons, if_neg (by rw [hf]; exact Bool.false_ne_true), List.filter_nil, List.append_nil]
theorem lcA_len (f : V → Bool) (e : V → V) (xs : List V) (i : Nat) : (lcA f e (xs.take i)).length ≤ xs.length := by
  unfold lcA
  rw [List.length_map]
  refine Nat.le_trans (List.length_filter_le _ _) ?_
  rw [List.length_take]
  exact Nat.min_le_right _ _
/-- a comprehension over a tuple, nothing written -/
theorem lc_T (f : V → Bool) (e : V → V) (hl : Ev tl σ H (.ref p)) (hs : ∀ H', Same H H' → SqT K H' p xs) (hz : xs.length ≤ 1000)
    (ht : ∀ x ∈ xs, ∀ H', Same H H' → Et tt ((wipe σ [n]).set n (some x)) H' (f x)) (he : ∀ x ∈ xs, f x = true → ∀ H', Same H H' → Ev te ((wipe σ [n]).set n (some x)) H' (e x))
    {Q : VK} (q : ∀ D, H D = none → Q (.ref D) (upd H D (.lst (lcA f e xs)))) : tLc (iTup K tl) (gName n) tt te [n] σ H Q := by
  refine hl _ ⟨p, rfl, ⟨xs, hs H (Same.refl H)⟩, fun D hD => ?_⟩
  refine lc_tup (xs := xs) (fun i H' => H' = upd H D (.lst (lcA f e (xs.take i)))) rfl (fun i H' _ e => ?_) (fun i x H' hx e1 => ?_) fun H' e1 => ?_
  · subst e; exact hs _ (Same.upd hD)
  · subst e1
    have hm := List.mem_of_getElem? hx
    have sm := Same.upd (o := HO.lst (lcA f e (xs.take i))) hD
    refine ⟨wipe1 σ n (some x), ht x hm _ sm _ ?_⟩
    cases c : f x with
    | true =>
      refine iteT (he x hm c _ sm _ ⟨_, upd_same, Nat.lt_of_le_of_lt (lcA_len f e xs i) (small1000 hz), ?_⟩)
      rw [upd_upd, lcA_pos hx c]
    | false => exact iteF (by rw [lcA_neg hx c])
  · subst e1
    rw [List.take_length]
    exact q D hD
theorem lc_L (f : V → Bool) (e : V → V) (hl : Ev tl σ H (.ref p)) (hs : ∀ H', Same H H' → SqL K H' p xs) (hz : xs.length ≤ 1000)
    (ht : ∀ x ∈ xs, ∀ H', Same H H' → Et tt ((wipe σ [n]).set n (some x)) H' (f x)) (he : ∀ x ∈ xs, f x = true → ∀ H', Same H H' → Ev te ((wipe σ [n]).set n (some x)) H' (e x))
    {Q : VK} (q : ∀ D, H D = none → Q (.ref D) (upd H D (.lst (lcA f e xs)))) : tLc (iList K tl) (gName n) tt te [n] σ H Q := by
  refine hl _ ⟨p, rfl, ⟨xs, hs H (Same.refl H)⟩, fun D hD => ?_⟩
  refine lc_list (xs := xs) (fun i H' => H' = upd H D (.lst (lcA f e (xs.take i)))) rfl (fun i H' _ e => ?_) (fun i x H' hx e1 => ?_) fun H' e1 => ?_
  · subst e; exact hs _ (Same.upd hD)
  · subst e1
    have hm := List.mem_of_getElem? hx
    have sm := Same.upd (o := HO.lst (lcA f e (xs.take i))) hD
    refine ⟨wipe1 σ n (some x), ht x hm _ sm _ ?_⟩
    cases c : f x with
    | true =>
      refine iteT (he x hm c _ sm _ ⟨_, upd_same, Nat.lt_of_le_of_lt (lcA_len f e xs i) (small1000 hz), ?_⟩)
      rw [upd_upd, lcA_pos hx c]
    | false => exact iteF (by rw [lcA_neg hx c])
  · subst e1
    rw [List.take_length]
    exact q D hD
/-- a comprehension over a tuple without a test, the heap may grow in a turn -/
theorem ls_T (e : V → V) (hl : Ev tl σ H (.ref p)) (hs : ∀ H', Same H H' → SqT K H' p xs) (hz : xs.length ≤ 1000) (he : ∀ x ∈ xs, ∀ H', Same H H' → Es te ((wipe σ [n]).set n (some x)) H' (e x))
    {Q : VK} (q : ∀ D H', Same H H' → H' D = some (.lst (xs.map e)) → Q (.ref D) H') : tLc (iTup K tl) (gName n) tYes te [n] σ H Q := by
  refine hl _ ⟨p, rfl, ⟨xs, hs H (Same.refl H)⟩, fun D hD => ?_⟩
  refine lc_tup (xs := xs) (fun i H' => Same H H' ∧ H' D = some (.lst ((xs.take i).map e))) ⟨Same.upd hD, upd_same⟩ (fun i H' _ e => hs _ e.1) (fun i x H' hx e1 => ?_) fun H' e1 => ?_
  · obtain ⟨sm, e1⟩ := e1
    have hm := List.mem_of_getElem? hx
    refine ⟨wipe1 σ n (some x), ?_⟩
    unfold tYes
    dsimp only
    rw [if_pos rfl]
    refine he x hm _ sm _ fun H2 s2 => ⟨_, s2 _ _ e1, ?_, Same.upd' hD (sm.trans s2), ?_⟩
    · rw [List.length_map, List.length_take]
      exact Nat.lt_of_le_of_lt (Nat.min_le_right _ _) (small1000 hz)
    · rw [upd_same, take_snoc' hx, List.map_append]
      rfl
  · obtain ⟨sm, e1⟩ := e1
    rw [List.take_length] at e1
    exact q D H' sm e1
def liftB (f : Int → Bool) : V → Bool
  | .int n => f n
  | _ => false
def liftV (e : Int → V) : V → V
  | .int n => e n
  | _ => .non
theorem lcA_ints (f : Int → Bool) (e : Int → V) : ∀ ns : List Int, lcA (liftB f) (liftV e) (ns.map V.int) = (ns.filter f).map e
  | [] => rfl
  | n :: ns => by
    have ih := lcA_ints f e ns
    unfold lcA at ih ⊢
    rw [List.map_cons, List.filter_cons, List.filter_cons]
    show (if f n = true then _ else _ : List V).map _ = _
    cases c : f n with
    | true =>
      rw [if_pos rfl, if_pos rfl, List.map_cons, List.map_cons, ih]
      rfl
    | false => rw [if_neg Bool.false_ne_true, if_neg Bool.false_ne_true, ih]
variable {ns : List Int}
theorem lc_TI (f : Int → Bool) (e : Int → V) (hl : Ev tl σ H (.ref p)) (hs : ∀ H', Same H H' → SqT K H' p (ns.map V.int)) (hz : ns.length ≤ 1000)
    (ht : ∀ x ∈ ns, ∀ H', Same H H' → Et tt ((wipe σ [n]).set n (some (.int x))) H' (f x)) (he : ∀ x ∈ ns, f x = true → ∀ H', Same H H' → Ev te ((wipe σ [n]).set n (some (.int x))) H' (e x))
    {Q : VK} (q : ∀ D, H D = none → Q (.ref D) (upd H D (.lst ((ns.filter f).map e)))) : tLc (iTup K tl) (gName n) tt te [n] σ H Q := by
  refine lc_T (liftB f) (liftV e) hl hs (by rw [List.length_map]; exact hz) (fun x hx H' s => ?_) (fun x hx hf H' s => ?_) fun D hD => by rw [lcA_ints]; exact q D hD
  · obtain ⟨y, hy, rfl⟩ := List.mem_map.mp hx
    exact ht y hy H' s
  · obtain ⟨y, hy, rfl⟩ := List.mem_map.mp hx
    exact he y hy hf H' s
theorem lc_LI (f : Int → Bool) (e : Int → V) (hl : Ev tl σ H (.ref p)) (hs : ∀ H', Same H H' → SqL K H' p (ns.map V.int)) (hz : ns.length ≤ 1000)
    (ht : ∀ x ∈ ns, ∀ H', Same H H' → Et tt ((wipe σ [n]).set n (some (.int x))) H' (f x)) (he : ∀ x ∈ ns, f x = true → ∀ H', Same H H' → Ev te ((wipe σ [n]).set n (some (.int x))) H' (e x))
    {Q : VK} (q : ∀ D, H D = none → Q (.ref D) (upd H D (.lst ((ns.filter f).map e)))) : tLc (iList K tl) (gName n) tt te [n] σ H Q := by
  refine lc_L (liftB f) (liftV e) hl hs (by rw [List.length_map]; exact hz) (fun x hx H' s => ?_) (fun x hx hf H' s => ?_) fun D hD => by rw [lcA_ints]; exact q D hD
  · obtain ⟨y, hy, rfl⟩ := List.mem_map.mp hx
    exact ht y hy H' s
  · obtain ⟨y, hy, rfl⟩ := List.mem_map.mp hx
    exact he y hy hf H' s
theorem et_yes {σ : St} {H : Hp} : Et tYes σ H true := fun Q q => q
theorem cat_of {ta tb : TE} {r : Addr} {xs zs : List V} {Q : VK} (h : Ev ta σ H (.ref p)) (h' : Ev tb σ H (.ref r)) (hp : H p = some (.lst xs)) (hr : H r = some (.lst zs)) (hz : xs.length + zs.length ≤ 1000) (q : ∀ d, H d = none → Q (.ref d) (upd H d (.lst (xs ++ zs)))) : tOp rCat ta tb σ H Q :=
  h _ (h' _ ⟨p, r, xs, zs, rfl, rfl, hp, hr, Nat.le_of_lt (small1000 hz), q⟩)
end
end L2
set_option Elab.async false
set_option linter.all false
set_option maxRecDepth 100000
set_option maxHeartbeats 2000000
namespace Hg
open PySem PySem.Spec PyProof.Rows L2
/-! ### the objects -/
structure GV where
  dx : Addr
  p : Addr
  h : Addr
  lifts : Int
  side : Int
  owed : Int
  time : Int
  tv : V
  last : Int
  winner : Int
  xs : List Int
  ms : List Int
structure UV where
  dx : Addr
  l : Addr
  ball : Int
  half : Int
  beside : Int
  strokes : Int
  had : Int
  mate : Int
  live : List Int
structure SV where
  dx : Addr
  r : Addr
  g : Addr
  o : Addr
  hit : Int
  hoop : Int
  fault : Int
  ran : List Int
  peg : List Int
  off : List Int
def gF (G : GV) : List (Str × V) :=
  [("lifts", .int G.lifts), ("points", .ref G.p), ("half_turns", .ref G.h), ("side", .int G.side), ("owed", .int G.owed), ("time", .int G.time), ("turn", G.tv), ("last_ball", .int G.last), ("winner", .int G.winner)]
def tF (U : UV) : List (Str × V) :=
  [("ball", .int U.ball), ("half", .int U.half), ("beside", .int U.beside), ("strokes", .int U.strokes), ("live", .ref U.l), ("hoops_before", .int U.had), ("partner_before", .int U.mate)]
def sF (S : SV) : List (Str × V) :=
  [("hit", .int S.hit), ("hoop", .int S.hoop), ("fault", .int S.fault), ("ran", .ref S.r), ("peg", .ref S.g), ("off", .ref S.o)]
def rF (v : V) : List (Str × V) := [("game", v)]
def dF (c : Addr) (i : Int) : List (Str × V) := [("calls", .ref c), ("place", .int i)]
structure GH (a : Adr) (H : Hp) (g : Addr) (G : GV) : Prop where
  ob : H g = some (.ins a.C_Game G.dx (gF G))
  pt : H G.p = some (.lst (G.xs.map V.int))
  ht : H G.h = some (.lst (G.ms.map V.int))
  xl : G.xs.length = 4
  ml : G.ms.length = 2
structure UH (a : Adr) (H : Hp) (t : Addr) (U : UV) : Prop where
  ob : H t = some (.ins a.C_Turn U.dx (tF U))
  lv : H U.l = some (.lst (U.live.map V.int))
structure SH (a : Adr) (H : Hp) (s : Addr) (S : SV) : Prop where
  ob : H s = some (.ins a.C_Stroke S.dx (sF S))
  rn : H S.r = some (.lst (S.ran.map V.int))
  pg : H S.g = some (.lst (S.peg.map V.int))
  of : H S.o = some (.lst (S.off.map V.int))
theorem GH.same {a : Adr} {H H' : Hp} {g : Addr} {G : GV} (h : GH a H g G) (s : Same H H') : GH a H' g G := ⟨s _ _ h.ob, s _ _ h.pt, s _ _ h.ht, h.xl, h.ml⟩
theorem UH.same {a : Adr} {H H' : Hp} {t : Addr} {U : UV} (h : UH a H t U) (s : Same H H') : UH a H' t U := ⟨s _ _ h.ob, s _ _ h.lv⟩
theorem SH.same {a : Adr} {H H' : Hp} {t : Addr} {S : SV} (h : SH a H t S) (s : Same H H') : SH a H' t S := ⟨s _ _ h.ob, s _ _ h.rn, s _ _ h.pg, s _ _ h.of⟩
/-- the turn, if there is one -/
def TVw (a : Adr) (H : Hp) (v : V) : Option (Addr × UV) → Prop
  | none => v = .non
  | some (t, U) => v = .ref t ∧ UH a H t U
theorem TVw.same {a : Adr} {H H' : Hp} {v : V} : ∀ {o : Option (Addr × UV)}, TVw a H v o → Same H H' → TVw a H' v o
  | none, h, _ => h
  | some (_, _), h, s => ⟨h.1, h.2.same s⟩
def pt (xs : List Int) (i : Int) : Int := xs.getD i.toNat 0
theorem pt_at {xs : List Int} {n : Nat} {b : Int} (hl : xs.length = n) (h : 0 ≤ b ∧ b < n) : atI (xs.map V.int) b = some (.int (pt xs b)) := by
  obtain ⟨k, rfl⟩ : ∃ k : Nat, b = k := ⟨b.toNat, by omega⟩
  refine atI_nat ?_
  have hk : k < xs.length := by omega
  unfold pt
  rw [List.getElem?_map]
  simp [List.getD, hk]
def sdp (xs : List Int) (s : Int) : Int := pt xs s + pt xs (s + 2)
def ldr (xs : List Int) : Int := if sdp xs 0 - sdp xs 1 = 0 then -1 else if 0 < sdp xs 0 - sdp xs 1 then 0 else 1
def stu : Option (Addr × UV) → Int
  | none => 2
  | some x => if x.2.beside = -1 then 0 else 1
def stt (w : Int) (o : Option (Addr × UV)) : Int := if w = -1 then stu o else 3
section
variable {P : Program} {w : World} {K : PySem.W.Frag} {mg : Str → Option Value} {base : Heap} {a : Adr} {H : Hp} {g t s : Addr} {G : GV} {U : UV} {S : SV} {Q : VK} {E : XK}
theorem Txt.balls (T : Txt K mg a) (H : Hp) : SqT K H a.V_BALLS (([0, 1, 2, 3] : List Int).map V.int) := T.t_BALLS H
/-! ### defs that only read -/
def sp_Game_is_out (a : Adr) : Sp := fun vs H Q _ => ∃ (g : Addr) (G : GV) (b : Int), vs = [.ref g, .int b] ∧ GH a H g G ∧ (0 ≤ b ∧ b < 4) ∧ Q (.bl (decide (pt G.xs b = 13))) H
theorem use_is_out {b : Int} (hb : 0 ≤ b ∧ b < 4) (hG : GH a H g G) (q : Q (.bl (decide (pt G.xs b = 13))) H) : sp_Game_is_out a [.ref g, .int b] H Q E := ⟨g, G, b, rfl, hG, hb, q⟩
theorem ok_Game_is_out (T : Txt K mg a) : FnOk P w K mg base CX0 1 a.Game_is_out a.Game_is_out_d ["self", "ball"] (sp_Game_is_out a) := by
  refine T.F_Game_is_out.ok sc_Game_is_out (fun vs H Q E h => ?_) (fun cdv A outer s H vs Q E hr h => ?_)
  · (first | (obtain ⟨rfl, _⟩ := h; rfl) | (obtain ⟨_, rfl, _⟩ := h; rfl) | (obtain ⟨_, _, rfl, _⟩ := h; rfl) | (obtain ⟨_, _, _, rfl, _⟩ := h; rfl) | (obtain ⟨_, _, _, _, rfl, _⟩ := h; rfl) | (obtain ⟨_, _, _, _, _, rfl, _⟩ := h; rfl) | (obtain ⟨_, _, _, _, _, _, rfl, _⟩ := h; rfl) | (obtain ⟨_, _, _, _, _, _, _, rfl, _⟩ := h; rfl) | (obtain ⟨_, _, _, _, _, _, _, _, rfl, _⟩ := h; rfl) | (obtain ⟨_, _, _, _, _, _, _, _, _, rfl, _⟩ := h; rfl) | (obtain ⟨_, _, _, _, _, _, _, _, _, _, rfl, _⟩ := h; rfl) | (obtain ⟨_, _, _, _, _, _, _, _, _, _, _, rfl, _⟩ := h; rfl) | (obtain ⟨_, _, _, _, _, _, _, _, _, _, _, _, rfl, _⟩ := h; rfl) | (obtain ⟨_, _, _, _, _, _, _, _, _, _, _, _, _, rfl, _⟩ := h; rfl) | (obtain ⟨_, _, _, _, _, _, _, _, _, _, _, _, _, _, rfl, _⟩ := h; rfl) | (obtain ⟨_, _, _, _, _, _, _, _, _, _, _, _, _, _, _, rfl, _⟩ := h; rfl))
  · obtain ⟨g, G, b, rfl, hG, hb, q⟩ := h
    refine ⟨_, (pss_one (ps_ret (pe_cmpR op_eqI (pe_ix ix_list (pe_fld (pv 0) (by rfl)) (pv 1) (fun _ _ => rfl)) (pe_gi (by rfl) T.g_OUT) (nomark _)))), ?_⟩
    refine (st_ret (ev_op (ev_ix (ev_fld (ev_var rfl) hG.ob T.c_Game T.n_Game_points rfl) (ev_var rfl) hG.pt (pt_at hG.xl ?_)) ev_c) ?_)
    · exact hb
    · exact q
def sp_Game_side_points (a : Adr) : Sp := fun vs H Q _ => ∃ (g : Addr) (G : GV) (b : Int), vs = [.ref g, .int b] ∧ GH a H g G ∧ (0 ≤ b ∧ b < 2) ∧ Q (.int (sdp G.xs b)) H
theorem use_side_points {b : Int} (hb : 0 ≤ b ∧ b < 2) (hG : GH a H g G) (q : Q (.int (sdp G.xs b)) H) : sp_Game_side_points a [.ref g, .int b] H Q E := ⟨g, G, b, rfl, hG, hb, q⟩
theorem ok_Game_side_points (T : Txt K mg a) : FnOk P w K mg base CX0 1 a.Game_side_points a.Game_side_points_d ["self", "side"] (sp_Game_side_points a) := by
  refine T.F_Game_side_points.ok sc_Game_side_points (fun vs H Q E h => ?_) (fun cdv A outer s H vs Q E hr h => ?_)
  · (first | (obtain ⟨rfl, _⟩ := h; rfl) | (obtain ⟨_, rfl, _⟩ := h; rfl) | (obtain ⟨_, _, rfl, _⟩ := h; rfl) | (obtain ⟨_, _, _, rfl, _⟩ := h; rfl) | (obtain ⟨_, _, _, _, rfl, _⟩ := h; rfl) | (obtain ⟨_, _, _, _, _, rfl, _⟩ := h; rfl) | (obtain ⟨_, _, _, _, _, _, rfl, _⟩ := h; rfl) | (obtain ⟨_, _, _, _, _, _, _, rfl, _⟩ := h; rfl) | (obtain ⟨_, _, _, _, _, _, _, _, rfl, _⟩ := h; rfl) | (obtain ⟨_, _, _, _, _, _, _, _, _, rfl, _⟩ := h; rfl) | (obtain ⟨_, _, _, _, _, _, _, _, _, _, rfl, _⟩ := h; rfl) | (obtain ⟨_, _, _, _, _, _, _, _, _, _, _, rfl, _⟩ := h; rfl) | (obtain ⟨_, _, _, _, _, _, _, _, _, _, _, _, rfl, _⟩ := h; rfl) | (obtain ⟨_, _, _, _, _, _, _, _, _, _, _, _, _, rfl, _⟩ := h; rfl) | (obtain ⟨_, _, _, _, _, _, _, _, _, _, _, _, _, _, rfl, _⟩ := h; rfl) | (obtain ⟨_, _, _, _, _, _, _, _, _, _, _, _, _, _, _, rfl, _⟩ := h; rfl))
  · obtain ⟨g, G, b, rfl, hG, hb, q⟩ := h
    refine ⟨_, (pss_one (ps_ret (pe_op op_add (pe_ix ix_list (pe_fld (pv 0) (by rfl)) (pv 1) (fun _ _ => rfl)) (pe_ix ix_list (pe_fld (pv 0) (by rfl)) (pe_op op_add (pv 1) pe_int) (fun _ _ => rfl))))), ?_⟩
    refine (st_ret (ev_op (ev_ix (ev_fld (ev_var rfl) hG.ob T.c_Game T.n_Game_points rfl) (ev_var rfl) hG.pt (pt_at hG.xl ?_)) (ev_ix (ev_fld (ev_var rfl) hG.ob T.c_Game T.n_Game_points rfl) (ev_op (ev_var rfl) ev_c) hG.pt (pt_at hG.xl ?_))) ?_)
    · constructor <;> omega
    · constructor <;> omega
    · exact q
def sp_Game_leader (a : Adr) : Sp := fun vs H Q _ => ∃ (g : Addr) (G : GV), vs = [.ref g] ∧ GH a H g G ∧ Q (.int (ldr G.xs)) H
theorem use_leader (hG : GH a H g G) (q : Q (.int (ldr G.xs)) H) : sp_Game_leader a [.ref g] H Q E := ⟨g, G, rfl, hG, q⟩
theorem ok_Game_leader (T : Txt K mg a) : FnOk P w K mg base CX0 2 a.Game_leader a.Game_leader_d ["self"] (sp_Game_leader a) := by
  refine T.F_Game_leader.ok sc_Game_leader (fun vs H Q E h => ?_) (fun cdv A outer s H vs Q E hr h => ?_)
  · (first | (obtain ⟨rfl, _⟩ := h; rfl) | (obtain ⟨_, rfl, _⟩ := h; rfl) | (obtain ⟨_, _, rfl, _⟩ := h; rfl) | (obtain ⟨_, _, _, rfl, _⟩ := h; rfl) | (obtain ⟨_, _, _, _, rfl, _⟩ := h; rfl) | (obtain ⟨_, _, _, _, _, rfl, _⟩ := h; rfl) | (obtain ⟨_, _, _, _, _, _, rfl, _⟩ := h; rfl) | (obtain ⟨_, _, _, _, _, _, _, rfl, _⟩ := h; rfl) | (obtain ⟨_, _, _, _, _, _, _, _, rfl, _⟩ := h; rfl) | (obtain ⟨_, _, _, _, _, _, _, _, _, rfl, _⟩ := h; rfl) | (obtain ⟨_, _, _, _, _, _, _, _, _, _, rfl, _⟩ := h; rfl) | (obtain ⟨_, _, _, _, _, _, _, _, _, _, _, rfl, _⟩ := h; rfl) | (obtain ⟨_, _, _, _, _, _, _, _, _, _, _, _, rfl, _⟩ := h; rfl) | (obtain ⟨_, _, _, _, _, _, _, _, _, _, _, _, _, rfl, _⟩ := h; rfl) | (obtain ⟨_, _, _, _, _, _, _, _, _, _, _, _, _, _, rfl, _⟩ := h; rfl) | (obtain ⟨_, _, _, _, _, _, _, _, _, _, _, _, _, _, _, rfl, _⟩ := h; rfl))
  · obtain ⟨g, G, rfl, hG, q⟩ := h
    refine ⟨_, (pss_cons (ps_set (i := 1) sc_Game_leader.nd rfl (by first | exact Or.inl rfl | exact Or.inr rfl) (pe_op op_sub (pe_meth (pv 0) T.c_Game T.m_Game_side_points (ok_Game_side_points T) (hr.mono (by decide)) T.b_Game_side_points .nil pass0 (pa_cons pe_int pa_nil)) (pe_meth (pv 0) T.c_Game T.m_Game_side_points (ok_Game_side_points T) (hr.mono (by decide)) T.b_Game_side_points .nil pass0 (pa_cons pe_int pa_nil))))
      (pss_cons (ps_if (pt_cmpR op_eqI (pv 1) pe_int (nomark _)) (pss_one (ps_ret (pe_gi (by rfl) T.g_NO_SIDE))) pss_nil)
      (pss_one (ps_ret (pe_ifExp (pt_cmpR op_gt (pv 1) pe_int (nomark _)) pe_int pe_int))))), ?_⟩
    refine (sq_set (ev_op (ev_meth (ev_var rfl) hG.ob rfl (ea_cons ev_c ea_nil) (fun Q q => use_side_points ?_ hG q)) (ev_meth (ev_var rfl) hG.ob rfl (ea_cons ev_c ea_nil) (fun Q q => use_side_points ?_ hG q))) (sq_if (et_test (ev_op (ev_var rfl) ev_c)) (fun hc1 => (st_ret ev_c ?_)) (fun hc1 => (st_ret (ev_ifI (et_test (ev_op (ev_var rfl) ev_c)) (fun hc => ev_c) (fun hc => ev_c)) ?_))))
    · decide
    · decide
    · unfold ldr at q
      rw [if_pos (of_decide_eq_true hc1)] at q
      exact q
    · unfold ldr at q
      rw [if_neg (of_decide_eq_false hc1)] at q
      simp only [decide_eq_true_eq]
      exact q
def sp_Game_state (a : Adr) : Sp := fun vs H Q _ => ∃ (g : Addr) (G : GV) (o : Option (Addr × UV)), vs = [.ref g] ∧ GH a H g G ∧ (G.winner = -1 → TVw a H G.tv o) ∧ Q (.int (stt G.winner o)) H
theorem use_state {o : Option (Addr × UV)} (hG : GH a H g G) (ho : G.winner = -1 → TVw a H G.tv o) (q : Q (.int (stt G.winner o)) H) : sp_Game_state a [.ref g] H Q E := ⟨g, G, o, rfl, hG, ho, q⟩
theorem ok_Game_state (T : Txt K mg a) : FnOk P w K mg base CX0 1 a.Game_state a.Game_state_d ["self"] (sp_Game_state a) := by
  refine T.F_Game_state.ok sc_Game_state (fun vs H Q E h => ?_) (fun cdv A outer s H vs Q E hr h => ?_)
  · (first | (obtain ⟨rfl, _⟩ := h; rfl) | (obtain ⟨_, rfl, _⟩ := h; rfl) | (obtain ⟨_, _, rfl, _⟩ := h; rfl) | (obtain ⟨_, _, _, rfl, _⟩ := h; rfl) | (obtain ⟨_, _, _, _, rfl, _⟩ := h; rfl) | (obtain ⟨_, _, _, _, _, rfl, _⟩ := h; rfl) | (obtain ⟨_, _, _, _, _, _, rfl, _⟩ := h; rfl) | (obtain ⟨_, _, _, _, _, _, _, rfl, _⟩ := h; rfl) | (obtain ⟨_, _, _, _, _, _, _, _, rfl, _⟩ := h; rfl) | (obtain ⟨_, _, _, _, _, _, _, _, _, rfl, _⟩ := h; rfl) | (obtain ⟨_, _, _, _, _, _, _, _, _, _, rfl, _⟩ := h; rfl) | (obtain ⟨_, _, _, _, _, _, _, _, _, _, _, rfl, _⟩ := h; rfl) | (obtain ⟨_, _, _, _, _, _, _, _, _, _, _, _, rfl, _⟩ := h; rfl) | (obtain ⟨_, _, _, _, _, _, _, _, _, _, _, _, _, rfl, _⟩ := h; rfl) | (obtain ⟨_, _, _, _, _, _, _, _, _, _, _, _, _, _, rfl, _⟩ := h; rfl) | (obtain ⟨_, _, _, _, _, _, _, _, _, _, _, _, _, _, _, rfl, _⟩ := h; rfl))
  · obtain ⟨g, G, o, rfl, hG, ho, q⟩ := h
    refine ⟨_, (pss_cons (ps_if (pt_cmpR op_neI (pe_fld (pv 0) (by rfl)) (pe_gi (by rfl) T.g_NO_SIDE) (nomark _)) (pss_one (ps_ret (pe_gi (by rfl) T.g_GAME_OVER))) pss_nil)
      (pss_cons (ps_if (pt_cmpR op_isN (pe_fld (pv 0) (by rfl)) pe_non (nomark _)) (pss_one (ps_ret (pe_gi (by rfl) T.g_TURN_OVER))) pss_nil)
      (pss_one (ps_ret (pe_ifExp (pt_cmpR op_eqI (pe_fld (pe_fld (pv 0) (by rfl)) (by rfl)) (pe_gi (by rfl) T.g_NO_BALL) (nomark _)) (pe_gi (by rfl) T.g_BY_ITSELF) (pe_gi (by rfl) T.g_BALL_AT_SIDE)))))), ?_⟩
    by_cases hw : G.winner = -1
    · have ho := ho hw
      cases o with
      | none =>
        refine (sq_if (et_test (ev_op (ev_fld (ev_var rfl) hG.ob T.c_Game T.n_Game_winner rfl) ev_c)) (fun hc => absurd hw (of_decide_eq_true hc)) fun hc => (sq_if (et_test (ev_isN (ev_fld (ev_var rfl) hG.ob T.c_Game T.n_Game_turn rfl))) (fun hc1 => st_ret ev_c ?_) fun hc1 => absurd (show G.tv = .non from ho) (of_decide_eq_false hc1)))
        unfold stt at q
        rw [if_pos hw] at q
        exact q
      | some x =>
        obtain ⟨t, U⟩ := x
        obtain ⟨htv, hU⟩ := ho
        refine (sq_if (et_test (ev_op (ev_fld (ev_var rfl) hG.ob T.c_Game T.n_Game_winner rfl) ev_c)) (fun hc => absurd hw (of_decide_eq_true hc)) fun hc => (sq_if (et_test (ev_isN (ev_fld (ev_var rfl) hG.ob T.c_Game T.n_Game_turn rfl))) (fun hc1 => ?_) fun hc1 => st_ret (ev_ifI (et_test (ev_op (ev_fld ((ev_fld (ev_var rfl) hG.ob T.c_Game T.n_Game_turn rfl).cast htv) hU.ob T.c_Turn T.n_Turn_beside rfl) ev_c)) (fun hc => ev_c) (fun hc => ev_c)) ?_))
        · have := of_decide_eq_true hc1
          rw [htv] at this; cases this
        · unfold stt at q
          rw [if_pos hw] at q
          simp only [decide_eq_true_eq]
          exact q
    · refine (sq_if (et_test (ev_op (ev_fld (ev_var rfl) hG.ob T.c_Game T.n_Game_winner rfl) ev_c)) (fun hc => st_ret ev_c ?_) fun hc => absurd hw (by simpa using hc))
      unfold stt at q
      rw [if_neg hw] at q
      exact q
def sp_side_of (a : Adr) : Sp := fun vs H Q _ => ∃ b : Int, vs = [.int b] ∧ Q (.int (b % 2)) H
theorem use_side_of {b : Int} (q : Q (.int (b % 2)) H) : sp_side_of a [.int b] H Q E := ⟨b, rfl, q⟩
theorem ok_side_of (T : Txt K mg a) : FnOk P w K mg base CX0 1 a.side_of a.side_of_d ["ball"] (sp_side_of a) := by
  refine T.F_side_of.ok sc_side_of (fun vs H Q E h => ?_) (fun cdv A outer s H vs Q E hr h => ?_)
  · (first | (obtain ⟨rfl, _⟩ := h; rfl) | (obtain ⟨_, rfl, _⟩ := h; rfl) | (obtain ⟨_, _, rfl, _⟩ := h; rfl) | (obtain ⟨_, _, _, rfl, _⟩ := h; rfl) | (obtain ⟨_, _, _, _, rfl, _⟩ := h; rfl) | (obtain ⟨_, _, _, _, _, rfl, _⟩ := h; rfl) | (obtain ⟨_, _, _, _, _, _, rfl, _⟩ := h; rfl) | (obtain ⟨_, _, _, _, _, _, _, rfl, _⟩ := h; rfl) | (obtain ⟨_, _, _, _, _, _, _, _, rfl, _⟩ := h; rfl) | (obtain ⟨_, _, _, _, _, _, _, _, _, rfl, _⟩ := h; rfl) | (obtain ⟨_, _, _, _, _, _, _, _, _, _, rfl, _⟩ := h; rfl) | (obtain ⟨_, _, _, _, _, _, _, _, _, _, _, rfl, _⟩ := h; rfl) | (obtain ⟨_, _, _, _, _, _, _, _, _, _, _, _, rfl, _⟩ := h; rfl) | (obtain ⟨_, _, _, _, _, _, _, _, _, _, _, _, _, rfl, _⟩ := h; rfl) | (obtain ⟨_, _, _, _, _, _, _, _, _, _, _, _, _, _, rfl, _⟩ := h; rfl) | (obtain ⟨_, _, _, _, _, _, _, _, _, _, _, _, _, _, _, rfl, _⟩ := h; rfl))
  · obtain ⟨b, rfl, q⟩ := h
    refine ⟨_, (pss_one (ps_ret (pe_op op_mod (pv 0) pe_int))), ?_⟩
    refine (st_ret (ev_opC (ev_var rfl) ev_c (by decide)) ?_)
    exact q
def sp_partner_of (a : Adr) : Sp := fun vs H Q _ => ∃ b : Int, vs = [.int b] ∧ Q (.int ((b + 2) % 4)) H
theorem use_partner_of {b : Int} (q : Q (.int ((b + 2) % 4)) H) : sp_partner_of a [.int b] H Q E := ⟨b, rfl, q⟩
theorem ok_partner_of (T : Txt K mg a) : FnOk P w K mg base CX0 1 a.partner_of a.partner_of_d ["ball"] (sp_partner_of a) := by
  refine T.F_partner_of.ok sc_partner_of (fun vs H Q E h => ?_) (fun cdv A outer s H vs Q E hr h => ?_)
  · (first | (obtain ⟨rfl, _⟩ := h; rfl) | (obtain ⟨_, rfl, _⟩ := h; rfl) | (obtain ⟨_, _, rfl, _⟩ := h; rfl) | (obtain ⟨_, _, _, rfl, _⟩ := h; rfl) | (obtain ⟨_, _, _, _, rfl, _⟩ := h; rfl) | (obtain ⟨_, _, _, _, _, rfl, _⟩ := h; rfl) | (obtain ⟨_, _, _, _, _, _, rfl, _⟩ := h; rfl) | (obtain ⟨_, _, _, _, _, _, _, rfl, _⟩ := h; rfl) | (obtain ⟨_, _, _, _, _, _, _, _, rfl, _⟩ := h; rfl) | (obtain ⟨_, _, _, _, _, _, _, _, _, rfl, _⟩ := h; rfl) | (obtain ⟨_, _, _, _, _, _, _, _, _, _, rfl, _⟩ := h; rfl) | (obtain ⟨_, _, _, _, _, _, _, _, _, _, _, rfl, _⟩ := h; rfl) | (obtain ⟨_, _, _, _, _, _, _, _, _, _, _, _, rfl, _⟩ := h; rfl) | (obtain ⟨_, _, _, _, _, _, _, _, _, _, _, _, _, rfl, _⟩ := h; rfl) | (obtain ⟨_, _, _, _, _, _, _, _, _, _, _, _, _, _, rfl, _⟩ := h; rfl) | (obtain ⟨_, _, _, _, _, _, _, _, _, _, _, _, _, _, _, rfl, _⟩ := h; rfl))
  · obtain ⟨b, rfl, q⟩ := h
    refine ⟨_, (pss_one (ps_ret (pe_op op_mod (pe_op op_add (pv 0) pe_int) pe_int))), ?_⟩
    refine (st_ret (ev_opC (ev_op (ev_var rfl) ev_c) ev_c (by decide)) ?_)
    exact q
def sp_price_of (a : Adr) : Sp := fun vs H Q _ => ∃ b : Int, vs = [.int b] ∧ Q (.int (if b = 1 then 1 else 2)) H
theorem use_price_of {b : Int} (q : Q (.int (if b = 1 then 1 else 2)) H) : sp_price_of a [.int b] H Q E := ⟨b, rfl, q⟩
theorem ok_price_of (T : Txt K mg a) : FnOk P w K mg base CX0 1 a.price_of a.price_of_d ["half"] (sp_price_of a) := by
  refine T.F_price_of.ok sc_price_of (fun vs H Q E h => ?_) (fun cdv A outer s H vs Q E hr h => ?_)
  · (first | (obtain ⟨rfl, _⟩ := h; rfl) | (obtain ⟨_, rfl, _⟩ := h; rfl) | (obtain ⟨_, _, rfl, _⟩ := h; rfl) | (obtain ⟨_, _, _, rfl, _⟩ := h; rfl) | (obtain ⟨_, _, _, _, rfl, _⟩ := h; rfl) | (obtain ⟨_, _, _, _, _, rfl, _⟩ := h; rfl) | (obtain ⟨_, _, _, _, _, _, rfl, _⟩ := h; rfl) | (obtain ⟨_, _, _, _, _, _, _, rfl, _⟩ := h; rfl) | (obtain ⟨_, _, _, _, _, _, _, _, rfl, _⟩ := h; rfl) | (obtain ⟨_, _, _, _, _, _, _, _, _, rfl, _⟩ := h; rfl) | (obtain ⟨_, _, _, _, _, _, _, _, _, _, rfl, _⟩ := h; rfl) | (obtain ⟨_, _, _, _, _, _, _, _, _, _, _, rfl, _⟩ := h; rfl) | (obtain ⟨_, _, _, _, _, _, _, _, _, _, _, _, rfl, _⟩ := h; rfl) | (obtain ⟨_, _, _, _, _, _, _, _, _, _, _, _, _, rfl, _⟩ := h; rfl) | (obtain ⟨_, _, _, _, _, _, _, _, _, _, _, _, _, _, rfl, _⟩ := h; rfl) | (obtain ⟨_, _, _, _, _, _, _, _, _, _, _, _, _, _, _, rfl, _⟩ := h; rfl))
  · obtain ⟨b, rfl, q⟩ := h
    refine ⟨_, (pss_one (ps_ret (pe_ifExp (pt_cmpR op_eqI (pv 0) pe_int (nomark _)) pe_int pe_int))), ?_⟩
    refine (st_ret (ev_ifI (et_test (ev_op (ev_var rfl) ev_c)) (fun hc => ev_c) (fun hc => ev_c)) ?_)
    simp only [decide_eq_true_eq]
    exact q
end
end Hg
set_option Elab.async false
set_option linter.all false
set_option maxRecDepth 100000
set_option maxHeartbeats 2000000
namespace Hg
open PySem PySem.Spec PyProof.Rows L2
section
variable {P : Program} {w : World} {K : PySem.W.Frag} {mg : Str → Option Value} {base : Heap} {a : Adr} {H : Hp} {g t s : Addr} {G : GV} {U : UV} {S : SV} {Q : VK} {E : XK}
def hoopC (U : UV) (S : SV) : Bool := decide (S.hoop = 1) && decide (U.half = 0)
def sp_hoop_counts (a : Adr) : Sp := fun vs H Q _ => ∃ (t s : Addr) (U : UV) (S : SV), vs = [.ref t, .ref s] ∧ UH a H t U ∧ SH a H s S ∧ Q (.bl (hoopC U S)) H
theorem use_hoop_counts (hU : UH a H t U) (hS : SH a H s S) (q : Q (.bl (hoopC U S)) H) : sp_hoop_counts a [.ref t, .ref s] H Q E := ⟨t, s, U, S, rfl, hU, hS, q⟩
theorem ok_hoop_counts (T : Txt K mg a) : FnOk P w K mg base CX0 1 a.hoop_counts a.hoop_counts_d ["turn", "stroke"] (sp_hoop_counts a) := by
  refine T.F_hoop_counts.ok sc_hoop_counts (fun vs H Q E h => ?_) (fun cdv A outer s H vs Q E hr h => ?_)
  · (first | (obtain ⟨rfl, _⟩ := h; rfl) | (obtain ⟨_, rfl, _⟩ := h; rfl) | (obtain ⟨_, _, rfl, _⟩ := h; rfl) | (obtain ⟨_, _, _, rfl, _⟩ := h; rfl) | (obtain ⟨_, _, _, _, rfl, _⟩ := h; rfl) | (obtain ⟨_, _, _, _, _, rfl, _⟩ := h; rfl) | (obtain ⟨_, _, _, _, _, _, rfl, _⟩ := h; rfl) | (obtain ⟨_, _, _, _, _, _, _, rfl, _⟩ := h; rfl) | (obtain ⟨_, _, _, _, _, _, _, _, rfl, _⟩ := h; rfl) | (obtain ⟨_, _, _, _, _, _, _, _, _, rfl, _⟩ := h; rfl) | (obtain ⟨_, _, _, _, _, _, _, _, _, _, rfl, _⟩ := h; rfl) | (obtain ⟨_, _, _, _, _, _, _, _, _, _, _, rfl, _⟩ := h; rfl) | (obtain ⟨_, _, _, _, _, _, _, _, _, _, _, _, rfl, _⟩ := h; rfl) | (obtain ⟨_, _, _, _, _, _, _, _, _, _, _, _, _, rfl, _⟩ := h; rfl) | (obtain ⟨_, _, _, _, _, _, _, _, _, _, _, _, _, _, rfl, _⟩ := h; rfl) | (obtain ⟨_, _, _, _, _, _, _, _, _, _, _, _, _, _, _, rfl, _⟩ := h; rfl))
  · obtain ⟨t, s, U, S, rfl, hU, hS, q⟩ := h
    refine ⟨_, (pss_one (ps_ret (pe_and (pe_cmpR op_eqI (pe_fld (pv 1) (by rfl)) pe_int (nomark _)) (pe_one (pe_cmpR op_eqI (pe_fld (pv 0) (by rfl)) pe_int (nomark _)))))), ?_⟩
    refine (st_ret (ev_and (ev_op (ev_fld (ev_var rfl) hS.ob T.c_Stroke T.n_Stroke_hoop rfl) ev_c) (fun hc => (ev_op (ev_fld (ev_var rfl) hU.ob T.c_Turn T.n_Turn_half rfl) ev_c))) ?_)
    exact q
def min12 (i : Int) : Int := if 12 < i then 12 else i
def cameI (had lift hoops : Int) : Bool := decide (had < lift) && decide (lift ≤ hoops)
def owedI (lifts pts had mate : Int) : Int := if decide (lifts = 0) = true then 0 else
  if (cameI had 7 (min12 pts) && (cameI had 10 (min12 pts) && decide (mate < 7))) = true then 2 else if (cameI had 7 (min12 pts) || cameI had 10 (min12 pts)) = true then 1 else 0
def sp_owed_for (a : Adr) : Sp := fun vs H Q _ => ∃ (g t : Addr) (G : GV) (U : UV), vs = [.ref g, .ref t] ∧ GH a H g G ∧ UH a H t U ∧ (0 ≤ U.ball ∧ U.ball < 4) ∧ Q (.int (owedI G.lifts (pt G.xs U.ball) U.had U.mate)) H
theorem use_owed_for (hb : 0 ≤ U.ball ∧ U.ball < 4) (hG : GH a H g G) (hU : UH a H t U) (q : Q (.int (owedI G.lifts (pt G.xs U.ball) U.had U.mate)) H) : sp_owed_for a [.ref g, .ref t] H Q E := ⟨g, t, G, U, rfl, hG, hU, hb, q⟩
theorem ok_owed_for (T : Txt K mg a) : FnOk P w K mg base CX0 1 a.owed_for a.owed_for_d ["game", "turn"] (sp_owed_for a) := by
  refine T.F_owed_for.ok sc_owed_for (fun vs H Q E h => ?_) (fun cdv A outer s H vs Q E hr h => ?_)
  · (first | (obtain ⟨rfl, _⟩ := h; rfl) | (obtain ⟨_, rfl, _⟩ := h; rfl) | (obtain ⟨_, _, rfl, _⟩ := h; rfl) | (obtain ⟨_, _, _, rfl, _⟩ := h; rfl) | (obtain ⟨_, _, _, _, rfl, _⟩ := h; rfl) | (obtain ⟨_, _, _, _, _, rfl, _⟩ := h; rfl) | (obtain ⟨_, _, _, _, _, _, rfl, _⟩ := h; rfl) | (obtain ⟨_, _, _, _, _, _, _, rfl, _⟩ := h; rfl) | (obtain ⟨_, _, _, _, _, _, _, _, rfl, _⟩ := h; rfl) | (obtain ⟨_, _, _, _, _, _, _, _, _, rfl, _⟩ := h; rfl) | (obtain ⟨_, _, _, _, _, _, _, _, _, _, rfl, _⟩ := h; rfl) | (obtain ⟨_, _, _, _, _, _, _, _, _, _, _, rfl, _⟩ := h; rfl) | (obtain ⟨_, _, _, _, _, _, _, _, _, _, _, _, rfl, _⟩ := h; rfl) | (obtain ⟨_, _, _, _, _, _, _, _, _, _, _, _, _, rfl, _⟩ := h; rfl) | (obtain ⟨_, _, _, _, _, _, _, _, _, _, _, _, _, _, rfl, _⟩ := h; rfl) | (obtain ⟨_, _, _, _, _, _, _, _, _, _, _, _, _, _, _, rfl, _⟩ := h; rfl))
  · obtain ⟨g, t, G, U, rfl, hG, hU, hb, q⟩ := h
    refine ⟨_, (pss_cons (ps_if (pt_cmpR op_eqI (pe_fld (pv 0) (by rfl)) pe_int (nomark _)) (pss_one (ps_ret pe_int)) pss_nil)
      (pss_cons (ps_set (i := 2) sc_owed_for.nd rfl (by first | exact Or.inl rfl | exact Or.inr rfl) (pe_callB (call_min2 rfl) (by rfl) T.n_min bo_min (pa_cons (pe_ix ix_list (pe_fld (pv 0) (by rfl)) (pe_fld (pv 1) (by rfl)) (fun _ _ => rfl)) (pa_cons (pe_gi (by rfl) T.g_ALL_HOOPS) pa_nil))))
      (pss_cons (ps_set (i := 3) sc_owed_for.nd rfl (by first | exact Or.inl rfl | exact Or.inr rfl) (pe_chain op_lt op_le (pe_fld (pv 1) (by rfl)) (pe_gi (by rfl) T.g_FIRST_LIFT) (pv 2)))
      (pss_cons (ps_set (i := 4) sc_owed_for.nd rfl (by first | exact Or.inl rfl | exact Or.inr rfl) (pe_chain op_lt op_le (pe_fld (pv 1) (by rfl)) (pe_gi (by rfl) T.g_SECOND_LIFT) (pv 2)))
      (pss_cons (ps_if (PW.pt (pw_and (pt_val (pv 3)) (pw_and (pt_val (pv 4)) (pw_and1 (pt_cmpR op_lt (pe_fld (pv 1) (by rfl)) (pe_gi (by rfl) T.g_FIRST_LIFT) (nomark _)))))) (pss_one (ps_ret (pe_gi (by rfl) T.g_LIFT_TO_A_BALL))) pss_nil)
      (pss_one (ps_ret (pe_ifExp (PW.pt (pw_or (pt_val (pv 3)) (pw_or1 (pt_val (pv 4))))) (pe_gi (by rfl) T.g_LIFT) pe_int)))))))), ?_⟩
    unfold owedI cameI min12 at q
    refine (sq_if (et_test (ev_op (ev_fld (ev_var rfl) hG.ob T.c_Game T.n_Game_lifts rfl) ev_c)) (fun hc1 => (st_ret ev_c ?_)) (fun hc1 => (sq_set (ev_min (ev_ix (ev_fld (ev_var rfl) hG.ob T.c_Game T.n_Game_points rfl) (ev_fld (ev_var rfl) hU.ob T.c_Turn T.n_Turn_ball rfl) hG.pt (pt_at hG.xl ?_)) ev_c) (sq_set (ev_chain (ev_fld (ev_var rfl) hU.ob T.c_Turn T.n_Turn_hoops_before rfl) ev_c (ev_var rfl)) (sq_set (ev_chain (ev_fld (ev_var rfl) hU.ob T.c_Turn T.n_Turn_hoops_before rfl) ev_c (ev_var rfl)) (sq_if (et_and (et_b (ev_var rfl)) (fun hc => (et_and (et_b (ev_var rfl)) (fun hc => (et_test (ev_op (ev_fld (ev_var rfl) hU.ob T.c_Turn T.n_Turn_partner_before rfl) ev_c)))))) (fun hc2 => (st_ret ev_c ?_)) (fun hc2 => (st_ret (ev_ifI (et_or (et_b (ev_var rfl)) (fun hc => (et_b (ev_var rfl)))) (fun hc => ev_c) (fun hc => ev_c)) ?_))))))))
    · rw [iT hc1] at q; exact q
    · exact hb
    · rw [iF hc1, iT hc2] at q; exact q
    · rw [iF hc1, iF hc2] at q; exact q
def losesI (xs : List Int) (U : UV) (S : SV) (hc : Bool) : Bool := if (decide (S.fault = 1) || decide (pt xs U.ball = 13)) = true then true else
  if decide (U.beside = -1) = true then false else
  if (decide (U.beside ∈ S.off) && !decide (pt xs U.beside = 13)) = true then true else decide (U.ball ∈ S.off) && (!hoopC U S && !hc)
def sp_loses_turn (a : Adr) : Sp := fun vs H Q _ => ∃ (g t s : Addr) (G : GV) (U : UV) (S : SV) (b : Bool), vs = [.ref g, .ref s, .bl b] ∧ GH a H g G ∧ G.tv = .ref t ∧ UH a H t U ∧ SH a H s S ∧ (0 ≤ U.ball ∧ U.ball < 4) ∧ (U.beside = -1 ∨ (0 ≤ U.beside ∧ U.beside < 4)) ∧ Q (.bl (losesI G.xs U S b)) H
theorem ok_loses_turn (T : Txt K mg a) : FnOk P w K mg base CX0 2 a.loses_turn a.loses_turn_d ["game", "stroke", "hit_counts"] (sp_loses_turn a) := by
  refine T.F_loses_turn.ok sc_loses_turn (fun vs H Q E h => ?_) (fun cdv A outer s H vs Q E hr h => ?_)
  · (first | (obtain ⟨rfl, _⟩ := h; rfl) | (obtain ⟨_, rfl, _⟩ := h; rfl) | (obtain ⟨_, _, rfl, _⟩ := h; rfl) | (obtain ⟨_, _, _, rfl, _⟩ := h; rfl) | (obtain ⟨_, _, _, _, rfl, _⟩ := h; rfl) | (obtain ⟨_, _, _, _, _, rfl, _⟩ := h; rfl) | (obtain ⟨_, _, _, _, _, _, rfl, _⟩ := h; rfl) | (obtain ⟨_, _, _, _, _, _, _, rfl, _⟩ := h; rfl) | (obtain ⟨_, _, _, _, _, _, _, _, rfl, _⟩ := h; rfl) | (obtain ⟨_, _, _, _, _, _, _, _, _, rfl, _⟩ := h; rfl) | (obtain ⟨_, _, _, _, _, _, _, _, _, _, rfl, _⟩ := h; rfl) | (obtain ⟨_, _, _, _, _, _, _, _, _, _, _, rfl, _⟩ := h; rfl) | (obtain ⟨_, _, _, _, _, _, _, _, _, _, _, _, rfl, _⟩ := h; rfl) | (obtain ⟨_, _, _, _, _, _, _, _, _, _, _, _, _, rfl, _⟩ := h; rfl) | (obtain ⟨_, _, _, _, _, _, _, _, _, _, _, _, _, _, rfl, _⟩ := h; rfl) | (obtain ⟨_, _, _, _, _, _, _, _, _, _, _, _, _, _, _, rfl, _⟩ := h; rfl))
  · obtain ⟨g, t, s, G, U, S, b, rfl, hG, htv, hU, hS, hb, hbs, q⟩ := h
    refine ⟨_, (pss_cons (ps_set (i := 3) sc_loses_turn.nd rfl (by first | exact Or.inl rfl | exact Or.inr rfl) (pe_fld (pv 0) (by rfl)))
      (pss_cons (ps_if (PW.pt (pw_or (pt_cmpR op_eqI (pe_fld (pv 1) (by rfl)) pe_int (nomark _)) (pw_or1 (pt_val (pe_meth (pv 0) T.c_Game T.m_Game_is_out (ok_Game_is_out T) (hr.mono (by decide)) T.b_Game_is_out .nil pass0 (pa_cons (pe_fld (pv 3) (by rfl)) pa_nil)))))) (pss_one (ps_ret pe_bl)) pss_nil)
      (pss_cons (ps_if (pt_cmpR op_eqI (pe_fld (pv 3) (by rfl)) (pe_gi (by rfl) T.g_NO_BALL) (nomark _)) (pss_one (ps_ret pe_bl)) pss_nil)
      (pss_cons (ps_if (PW.pt (pw_and (pt_cmpR op_inI (pe_fld (pv 3) (by rfl)) (pe_fld (pv 1) (by rfl)) (by with_unfolding_all rfl)) (pw_and1 (pt_not (pt_val (pe_meth (pv 0) T.c_Game T.m_Game_is_out (ok_Game_is_out T) (hr.mono (by decide)) T.b_Game_is_out .nil pass0 (pa_cons (pe_fld (pv 3) (by rfl)) pa_nil))))))) (pss_one (ps_ret pe_bl)) pss_nil)
      (pss_one (ps_ret (pe_and (pe_cmpR op_inI (pe_fld (pv 3) (by rfl)) (pe_fld (pv 1) (by rfl)) (by with_unfolding_all rfl)) (pe_and (pe_not (pe_call (ok_hoop_counts T) (hr.mono (by decide)) (by rfl) T.g_hoop_counts T.F_hoop_counts.kp T.b_hoop_counts .nil pass0 (pa_cons (pv 3) (pa_cons (pv 1) pa_nil)))) (pe_one (pe_not (pv 2))))))))))), ?_⟩
    unfold losesI at q
    refine (sq_set ((ev_fld (ev_var rfl) hG.ob T.c_Game T.n_Game_turn rfl).cast htv) (sq_if (et_or (et_test (ev_op (ev_fld (ev_var rfl) hS.ob T.c_Stroke T.n_Stroke_fault rfl) ev_c)) (fun hc => (et_b (ev_meth (ev_var rfl) hG.ob rfl (ea_cons (ev_fld (ev_var rfl) hU.ob T.c_Turn T.n_Turn_ball rfl) ea_nil) (fun Q q => use_is_out ?_ hG q))))) (fun hc1 => (st_ret ev_c ?_)) (fun hc1 => (sq_if (et_test (ev_op (ev_fld (ev_var rfl) hU.ob T.c_Turn T.n_Turn_beside rfl) ev_c)) (fun hc2 => (st_ret ev_c ?_)) (fun hc2 => (sq_if (et_and (et_test (ev_inL (ev_fld (ev_var rfl) hU.ob T.c_Turn T.n_Turn_beside rfl) (ev_fld (ev_var rfl) hS.ob T.c_Stroke T.n_Stroke_off rfl) hS.of)) (fun hc => (et_not (et_b (ev_meth (ev_var rfl) hG.ob rfl (ea_cons (ev_fld (ev_var rfl) hU.ob T.c_Turn T.n_Turn_beside rfl) ea_nil) (fun Q q => use_is_out ?_ hG q)))))) (fun hc3 => (st_ret ev_c ?_)) (fun hc3 => (st_ret (ev_and (ev_inL (ev_fld (ev_var rfl) hU.ob T.c_Turn T.n_Turn_ball rfl) (ev_fld (ev_var rfl) hS.ob T.c_Stroke T.n_Stroke_off rfl) hS.of) (fun hc => (ev_and (ev_not (ev_call (ea_cons (ev_var rfl) (ea_cons (ev_var rfl) ea_nil)) (fun Q q => use_hoop_counts hU hS q))) (fun hc => (ev_not (ev_var rfl)))))) ?_))))))))
    · exact hb
    · rw [iT hc1] at q; exact q
    · rw [iF hc1, iT hc2] at q; exact q
    · exact hbs.resolve_left (of_decide_eq_false hc2)
    · rw [iF hc1, iF hc2, iT hc3] at q; exact q
    · rw [iF hc1, iF hc2, iF hc3] at q; exact q
def earnsI (U : UV) (S : SV) (hc : Bool) : Bool := hc || (hoopC U S || decide (U.beside ≠ -1))
def sp_earns_stroke (a : Adr) : Sp := fun vs H Q _ => ∃ (t s : Addr) (U : UV) (S : SV) (b : Bool), vs = [.ref t, .ref s, .bl b] ∧ UH a H t U ∧ SH a H s S ∧ Q (.bl (earnsI U S b)) H
theorem ok_earns_stroke (T : Txt K mg a) : FnOk P w K mg base CX0 2 a.earns_stroke a.earns_stroke_d ["turn", "stroke", "hit_counts"] (sp_earns_stroke a) := by
  refine T.F_earns_stroke.ok sc_earns_stroke (fun vs H Q E h => ?_) (fun cdv A outer s H vs Q E hr h => ?_)
  · (first | (obtain ⟨rfl, _⟩ := h; rfl) | (obtain ⟨_, rfl, _⟩ := h; rfl) | (obtain ⟨_, _, rfl, _⟩ := h; rfl) | (obtain ⟨_, _, _, rfl, _⟩ := h; rfl) | (obtain ⟨_, _, _, _, rfl, _⟩ := h; rfl) | (obtain ⟨_, _, _, _, _, rfl, _⟩ := h; rfl) | (obtain ⟨_, _, _, _, _, _, rfl, _⟩ := h; rfl) | (obtain ⟨_, _, _, _, _, _, _, rfl, _⟩ := h; rfl) | (obtain ⟨_, _, _, _, _, _, _, _, rfl, _⟩ := h; rfl) | (obtain ⟨_, _, _, _, _, _, _, _, _, rfl, _⟩ := h; rfl) | (obtain ⟨_, _, _, _, _, _, _, _, _, _, rfl, _⟩ := h; rfl) | (obtain ⟨_, _, _, _, _, _, _, _, _, _, _, rfl, _⟩ := h; rfl) | (obtain ⟨_, _, _, _, _, _, _, _, _, _, _, _, rfl, _⟩ := h; rfl) | (obtain ⟨_, _, _, _, _, _, _, _, _, _, _, _, _, rfl, _⟩ := h; rfl) | (obtain ⟨_, _, _, _, _, _, _, _, _, _, _, _, _, _, rfl, _⟩ := h; rfl) | (obtain ⟨_, _, _, _, _, _, _, _, _, _, _, _, _, _, _, rfl, _⟩ := h; rfl))
  · obtain ⟨t, s, U, S, b, rfl, hU, hS, q⟩ := h
    refine ⟨_, (pss_one (ps_ret (pe_or (pv 2) (pe_or (pe_call (ok_hoop_counts T) (hr.mono (by decide)) (by rfl) T.g_hoop_counts T.F_hoop_counts.kp T.b_hoop_counts .nil pass0 (pa_cons (pv 0) (pa_cons (pv 1) pa_nil))) (pe_one (pe_cmpR op_neI (pe_fld (pv 0) (by rfl)) (pe_gi (by rfl) T.g_NO_BALL) (nomark _))))))), ?_⟩
    refine (st_ret (ev_or (ev_var rfl) (fun hc => (ev_or (ev_call (ea_cons (ev_var rfl) (ea_cons (ev_var rfl) ea_nil)) (fun Q q => use_hoop_counts hU hS q)) (fun hc => (ev_op (ev_fld (ev_var rfl) hU.ob T.c_Turn T.n_Turn_beside rfl) ev_c))))) ?_)
    exact q
/-! ### a game, or none -/
abbrev GO := Option (Addr × GV × Option (Addr × UV))
def GOp (a : Adr) (H : Hp) (v : V) : GO → Prop
  | none => v = .non
  | some (g, G, o) => v = .ref g ∧ GH a H g G ∧ (G.winner = -1 → TVw a H G.tv o)
theorem GOp.same {H H' : Hp} {v : V} : ∀ {o : GO}, GOp a H v o → Same H H' → GOp a H' v o
  | none, h, _ => h
  | some (_, _, _), h, s => ⟨h.1, h.2.1.same s, fun e => (h.2.2 e).same s⟩
def ngo : GO → Bool
  | none => true
  | some x => decide (x.2.1.winner ≠ -1)
theorem stt_3 {w : Int} {o : Option (Addr × UV)} : decide (stt w o = 3) = decide (w ≠ -1) := by
  unfold stt stu
  by_cases h : w = -1
  · rw [if_pos h]
    cases o with
    | none => simp [h]
    | some x =>
      dsimp only
      split <;> simp [h]
  · rw [if_neg h]; simp [h]
def sp_no_game_goes_on (a : Adr) : Sp := fun vs H Q _ => ∃ (v : V) (o : GO), vs = [v] ∧ GOp a H v o ∧ Q (.bl (ngo o)) H
theorem use_ngo {v : V} {o : GO} (h : GOp a H v o) (q : Q (.bl (ngo o)) H) : sp_no_game_goes_on a [v] H Q E := ⟨v, o, rfl, h, q⟩
theorem ok_no_game_goes_on (T : Txt K mg a) : FnOk P w K mg base CX0 2 a.no_game_goes_on a.no_game_goes_on_d ["game"] (sp_no_game_goes_on a) := by
  refine T.F_no_game_goes_on.ok sc_no_game_goes_on (fun vs H Q E h => ?_) (fun cdv A outer s H vs Q E hr h => ?_)
  · (first | (obtain ⟨rfl, _⟩ := h; rfl) | (obtain ⟨_, rfl, _⟩ := h; rfl) | (obtain ⟨_, _, rfl, _⟩ := h; rfl) | (obtain ⟨_, _, _, rfl, _⟩ := h; rfl) | (obtain ⟨_, _, _, _, rfl, _⟩ := h; rfl) | (obtain ⟨_, _, _, _, _, rfl, _⟩ := h; rfl) | (obtain ⟨_, _, _, _, _, _, rfl, _⟩ := h; rfl) | (obtain ⟨_, _, _, _, _, _, _, rfl, _⟩ := h; rfl) | (obtain ⟨_, _, _, _, _, _, _, _, rfl, _⟩ := h; rfl) | (obtain ⟨_, _, _, _, _, _, _, _, _, rfl, _⟩ := h; rfl) | (obtain ⟨_, _, _, _, _, _, _, _, _, _, rfl, _⟩ := h; rfl) | (obtain ⟨_, _, _, _, _, _, _, _, _, _, _, rfl, _⟩ := h; rfl) | (obtain ⟨_, _, _, _, _, _, _, _, _, _, _, _, rfl, _⟩ := h; rfl) | (obtain ⟨_, _, _, _, _, _, _, _, _, _, _, _, _, rfl, _⟩ := h; rfl) | (obtain ⟨_, _, _, _, _, _, _, _, _, _, _, _, _, _, rfl, _⟩ := h; rfl) | (obtain ⟨_, _, _, _, _, _, _, _, _, _, _, _, _, _, _, rfl, _⟩ := h; rfl))
  · obtain ⟨v, o, rfl, hO, q⟩ := h
    refine ⟨_, (pss_one (ps_ret (pe_or (pe_cmpR op_isN (pv 0) pe_non (nomark _)) (pe_one (pe_cmpR op_eqI (pe_meth0 (pv 0) T.c_Game T.m_Game_state (ok_Game_state T) (hr.mono (by decide)) T.b_Game_state .nil pass0) (pe_gi (by rfl) T.g_GAME_OVER) (nomark _)))))), ?_⟩
    cases o with
    | none =>
      cases (show v = .non from hO)
      exact st_ret (ev_or (ev_isN (ev_var rfl)) (fun hc => absurd hc (by decide)) (c := true)) q
    | some x =>
      obtain ⟨g, G, o⟩ := x
      obtain ⟨rfl, hG, ho⟩ := hO
      refine (st_ret (ev_or (ev_isN (ev_var rfl)) (fun hc => (ev_op (ev_meth (ev_var rfl) hG.ob rfl ea_nil (fun Q q => use_state hG ho q)) ev_c))) ?_)
      have e : (decide (V.ref g = V.non) || decide (stt G.winner o = 3)) = ngo (some (g, G, o)) := by
        rw [stt_3]
        simp [ngo]
      rw [← e] at q
      exact q
def refT (o : GO) (ball how : Int) : Int := if (!decide (ball ∈ [0, 1, 2, 3]) || !decide (how ∈ [0, 1, 2])) = true then -1 else
  if ngo o = true then -2 else match o with
    | none => -2
    | some (_, G, u) => if u.isSome = true then -3 else if (decide (ball % 2 ≠ G.side) || decide (pt G.xs ball = 13)) = true then -4 else if decide (G.owed < how) = true then -5 else 0
def sp_refusal_of_turn (a : Adr) : Sp := fun vs H Q _ => ∃ (v : V) (o : GO) (b h : Int), vs = [v, .int b, .int h] ∧ GOp a H v o ∧ Q (.int (refT o b h)) H
theorem ndT {p : Prop} [Decidable p] (h : (!decide p) = false) : p := by
  cases q : decide p with
  | true => exact of_decide_eq_true q
  | false => rw [q] at h; cases h
theorem mem4 {b : Int} (h : b ∈ ([0, 1, 2, 3] : List Int)) : 0 ≤ b ∧ b < 4 := by
  simp only [List.mem_cons, List.not_mem_nil, or_false] at h
  omega
theorem tv_some {H : Hp} {v : V} {o : Option (Addr × UV)} (h : TVw a H v o) : (!decide (v = .non)) = o.isSome := by
  cases o with
  | none => rw [show v = .non from h]; simp
  | some x =>
    obtain ⟨t, U⟩ := x
    rw [h.1]; simp
theorem tv_none {H : Hp} {v : V} {o : Option (Addr × UV)} (h : TVw a H v o) : decide (v = .non) = o.isNone := by
  cases o with
  | none => rw [show v = .non from h]; simp
  | some x =>
    obtain ⟨t, U⟩ := x
    rw [h.1]; simp
theorem ngo_none {o : GO} (h : ngo o = false) : ∃ g G u, o = some (g, G, u) ∧ G.winner = -1 := by
  cases o with
  | none => cases h
  | some x =>
    obtain ⟨g, G, u⟩ := x
    exact ⟨g, G, u, rfl, by simpa [ngo] using h⟩
theorem ok_refusal_of_turn (T : Txt K mg a) : FnOk P w K mg base CX0 3 a.refusal_of_turn a.refusal_of_turn_d ["game", "ball", "how"] (sp_refusal_of_turn a) := by
  refine T.F_refusal_of_turn.ok sc_refusal_of_turn (fun vs H Q E h => ?_) (fun cdv A outer s H vs Q E hr h => ?_)
  · (first | (obtain ⟨rfl, _⟩ := h; rfl) | (obtain ⟨_, rfl, _⟩ := h; rfl) | (obtain ⟨_, _, rfl, _⟩ := h; rfl) | (obtain ⟨_, _, _, rfl, _⟩ := h; rfl) | (obtain ⟨_, _, _, _, rfl, _⟩ := h; rfl) | (obtain ⟨_, _, _, _, _, rfl, _⟩ := h; rfl) | (obtain ⟨_, _, _, _, _, _, rfl, _⟩ := h; rfl) | (obtain ⟨_, _, _, _, _, _, _, rfl, _⟩ := h; rfl) | (obtain ⟨_, _, _, _, _, _, _, _, rfl, _⟩ := h; rfl) | (obtain ⟨_, _, _, _, _, _, _, _, _, rfl, _⟩ := h; rfl) | (obtain ⟨_, _, _, _, _, _, _, _, _, _, rfl, _⟩ := h; rfl) | (obtain ⟨_, _, _, _, _, _, _, _, _, _, _, rfl, _⟩ := h; rfl) | (obtain ⟨_, _, _, _, _, _, _, _, _, _, _, _, rfl, _⟩ := h; rfl) | (obtain ⟨_, _, _, _, _, _, _, _, _, _, _, _, _, rfl, _⟩ := h; rfl) | (obtain ⟨_, _, _, _, _, _, _, _, _, _, _, _, _, _, rfl, _⟩ := h; rfl) | (obtain ⟨_, _, _, _, _, _, _, _, _, _, _, _, _, _, _, rfl, _⟩ := h; rfl))
  · obtain ⟨v, o, b, h, rfl, hO, q⟩ := h
    refine ⟨_, (pss_cons (ps_if (PW.pt (pw_or (pt_cmpR op_notInI (pv 1) (pe_gr (by rfl) T.g_BALLS) (by with_unfolding_all rfl)) (pw_or1 (pt_notInLit (ns := [0, 1, 2]) (pv 2) (pa_cons pe_int (pa_cons pe_int (pa_cons pe_int pa_nil))) (fun _ _ _ h => h) (by decide) (by with_unfolding_all rfl))))) (pss_one (ps_ret (pe_un un_neg pe_int))) pss_nil)
      (pss_cons (ps_if (pt_val (pe_call (ok_no_game_goes_on T) (hr.mono (by decide)) (by rfl) T.g_no_game_goes_on T.F_no_game_goes_on.kp T.b_no_game_goes_on .nil pass0 (pa_cons (pv 0) pa_nil))) (pss_one (ps_ret (pe_un un_neg pe_int))) pss_nil)
      (pss_cons (ps_if (pt_cmpR op_notN (pe_fld (pv 0) (by rfl)) pe_non (nomark _)) (pss_one (ps_ret (pe_un un_neg pe_int))) pss_nil)
      (pss_cons (ps_if (PW.pt (pw_or (pt_cmpR op_neI (pe_call (ok_side_of T) (hr.mono (by decide)) (by rfl) T.g_side_of T.F_side_of.kp T.b_side_of .nil pass0 (pa_cons (pv 1) pa_nil)) (pe_fld (pv 0) (by rfl)) (nomark _)) (pw_or1 (pt_val (pe_meth (pv 0) T.c_Game T.m_Game_is_out (ok_Game_is_out T) (hr.mono (by decide)) T.b_Game_is_out .nil pass0 (pa_cons (pv 1) pa_nil)))))) (pss_one (ps_ret (pe_un un_neg pe_int))) pss_nil)
      (pss_one (ps_ret (pe_ifExp (pt_cmpR op_gt (pv 2) (pe_fld (pv 0) (by rfl)) (nomark _)) (pe_un un_neg pe_int) pe_int))))))), ?_⟩
    unfold refT at q
    refine (sq_if (et_or (et_test (ev_ninT (ev_var rfl) ev_c (T.balls _))) (fun hc => (et_lit (ev_var rfl)))) (fun hc1 => st_ret (ev_un ev_c) ?_) fun hc1 => (sq_if (et_b (ev_call (ea_cons (ev_var rfl) ea_nil) (fun Q q => use_ngo hO q))) (fun hc2 => st_ret (ev_un ev_c) ?_) fun hc2 => ?_))
    · rw [iT hc1] at q; exact q
    · rw [iF hc1, iT hc2] at q; exact q
    · rw [iF hc1, iF hc2] at q
      obtain ⟨g, G, u, rfl, hw⟩ := ngo_none hc2
      obtain ⟨rfl, hG, ho⟩ := hO
      have ho := ho hw
      have hb : 0 ≤ b ∧ b < 4 := mem4 (by
        rw [Bool.or_eq_false_iff] at hc1
        exact ndT hc1.1)
      refine (sq_if (et_test (ev_notN (ev_fld (ev_var rfl) hG.ob T.c_Game T.n_Game_turn rfl))) (fun hc3 => st_ret (ev_un ev_c) ?_) fun hc3 => (sq_if (et_or (et_test (ev_op (ev_call (ea_cons (ev_var rfl) ea_nil) (fun Q q => use_side_of q)) (ev_fld (ev_var rfl) hG.ob T.c_Game T.n_Game_side rfl))) (fun hc => (et_b (ev_meth (ev_var rfl) hG.ob rfl (ea_cons (ev_var rfl) ea_nil) (fun Q q => use_is_out ?_ hG q))))) (fun hc4 => st_ret (ev_un ev_c) ?_) fun hc4 => st_ret (ev_ifI (et_test (ev_op (ev_var rfl) (ev_fld (ev_var rfl) hG.ob T.c_Game T.n_Game_owed rfl))) (fun hc => (ev_un ev_c)) (fun hc => ev_c)) ?_))
      · rw [tv_some ho] at hc3
        dsimp only at q
        rw [iT hc3] at q; exact q
      · exact hb
      · rw [tv_some ho] at hc3
        dsimp only at q
        rw [iF hc3, iT hc4] at q; exact q
      · rw [tv_some ho] at hc3
        dsimp only at q
        rw [iF hc3, iF hc4] at q; exact q
def refB (o : GO) : Int := if ngo o = true then -2 else match o with
    | none => -2
    | some (_, _, u) => if u.isNone = true then 0 else -3
def sp_refusal_between_turns (a : Adr) : Sp := fun vs H Q _ => ∃ (v : V) (o : GO), vs = [v] ∧ GOp a H v o ∧ Q (.int (refB o)) H
theorem ok_refusal_between_turns (T : Txt K mg a) : FnOk P w K mg base CX0 3 a.refusal_between_turns a.refusal_between_turns_d ["game"] (sp_refusal_between_turns a) := by
  refine T.F_refusal_between_turns.ok sc_refusal_between_turns (fun vs H Q E h => ?_) (fun cdv A outer s H vs Q E hr h => ?_)
  · (first | (obtain ⟨rfl, _⟩ := h; rfl) | (obtain ⟨_, rfl, _⟩ := h; rfl) | (obtain ⟨_, _, rfl, _⟩ := h; rfl) | (obtain ⟨_, _, _, rfl, _⟩ := h; rfl) | (obtain ⟨_, _, _, _, rfl, _⟩ := h; rfl) | (obtain ⟨_, _, _, _, _, rfl, _⟩ := h; rfl) | (obtain ⟨_, _, _, _, _, _, rfl, _⟩ := h; rfl) | (obtain ⟨_, _, _, _, _, _, _, rfl, _⟩ := h; rfl) | (obtain ⟨_, _, _, _, _, _, _, _, rfl, _⟩ := h; rfl) | (obtain ⟨_, _, _, _, _, _, _, _, _, rfl, _⟩ := h; rfl) | (obtain ⟨_, _, _, _, _, _, _, _, _, _, rfl, _⟩ := h; rfl) | (obtain ⟨_, _, _, _, _, _, _, _, _, _, _, rfl, _⟩ := h; rfl) | (obtain ⟨_, _, _, _, _, _, _, _, _, _, _, _, rfl, _⟩ := h; rfl) | (obtain ⟨_, _, _, _, _, _, _, _, _, _, _, _, _, rfl, _⟩ := h; rfl) | (obtain ⟨_, _, _, _, _, _, _, _, _, _, _, _, _, _, rfl, _⟩ := h; rfl) | (obtain ⟨_, _, _, _, _, _, _, _, _, _, _, _, _, _, _, rfl, _⟩ := h; rfl))
  · obtain ⟨v, o, rfl, hO, q⟩ := h
    refine ⟨_, (pss_cons (ps_if (pt_val (pe_call (ok_no_game_goes_on T) (hr.mono (by decide)) (by rfl) T.g_no_game_goes_on T.F_no_game_goes_on.kp T.b_no_game_goes_on .nil pass0 (pa_cons (pv 0) pa_nil))) (pss_one (ps_ret (pe_un un_neg pe_int))) pss_nil)
      (pss_one (ps_ret (pe_ifExp (pt_cmpR op_isN (pe_fld (pv 0) (by rfl)) pe_non (nomark _)) pe_int (pe_un un_neg pe_int))))), ?_⟩
    unfold refB at q
    refine (sq_if (et_b (ev_call (ea_cons (ev_var rfl) ea_nil) (fun Q q => use_ngo hO q))) (fun hc2 => st_ret (ev_un ev_c) ?_) fun hc2 => ?_)
    · rw [iT hc2] at q; exact q
    · rw [iF hc2] at q
      obtain ⟨g, G, u, rfl, hw⟩ := ngo_none hc2
      obtain ⟨rfl, hG, ho⟩ := hO
      have ho := ho hw
      refine st_ret (ev_ifI (et_test (ev_isN (ev_fld (ev_var rfl) hG.ob T.c_Game T.n_Game_turn rfl))) (fun hc => ev_c) (fun hc => (ev_un ev_c))) ?_
      rw [tv_none ho]
      exact q
def refC (o : GO) : Int := if ngo o = true then -2 else match o with
    | none => -2
    | some (_, G, _) => if decide (G.time = 0) = true then 0 else -3
def sp_refusal_of_time (a : Adr) : Sp := fun vs H Q _ => ∃ (v : V) (o : GO), vs = [v] ∧ GOp a H v o ∧ Q (.int (refC o)) H
theorem ok_refusal_of_time (T : Txt K mg a) : FnOk P w K mg base CX0 3 a.refusal_of_time a.refusal_of_time_d ["game"] (sp_refusal_of_time a) := by
  refine T.F_refusal_of_time.ok sc_refusal_of_time (fun vs H Q E h => ?_) (fun cdv A outer s H vs Q E hr h => ?_)
  · (first | (obtain ⟨rfl, _⟩ := h; rfl) | (obtain ⟨_, rfl, _⟩ := h; rfl) | (obtain ⟨_, _, rfl, _⟩ := h; rfl) | (obtain ⟨_, _, _, rfl, _⟩ := h; rfl) | (obtain ⟨_, _, _, _, rfl, _⟩ := h; rfl) | (obtain ⟨_, _, _, _, _, rfl, _⟩ := h; rfl) | (obtain ⟨_, _, _, _, _, _, rfl, _⟩ := h; rfl) | (obtain ⟨_, _, _, _, _, _, _, rfl, _⟩ := h; rfl) | (obtain ⟨_, _, _, _, _, _, _, _, rfl, _⟩ := h; rfl) | (obtain ⟨_, _, _, _, _, _, _, _, _, rfl, _⟩ := h; rfl) | (obtain ⟨_, _, _, _, _, _, _, _, _, _, rfl, _⟩ := h; rfl) | (obtain ⟨_, _, _, _, _, _, _, _, _, _, _, rfl, _⟩ := h; rfl) | (obtain ⟨_, _, _, _, _, _, _, _, _, _, _, _, rfl, _⟩ := h; rfl) | (obtain ⟨_, _, _, _, _, _, _, _, _, _, _, _, _, rfl, _⟩ := h; rfl) | (obtain ⟨_, _, _, _, _, _, _, _, _, _, _, _, _, _, rfl, _⟩ := h; rfl) | (obtain ⟨_, _, _, _, _, _, _, _, _, _, _, _, _, _, _, rfl, _⟩ := h; rfl))
  · obtain ⟨v, o, rfl, hO, q⟩ := h
    refine ⟨_, (pss_cons (ps_if (pt_val (pe_call (ok_no_game_goes_on T) (hr.mono (by decide)) (by rfl) T.g_no_game_goes_on T.F_no_game_goes_on.kp T.b_no_game_goes_on .nil pass0 (pa_cons (pv 0) pa_nil))) (pss_one (ps_ret (pe_un un_neg pe_int))) pss_nil)
      (pss_one (ps_ret (pe_ifExp (pt_cmpR op_eqI (pe_fld (pv 0) (by rfl)) (pe_gi (by rfl) T.g_TIME_NOT_CALLED) (nomark _)) pe_int (pe_un un_neg pe_int))))), ?_⟩
    unfold refC at q
    refine (sq_if (et_b (ev_call (ea_cons (ev_var rfl) ea_nil) (fun Q q => use_ngo hO q))) (fun hc2 => st_ret (ev_un ev_c) ?_) fun hc2 => ?_)
    · rw [iT hc2] at q; exact q
    · rw [iF hc2] at q
      obtain ⟨g, G, u, rfl, hw⟩ := ngo_none hc2
      obtain ⟨rfl, hG, ho⟩ := hO
      refine st_ret (ev_ifI (et_test (ev_op (ev_fld (ev_var rfl) hG.ob T.c_Game T.n_Game_time rfl) ev_c)) (fun hc => ev_c) (fun hc => (ev_un ev_c))) ?_
      exact q
def refM (o : GO) (half : Int) : Int := if (!decide (half ∈ [0, 1])) = true then -1 else if ngo o = true then -2 else match o with
    | none => -2
    | some (_, G, _) => if (decide (G.last = -1) || decide (G.time ≠ 0)) = true then -3 else if decide (pt G.xs G.last = 13) = true then -4 else
      if decide (pt G.ms (G.last % 2) < (if half = 1 then 1 else 2)) = true then -5 else 0
def lastOk (o : GO) : Prop := match o with
    | none => True
    | some (_, G, _) => G.last = -1 ∨ (0 ≤ G.last ∧ G.last < 4)
def sp_refusal_of_more (a : Adr) : Sp := fun vs H Q _ => ∃ (v : V) (o : GO) (h : Int), vs = [v, .int h] ∧ GOp a H v o ∧ lastOk o ∧ Q (.int (refM o h)) H
theorem ok_refusal_of_more (T : Txt K mg a) : FnOk P w K mg base CX0 3 a.refusal_of_more a.refusal_of_more_d ["game", "half"] (sp_refusal_of_more a) := by
  refine T.F_refusal_of_more.ok sc_refusal_of_more (fun vs H Q E h => ?_) (fun cdv A outer s H vs Q E hr h => ?_)
  · (first | (obtain ⟨rfl, _⟩ := h; rfl) | (obtain ⟨_, rfl, _⟩ := h; rfl) | (obtain ⟨_, _, rfl, _⟩ := h; rfl) | (obtain ⟨_, _, _, rfl, _⟩ := h; rfl) | (obtain ⟨_, _, _, _, rfl, _⟩ := h; rfl) | (obtain ⟨_, _, _, _, _, rfl, _⟩ := h; rfl) | (obtain ⟨_, _, _, _, _, _, rfl, _⟩ := h; rfl) | (obtain ⟨_, _, _, _, _, _, _, rfl, _⟩ := h; rfl) | (obtain ⟨_, _, _, _, _, _, _, _, rfl, _⟩ := h; rfl) | (obtain ⟨_, _, _, _, _, _, _, _, _, rfl, _⟩ := h; rfl) | (obtain ⟨_, _, _, _, _, _, _, _, _, _, rfl, _⟩ := h; rfl) | (obtain ⟨_, _, _, _, _, _, _, _, _, _, _, rfl, _⟩ := h; rfl) | (obtain ⟨_, _, _, _, _, _, _, _, _, _, _, _, rfl, _⟩ := h; rfl) | (obtain ⟨_, _, _, _, _, _, _, _, _, _, _, _, _, rfl, _⟩ := h; rfl) | (obtain ⟨_, _, _, _, _, _, _, _, _, _, _, _, _, _, rfl, _⟩ := h; rfl) | (obtain ⟨_, _, _, _, _, _, _, _, _, _, _, _, _, _, _, rfl, _⟩ := h; rfl))
  · obtain ⟨v, o, h, rfl, hO, hL, q⟩ := h
    refine ⟨_, (pss_cons (ps_if (pt_notInLit (ns := [0, 1]) (pv 1) (pa_cons pe_int (pa_cons pe_int pa_nil)) (fun _ _ _ h => h) (by decide) (by with_unfolding_all rfl)) (pss_one (ps_ret (pe_un un_neg pe_int))) pss_nil)
      (pss_cons (ps_if (pt_val (pe_call (ok_no_game_goes_on T) (hr.mono (by decide)) (by rfl) T.g_no_game_goes_on T.F_no_game_goes_on.kp T.b_no_game_goes_on .nil pass0 (pa_cons (pv 0) pa_nil))) (pss_one (ps_ret (pe_un un_neg pe_int))) pss_nil)
      (pss_cons (ps_if (PW.pt (pw_or (pt_cmpR op_eqI (pe_fld (pv 0) (by rfl)) (pe_gi (by rfl) T.g_NO_BALL) (nomark _)) (pw_or1 (pt_cmpR op_neI (pe_fld (pv 0) (by rfl)) (pe_gi (by rfl) T.g_TIME_NOT_CALLED) (nomark _))))) (pss_one (ps_ret (pe_un un_neg pe_int))) pss_nil)
      (pss_cons (ps_if (pt_val (pe_meth (pv 0) T.c_Game T.m_Game_is_out (ok_Game_is_out T) (hr.mono (by decide)) T.b_Game_is_out .nil pass0 (pa_cons (pe_fld (pv 0) (by rfl)) pa_nil))) (pss_one (ps_ret (pe_un un_neg pe_int))) pss_nil)
      (pss_one (ps_ret (pe_ifExp (pt_cmpR op_lt (pe_ix ix_list (pe_fld (pv 0) (by rfl)) (pe_call (ok_side_of T) (hr.mono (by decide)) (by rfl) T.g_side_of T.F_side_of.kp T.b_side_of .nil pass0 (pa_cons (pe_fld (pv 0) (by rfl)) pa_nil)) (fun _ _ => rfl)) (pe_call (ok_price_of T) (hr.mono (by decide)) (by rfl) T.g_price_of T.F_price_of.kp T.b_price_of .nil pass0 (pa_cons (pv 1) pa_nil)) (nomark _)) (pe_un un_neg pe_int) pe_int))))))), ?_⟩
    unfold refM at q
    refine (sq_if (et_lit (ev_var rfl)) (fun hc1 => st_ret (ev_un ev_c) ?_) fun hc1 => (sq_if (et_b (ev_call (ea_cons (ev_var rfl) ea_nil) (fun Q q => use_ngo hO q))) (fun hc2 => st_ret (ev_un ev_c) ?_) fun hc2 => ?_))
    · rw [iT hc1] at q; exact q
    · rw [iF hc1, iT hc2] at q; exact q
    · rw [iF hc1, iF hc2] at q
      obtain ⟨g, G, u, rfl, hw⟩ := ngo_none hc2
      obtain ⟨rfl, hG, ho⟩ := hO
      dsimp only at q
      refine (sq_if (et_or (et_test (ev_op (ev_fld (ev_var rfl) hG.ob T.c_Game T.n_Game_last_ball rfl) ev_c)) (fun hc => (et_test (ev_op (ev_fld (ev_var rfl) hG.ob T.c_Game T.n_Game_time rfl) ev_c)))) (fun hc3 => st_ret (ev_un ev_c) ?_) fun hc3 => ?_)
      · rw [iT hc3] at q; exact q
      · rw [iF hc3] at q
        have hb : 0 ≤ G.last ∧ G.last < 4 := by
          rw [Bool.or_eq_false_iff] at hc3
          exact hL.resolve_left (of_decide_eq_false hc3.1)
        refine (sq_if (et_b (ev_meth (ev_var rfl) hG.ob rfl (ea_cons (ev_fld (ev_var rfl) hG.ob T.c_Game T.n_Game_last_ball rfl) ea_nil) (fun Q q => use_is_out ?_ hG q))) (fun hc4 => st_ret (ev_un ev_c) ?_) fun hc4 => st_ret (ev_ifI (et_test (ev_op (ev_ix (ev_fld (ev_var rfl) hG.ob T.c_Game T.n_Game_half_turns rfl) (ev_call (ea_cons (ev_fld (ev_var rfl) hG.ob T.c_Game T.n_Game_last_ball rfl) ea_nil) (fun Q q => use_side_of q)) hG.ht (pt_at hG.ml ?_)) (ev_call (ea_cons (ev_var rfl) ea_nil) (fun Q q => use_price_of q)))) (fun hc => (ev_un ev_c)) (fun hc => ev_c)) ?_)
        · exact hb
        · rw [iT hc4] at q; exact q
        · omega
        · rw [iF hc4] at q; exact q
end
end Hg
set_option Elab.async false
set_option linter.all false
set_option maxRecDepth 100000
set_option maxHeartbeats 2000000
namespace Hg
open PySem PySem.Spec PyProof.Rows L2
section
variable {P : Program} {w : World} {K : PySem.W.Frag} {mg : Str → Option Value} {base : Heap} {a : Adr} {H H1 : Hp} {g t s : Addr} {G G1 : GV} {U : UV} {S : SV} {Q : VK} {E : XK} {ta tb : TE} {σ : L2.St} {us : TS} {D : Ends}
/-! ### writing -/
theorem upd_id {H : Hp} {p : Addr} {o : HO} (h : H p = some o) : upd H p o = H := by
  funext b
  by_cases e : b = p
  · subst e; rw [upd_same, h]
  · rw [upd_ne e]
theorem gF_len : (gF G).length < 1000 := by show 9 < 1000; decide
theorem tF_len : (tF U).length < 1000 := by show 7 < 1000; decide
theorem GH.pg (h : GH a H g G) : G.p ≠ g := ne_of h.pt h.ob (by intro z; cases z)
theorem GH.hg (h : GH a H g G) : G.h ≠ g := ne_of h.ht h.ob (by intro z; cases z)
theorem GH.php (h : GH a H g G) : G.p ≠ G.h := ne_of h.pt h.ht (by
  intro z
  have z := congrArg List.length (HO.lst.inj z)
  rw [List.length_map, List.length_map, h.xl, h.ml] at z
  cases z)
theorem GH.put (h : GH a H g G) (e : H1 = upd H g (.ins a.C_Game G1.dx (gF G1))) (e1 : G1.p = G.p) (e2 : G1.h = G.h) (e3 : G1.xs = G.xs) (e4 : G1.ms = G.ms) : GH a H1 g G1 := by
  subst e
  refine ⟨upd_same, ?_, ?_, by rw [e3]; exact h.xl, by rw [e4]; exact h.ml⟩
  · rw [e1, e3, upd_ne h.pg]; exact h.pt
  · rw [e2, e4, upd_ne h.hg]; exact h.ht
theorem sq_g_turn {v : V} (T : Txt K mg a) (hG : GH a H g G) (hv : Ev tb σ H (v)) (ho : Ev ta σ H (.ref g)) (q : ∀ H1, H1 = upd H g (.ins a.C_Game G.dx (gF { G with tv := v })) → GH a H1 g { G with tv := v } → us D σ H1) : tSeq (sFld K ta tb "turn") us D σ H :=
  sq_fld hv ho hG.ob T.c_Game T.n_Game_turn gF_len (q _ rfl (hG.put (G1 := { G with tv := v }) rfl rfl rfl rfl rfl))
theorem st_g_turn {v : V} (T : Txt K mg a) (hG : GH a H g G) (hv : Ev tb σ H (v)) (ho : Ev ta σ H (.ref g)) (q : ∀ H1, H1 = upd H g (.ins a.C_Game G.dx (gF { G with tv := v })) → GH a H1 g { G with tv := v } → D.nx σ H1) : sFld K ta tb "turn" D σ H :=
  st_fld hv ho hG.ob T.c_Game T.n_Game_turn gF_len (q _ rfl (hG.put (G1 := { G with tv := v }) rfl rfl rfl rfl rfl))
theorem sq_g_side {v : Int} (T : Txt K mg a) (hG : GH a H g G) (hv : Ev tb σ H (.int v)) (ho : Ev ta σ H (.ref g)) (q : ∀ H1, H1 = upd H g (.ins a.C_Game G.dx (gF { G with side := v })) → GH a H1 g { G with side := v } → us D σ H1) : tSeq (sFld K ta tb "side") us D σ H :=
  sq_fld hv ho hG.ob T.c_Game T.n_Game_side gF_len (q _ rfl (hG.put (G1 := { G with side := v }) rfl rfl rfl rfl rfl))
theorem st_g_side {v : Int} (T : Txt K mg a) (hG : GH a H g G) (hv : Ev tb σ H (.int v)) (ho : Ev ta σ H (.ref g)) (q : ∀ H1, H1 = upd H g (.ins a.C_Game G.dx (gF { G with side := v })) → GH a H1 g { G with side := v } → D.nx σ H1) : sFld K ta tb "side" D σ H :=
  st_fld hv ho hG.ob T.c_Game T.n_Game_side gF_len (q _ rfl (hG.put (G1 := { G with side := v }) rfl rfl rfl rfl rfl))
theorem sq_g_owed {v : Int} (T : Txt K mg a) (hG : GH a H g G) (hv : Ev tb σ H (.int v)) (ho : Ev ta σ H (.ref g)) (q : ∀ H1, H1 = upd H g (.ins a.C_Game G.dx (gF { G with owed := v })) → GH a H1 g { G with owed := v } → us D σ H1) : tSeq (sFld K ta tb "owed") us D σ H :=
  sq_fld hv ho hG.ob T.c_Game T.n_Game_owed gF_len (q _ rfl (hG.put (G1 := { G with owed := v }) rfl rfl rfl rfl rfl))
theorem st_g_owed {v : Int} (T : Txt K mg a) (hG : GH a H g G) (hv : Ev tb σ H (.int v)) (ho : Ev ta σ H (.ref g)) (q : ∀ H1, H1 = upd H g (.ins a.C_Game G.dx (gF { G with owed := v })) → GH a H1 g { G with owed := v } → D.nx σ H1) : sFld K ta tb "owed" D σ H :=
  st_fld hv ho hG.ob T.c_Game T.n_Game_owed gF_len (q _ rfl (hG.put (G1 := { G with owed := v }) rfl rfl rfl rfl rfl))
theorem sq_g_time {v : Int} (T : Txt K mg a) (hG : GH a H g G) (hv : Ev tb σ H (.int v)) (ho : Ev ta σ H (.ref g)) (q : ∀ H1, H1 = upd H g (.ins a.C_Game G.dx (gF { G with time := v })) → GH a H1 g { G with time := v } → us D σ H1) : tSeq (sFld K ta tb "time") us D σ H :=
  sq_fld hv ho hG.ob T.c_Game T.n_Game_time gF_len (q _ rfl (hG.put (G1 := { G with time := v }) rfl rfl rfl rfl rfl))
theorem st_g_time {v : Int} (T : Txt K mg a) (hG : GH a H g G) (hv : Ev tb σ H (.int v)) (ho : Ev ta σ H (.ref g)) (q : ∀ H1, H1 = upd H g (.ins a.C_Game G.dx (gF { G with time := v })) → GH a H1 g { G with time := v } → D.nx σ H1) : sFld K ta tb "time" D σ H :=
  st_fld hv ho hG.ob T.c_Game T.n_Game_time gF_len (q _ rfl (hG.put (G1 := { G with time := v }) rfl rfl rfl rfl rfl))
theorem sq_g_last_ball {v : Int} (T : Txt K mg a) (hG : GH a H g G) (hv : Ev tb σ H (.int v)) (ho : Ev ta σ H (.ref g)) (q : ∀ H1, H1 = upd H g (.ins a.C_Game G.dx (gF { G with last := v })) → GH a H1 g { G with last := v } → us D σ H1) : tSeq (sFld K ta tb "last_ball") us D σ H :=
  sq_fld hv ho hG.ob T.c_Game T.n_Game_last_ball gF_len (q _ rfl (hG.put (G1 := { G with last := v }) rfl rfl rfl rfl rfl))
theorem st_g_last_ball {v : Int} (T : Txt K mg a) (hG : GH a H g G) (hv : Ev tb σ H (.int v)) (ho : Ev ta σ H (.ref g)) (q : ∀ H1, H1 = upd H g (.ins a.C_Game G.dx (gF { G with last := v })) → GH a H1 g { G with last := v } → D.nx σ H1) : sFld K ta tb "last_ball" D σ H :=
  st_fld hv ho hG.ob T.c_Game T.n_Game_last_ball gF_len (q _ rfl (hG.put (G1 := { G with last := v }) rfl rfl rfl rfl rfl))
theorem sq_g_winner {v : Int} (T : Txt K mg a) (hG : GH a H g G) (hv : Ev tb σ H (.int v)) (ho : Ev ta σ H (.ref g)) (q : ∀ H1, H1 = upd H g (.ins a.C_Game G.dx (gF { G with winner := v })) → GH a H1 g { G with winner := v } → us D σ H1) : tSeq (sFld K ta tb "winner") us D σ H :=
  sq_fld hv ho hG.ob T.c_Game T.n_Game_winner gF_len (q _ rfl (hG.put (G1 := { G with winner := v }) rfl rfl rfl rfl rfl))
theorem st_g_winner {v : Int} (T : Txt K mg a) (hG : GH a H g G) (hv : Ev tb σ H (.int v)) (ho : Ev ta σ H (.ref g)) (q : ∀ H1, H1 = upd H g (.ins a.C_Game G.dx (gF { G with winner := v })) → GH a H1 g { G with winner := v } → D.nx σ H1) : sFld K ta tb "winner" D σ H :=
  st_fld hv ho hG.ob T.c_Game T.n_Game_winner gF_len (q _ rfl (hG.put (G1 := { G with winner := v }) rfl rfl rfl rfl rfl))
def handed (G : GV) (owed : Int) : GV := if G.time = 1 then { G with tv := .non, side := 1 - G.side, owed := owed, time := 2 } else
  if G.time = 2 then { G with tv := .non, side := 1 - G.side, owed := owed, time := 3, winner := ldr G.xs } else { G with tv := .non, side := 1 - G.side, owed := owed }
theorem handed_dx (G : GV) (o : Int) : (handed G o).dx = G.dx := by unfold handed; split; rfl; split <;> rfl
theorem handed_p (G : GV) (o : Int) : (handed G o).p = G.p := by unfold handed; split; rfl; split <;> rfl
theorem handed_h (G : GV) (o : Int) : (handed G o).h = G.h := by unfold handed; split; rfl; split <;> rfl
theorem handed_xs (G : GV) (o : Int) : (handed G o).xs = G.xs := by unfold handed; split; rfl; split <;> rfl
theorem handed_ms (G : GV) (o : Int) : (handed G o).ms = G.ms := by unfold handed; split; rfl; split <;> rfl
theorem GH.handed {o : Int} (h : GH a H g G) (e : H1 = upd H g (.ins a.C_Game G.dx (gF (handed G o)))) : GH a H1 g (handed G o) := h.put (by rw [handed_dx]; exact e) (handed_p G o) (handed_h G o) (handed_xs G o) (handed_ms G o)
def sp_hand_over (a : Adr) : Sp := fun vs H Q _ => ∃ (g : Addr) (G : GV) (o : Int), vs = [.ref g, .int o] ∧ GH a H g G ∧ Q .non (upd H g (.ins a.C_Game G.dx (gF (handed G o))))
theorem ok_hand_over (T : Txt K mg a) : FnOk P w K mg base CX0 3 a.hand_over a.hand_over_d ["game", "owed"] (sp_hand_over a) := by
  refine T.F_hand_over.ok sc_hand_over (fun vs H Q E h => ?_) (fun cdv A outer s H vs Q E hr h => ?_)
  · (first | (obtain ⟨rfl, _⟩ := h; rfl) | (obtain ⟨_, rfl, _⟩ := h; rfl) | (obtain ⟨_, _, rfl, _⟩ := h; rfl) | (obtain ⟨_, _, _, rfl, _⟩ := h; rfl) | (obtain ⟨_, _, _, _, rfl, _⟩ := h; rfl) | (obtain ⟨_, _, _, _, _, rfl, _⟩ := h; rfl) | (obtain ⟨_, _, _, _, _, _, rfl, _⟩ := h; rfl) | (obtain ⟨_, _, _, _, _, _, _, rfl, _⟩ := h; rfl) | (obtain ⟨_, _, _, _, _, _, _, _, rfl, _⟩ := h; rfl) | (obtain ⟨_, _, _, _, _, _, _, _, _, rfl, _⟩ := h; rfl) | (obtain ⟨_, _, _, _, _, _, _, _, _, _, rfl, _⟩ := h; rfl) | (obtain ⟨_, _, _, _, _, _, _, _, _, _, _, rfl, _⟩ := h; rfl) | (obtain ⟨_, _, _, _, _, _, _, _, _, _, _, _, rfl, _⟩ := h; rfl) | (obtain ⟨_, _, _, _, _, _, _, _, _, _, _, _, _, rfl, _⟩ := h; rfl) | (obtain ⟨_, _, _, _, _, _, _, _, _, _, _, _, _, _, rfl, _⟩ := h; rfl) | (obtain ⟨_, _, _, _, _, _, _, _, _, _, _, _, _, _, _, rfl, _⟩ := h; rfl))
  · obtain ⟨g, G, o, rfl, hG, q⟩ := h
    refine ⟨_, (pss_cons (ps_fld (pv 0) pe_non rfl)
      (pss_cons (ps_fld (pv 0) (pe_op op_sub pe_int (pe_fld (pv 0) (by rfl))) rfl)
      (pss_cons (ps_fld (pv 0) (pv 1) rfl)
      (pss_one (ps_if (pt_cmpR op_eqI (pe_fld (pv 0) (by rfl)) (pe_gi (by rfl) T.g_TIME_CALLED) (nomark _)) (pss_one (ps_fld (pv 0) (pe_gi (by rfl) T.g_TIME_LAST_TURN) rfl)) (pss_one (ps_if (pt_cmpR op_eqI (pe_fld (pv 0) (by rfl)) (pe_gi (by rfl) T.g_TIME_LAST_TURN) (nomark _)) (pss_cons (ps_fld (pv 0) (pe_gi (by rfl) T.g_TIME_TILL_ONE_HAS_MORE) rfl)
      (pss_one (ps_fld (pv 0) (pe_meth0 (pv 0) T.c_Game T.m_Game_leader (ok_Game_leader T) (hr.mono (by decide)) T.b_Game_leader .nil pass0) rfl))) pss_nil))))))), ?_⟩
    refine sq_g_turn T hG ev_c (ev_var rfl) fun H1 e1 hG => ?_
    refine sq_g_side T hG (ev_op ev_c (ev_fld (ev_var rfl) hG.ob T.c_Game T.n_Game_side rfl)) (ev_var rfl) fun H2 e2 hG => ?_
    refine sq_g_owed T hG (ev_var rfl) (ev_var rfl) fun H3 e3 hG => ?_
    subst e1 e2 e3
    refine st_if (et_test (ev_op (ev_fld (ev_var rfl) hG.ob T.c_Game T.n_Game_time rfl) ev_c)) (fun hc1 => ?_) fun hc1 => st_if (et_test (ev_op (ev_fld (ev_var rfl) hG.ob T.c_Game T.n_Game_time rfl) ev_c)) (fun hc2 => ?_) fun hc2 => ?_
    · refine st_g_time T hG ev_c (ev_var rfl) fun H4 e4 hG => ?_
      subst e4
      unfold handed at q
      rw [if_pos (of_decide_eq_true hc1)] at q
      simp only [upd_upd]
      exact q
    · refine sq_g_time T hG ev_c (ev_var rfl) fun H4 e4 hG => ?_
      refine st_g_winner T hG (ev_meth (ev_var rfl) hG.ob rfl ea_nil (fun Q q => use_leader hG q)) (ev_var rfl) fun H5 e5 hG => ?_
      subst e4 e5
      unfold handed at q
      rw [if_neg (of_decide_eq_false hc1), if_pos (of_decide_eq_true hc2)] at q
      simp only [upd_upd]
      exact q
    · unfold handed at q
      rw [if_neg (of_decide_eq_false hc1), if_neg (of_decide_eq_false hc2)] at q
      refine st_next ?_
      simp only [upd_upd]
      exact q
theorem use_hand_over {o : Int} (hG : GH a H g G) (q : Q .non (upd H g (.ins a.C_Game G.dx (gF (handed G o))))) : sp_hand_over a [.ref g, .int o] H Q E := ⟨g, G, o, rfl, hG, q⟩
/-- a statement f(..) -/
theorem sq_call {sp : Sp} {tl : TA} {vs : List V} (h : Ea tl σ H vs) (s : sp vs H (fun _ H1 => us D σ H1) E0) : tSeq (tDrop (tCall sp [] E0 tl)) us D σ H := h _ (by rw [List.append_nil]; exact s)
theorem st_call {sp : Sp} {tl : TA} {vs : List V} (h : Ea tl σ H vs) (s : sp vs H (fun _ H1 => D.nx σ H1) E0) : tDrop (tCall sp [] E0 tl) D σ H := h _ (by rw [List.append_nil]; exact s)
def passed (G : GV) : GV := { handed G 0 with last := -1 }
def sp_pass_turn (a : Adr) : Sp := fun vs H Q _ => ∃ (g : Addr) (G : GV), vs = [.ref g] ∧ GH a H g G ∧ Q .non (upd H g (.ins a.C_Game G.dx (gF (passed G))))
theorem ok_pass_turn (T : Txt K mg a) : FnOk P w K mg base CX0 4 a.pass_turn a.pass_turn_d ["game"] (sp_pass_turn a) := by
  refine T.F_pass_turn.ok sc_pass_turn (fun vs H Q E h => ?_) (fun cdv A outer s H vs Q E hr h => ?_)
  · (first | (obtain ⟨rfl, _⟩ := h; rfl) | (obtain ⟨_, rfl, _⟩ := h; rfl) | (obtain ⟨_, _, rfl, _⟩ := h; rfl) | (obtain ⟨_, _, _, rfl, _⟩ := h; rfl) | (obtain ⟨_, _, _, _, rfl, _⟩ := h; rfl) | (obtain ⟨_, _, _, _, _, rfl, _⟩ := h; rfl) | (obtain ⟨_, _, _, _, _, _, rfl, _⟩ := h; rfl) | (obtain ⟨_, _, _, _, _, _, _, rfl, _⟩ := h; rfl) | (obtain ⟨_, _, _, _, _, _, _, _, rfl, _⟩ := h; rfl) | (obtain ⟨_, _, _, _, _, _, _, _, _, rfl, _⟩ := h; rfl) | (obtain ⟨_, _, _, _, _, _, _, _, _, _, rfl, _⟩ := h; rfl) | (obtain ⟨_, _, _, _, _, _, _, _, _, _, _, rfl, _⟩ := h; rfl) | (obtain ⟨_, _, _, _, _, _, _, _, _, _, _, _, rfl, _⟩ := h; rfl) | (obtain ⟨_, _, _, _, _, _, _, _, _, _, _, _, _, rfl, _⟩ := h; rfl) | (obtain ⟨_, _, _, _, _, _, _, _, _, _, _, _, _, _, rfl, _⟩ := h; rfl) | (obtain ⟨_, _, _, _, _, _, _, _, _, _, _, _, _, _, _, rfl, _⟩ := h; rfl))
  · obtain ⟨g, G, rfl, hG, q⟩ := h
    refine ⟨_, (pss_cons (ps_expr (pe_call (ok_hand_over T) (hr.mono (by decide)) (by rfl) T.g_hand_over T.F_hand_over.kp T.b_hand_over .nil pass0 (pa_cons (pv 0) (pa_cons pe_int pa_nil))))
      (pss_one (ps_fld (pv 0) (pe_gi (by rfl) T.g_NO_BALL) rfl))), ?_⟩
    refine sq_call (ea_cons (ev_var rfl) (ea_cons ev_c ea_nil)) (use_hand_over hG ?_)
    refine st_g_last_ball T (hG.handed rfl) ev_c (ev_var rfl) fun H2 e2 hG2 => ?_
    subst e2
    rw [upd_upd, handed_dx]
    exact q
def ended (G : GV) (U : UV) : GV := { handed G (owedI G.lifts (pt G.xs U.ball) U.had U.mate) with last := U.ball }
def sp_end_turn (a : Adr) : Sp := fun vs H Q _ => ∃ (g t : Addr) (G : GV) (U : UV), vs = [.ref g] ∧ GH a H g G ∧ G.tv = .ref t ∧ UH a H t U ∧ (0 ≤ U.ball ∧ U.ball < 4) ∧ Q .non (upd H g (.ins a.C_Game G.dx (gF (ended G U))))
theorem ob_ne (hG : GH a H g G) (hU : UH a H t U) : t ≠ g := ne_of hU.ob hG.ob (by
  intro z
  have z := (HO.ins.inj z).2.2
  have z := congrArg List.length z
  cases z)
theorem UH.put {o : HO} (hU : UH a H t U) (hG : GH a H g G) : UH a (upd H g o) t U :=
  ⟨by rw [upd_ne (ob_ne hG hU)]; exact hU.ob, by rw [upd_ne (ne_of hU.lv hG.ob (by intro z; cases z))]; exact hU.lv⟩
theorem SH.put {o : HO} (hS : SH a H s S) (hG : GH a H g G) : SH a (upd H g o) s S :=
  ⟨by rw [upd_ne (ne_of hS.ob hG.ob (by
    intro z
    have z := congrArg List.length (HO.ins.inj z).2.2
    cases z))]; exact hS.ob, by rw [upd_ne (ne_of hS.rn hG.ob (by intro z; cases z))]; exact hS.rn, by rw [upd_ne (ne_of hS.pg hG.ob (by intro z; cases z))]; exact hS.pg, by rw [upd_ne (ne_of hS.of hG.ob (by intro z; cases z))]; exact hS.of⟩
theorem ok_end_turn (T : Txt K mg a) : FnOk P w K mg base CX0 4 a.end_turn a.end_turn_d ["game"] (sp_end_turn a) := by
  refine T.F_end_turn.ok sc_end_turn (fun vs H Q E h => ?_) (fun cdv A outer s H vs Q E hr h => ?_)
  · (first | (obtain ⟨rfl, _⟩ := h; rfl) | (obtain ⟨_, rfl, _⟩ := h; rfl) | (obtain ⟨_, _, rfl, _⟩ := h; rfl) | (obtain ⟨_, _, _, rfl, _⟩ := h; rfl) | (obtain ⟨_, _, _, _, rfl, _⟩ := h; rfl) | (obtain ⟨_, _, _, _, _, rfl, _⟩ := h; rfl) | (obtain ⟨_, _, _, _, _, _, rfl, _⟩ := h; rfl) | (obtain ⟨_, _, _, _, _, _, _, rfl, _⟩ := h; rfl) | (obtain ⟨_, _, _, _, _, _, _, _, rfl, _⟩ := h; rfl) | (obtain ⟨_, _, _, _, _, _, _, _, _, rfl, _⟩ := h; rfl) | (obtain ⟨_, _, _, _, _, _, _, _, _, _, rfl, _⟩ := h; rfl) | (obtain ⟨_, _, _, _, _, _, _, _, _, _, _, rfl, _⟩ := h; rfl) | (obtain ⟨_, _, _, _, _, _, _, _, _, _, _, _, rfl, _⟩ := h; rfl) | (obtain ⟨_, _, _, _, _, _, _, _, _, _, _, _, _, rfl, _⟩ := h; rfl) | (obtain ⟨_, _, _, _, _, _, _, _, _, _, _, _, _, _, rfl, _⟩ := h; rfl) | (obtain ⟨_, _, _, _, _, _, _, _, _, _, _, _, _, _, _, rfl, _⟩ := h; rfl))
  · obtain ⟨g, t, G, U, rfl, hG, htv, hU, hb, q⟩ := h
    refine ⟨_, (pss_cons (ps_set (i := 1) sc_end_turn.nd rfl (by first | exact Or.inl rfl | exact Or.inr rfl) (pe_fld (pv 0) (by rfl)))
      (pss_cons (ps_expr (pe_call (ok_hand_over T) (hr.mono (by decide)) (by rfl) T.g_hand_over T.F_hand_over.kp T.b_hand_over .nil pass0 (pa_cons (pv 0) (pa_cons (pe_call (ok_owed_for T) (hr.mono (by decide)) (by rfl) T.g_owed_for T.F_owed_for.kp T.b_owed_for .nil pass0 (pa_cons (pv 0) (pa_cons (pv 1) pa_nil))) pa_nil))))
      (pss_one (ps_fld (pv 0) (pe_fld (pv 1) (by rfl)) rfl)))), ?_⟩
    refine sq_set ((ev_fld (ev_var rfl) hG.ob T.c_Game T.n_Game_turn rfl).cast htv) ?_
    refine sq_call (ea_cons (ev_var rfl) (ea_cons (ev_call (ea_cons (ev_var rfl) (ea_cons (ev_var rfl) ea_nil)) (fun Q q => use_owed_for hb hG hU q)) ea_nil)) (use_hand_over hG ?_)
    have hU2 : UH a (upd H g (.ins a.C_Game G.dx (gF (handed G (owedI G.lifts (pt G.xs U.ball) U.had U.mate))))) t U := hU.put hG
    refine st_g_last_ball T (hG.handed rfl) (ev_fld (ev_var rfl) hU2.ob T.c_Turn T.n_Turn_ball rfl) (ev_var rfl) fun H2 e2 hG2 => ?_
    subst e2
    rw [upd_upd, handed_dx]
    exact q
def sp_find_wired (a : Adr) : Sp := fun vs H Q _ => ∃ (g : Addr) (G : GV), vs = [.ref g] ∧ GH a H g G ∧ Q .non (upd H g (.ins a.C_Game G.dx (gF { G with owed := if 1 > G.owed then 1 else G.owed })))
theorem ok_find_wired (T : Txt K mg a) : FnOk P w K mg base CX0 1 a.find_wired a.find_wired_d ["game"] (sp_find_wired a) := by
  refine T.F_find_wired.ok sc_find_wired (fun vs H Q E h => ?_) (fun cdv A outer s H vs Q E hr h => ?_)
  · (first | (obtain ⟨rfl, _⟩ := h; rfl) | (obtain ⟨_, rfl, _⟩ := h; rfl) | (obtain ⟨_, _, rfl, _⟩ := h; rfl) | (obtain ⟨_, _, _, rfl, _⟩ := h; rfl) | (obtain ⟨_, _, _, _, rfl, _⟩ := h; rfl) | (obtain ⟨_, _, _, _, _, rfl, _⟩ := h; rfl) | (obtain ⟨_, _, _, _, _, _, rfl, _⟩ := h; rfl) | (obtain ⟨_, _, _, _, _, _, _, rfl, _⟩ := h; rfl) | (obtain ⟨_, _, _, _, _, _, _, _, rfl, _⟩ := h; rfl) | (obtain ⟨_, _, _, _, _, _, _, _, _, rfl, _⟩ := h; rfl) | (obtain ⟨_, _, _, _, _, _, _, _, _, _, rfl, _⟩ := h; rfl) | (obtain ⟨_, _, _, _, _, _, _, _, _, _, _, rfl, _⟩ := h; rfl) | (obtain ⟨_, _, _, _, _, _, _, _, _, _, _, _, rfl, _⟩ := h; rfl) | (obtain ⟨_, _, _, _, _, _, _, _, _, _, _, _, _, rfl, _⟩ := h; rfl) | (obtain ⟨_, _, _, _, _, _, _, _, _, _, _, _, _, _, rfl, _⟩ := h; rfl) | (obtain ⟨_, _, _, _, _, _, _, _, _, _, _, _, _, _, _, rfl, _⟩ := h; rfl))
  · obtain ⟨g, G, rfl, hG, q⟩ := h
    refine ⟨_, (pss_one (ps_fld (pv 0) (pe_callB (call_max2 rfl) (by rfl) T.n_max bo_max (pa_cons (pe_fld (pv 0) (by rfl)) (pa_cons (pe_gi (by rfl) T.g_LIFT) pa_nil))) rfl)), ?_⟩
    refine st_g_owed T hG (ev_max (ev_fld (ev_var rfl) hG.ob T.c_Game T.n_Game_owed rfl) ev_c) (ev_var rfl) fun H2 e2 hG2 => ?_
    subst e2
    exact q
def sp_call_time (a : Adr) : Sp := fun vs H Q _ => ∃ (g : Addr) (G : GV), vs = [.ref g] ∧ GH a H g G ∧ Q .non (upd H g (.ins a.C_Game G.dx (gF { G with time := 1 })))
theorem ok_call_time (T : Txt K mg a) : FnOk P w K mg base CX0 1 a.call_time a.call_time_d ["game"] (sp_call_time a) := by
  refine T.F_call_time.ok sc_call_time (fun vs H Q E h => ?_) (fun cdv A outer s H vs Q E hr h => ?_)
  · (first | (obtain ⟨rfl, _⟩ := h; rfl) | (obtain ⟨_, rfl, _⟩ := h; rfl) | (obtain ⟨_, _, rfl, _⟩ := h; rfl) | (obtain ⟨_, _, _, rfl, _⟩ := h; rfl) | (obtain ⟨_, _, _, _, rfl, _⟩ := h; rfl) | (obtain ⟨_, _, _, _, _, rfl, _⟩ := h; rfl) | (obtain ⟨_, _, _, _, _, _, rfl, _⟩ := h; rfl) | (obtain ⟨_, _, _, _, _, _, _, rfl, _⟩ := h; rfl) | (obtain ⟨_, _, _, _, _, _, _, _, rfl, _⟩ := h; rfl) | (obtain ⟨_, _, _, _, _, _, _, _, _, rfl, _⟩ := h; rfl) | (obtain ⟨_, _, _, _, _, _, _, _, _, _, rfl, _⟩ := h; rfl) | (obtain ⟨_, _, _, _, _, _, _, _, _, _, _, rfl, _⟩ := h; rfl) | (obtain ⟨_, _, _, _, _, _, _, _, _, _, _, _, rfl, _⟩ := h; rfl) | (obtain ⟨_, _, _, _, _, _, _, _, _, _, _, _, _, rfl, _⟩ := h; rfl) | (obtain ⟨_, _, _, _, _, _, _, _, _, _, _, _, _, _, rfl, _⟩ := h; rfl) | (obtain ⟨_, _, _, _, _, _, _, _, _, _, _, _, _, _, _, rfl, _⟩ := h; rfl))
  · obtain ⟨g, G, rfl, hG, q⟩ := h
    refine ⟨_, (pss_one (ps_fld (pv 0) (pe_gi (by rfl) T.g_TIME_CALLED) rfl)), ?_⟩
    refine st_g_time T hG ev_c (ev_var rfl) fun H2 e2 hG2 => ?_
    subst e2
    exact q
end
end Hg
set_option Elab.async false
set_option linter.all false
set_option maxRecDepth 100000
set_option maxHeartbeats 2000000
namespace Hg
open PySem PySem.Spec PyProof.Rows L2
section
variable {P : Program} {w : World} {K : PySem.W.Frag} {mg : Str → Option Value} {base : Heap} {a : Adr} {H H1 : Hp} {g t s : Addr} {G G1 : GV} {U : UV} {S : SV} {Q : VK} {E : XK} {ta tb te to ti : TE} {tl : TA} {σ : L2.St} {us : TS} {D : Ends} {C dx p x : Addr} {fs : List (Str × V)}
/-! ### calls that write -/
theorem meth_of {m : Str} {sp : Sp} {vs : List V} (h : Ev ta σ H (.ref p)) (hp : H p = some (.ins C dx fs)) (l : fs.lookup m = none) (h' : Ea tl σ H vs) (s : sp (.ref p :: vs) H Q E0) : tMeth C m sp [] E0 ta tl σ H Q :=
  h _ ⟨p, dx, fs, rfl, hp, l, h' _ (by rw [List.append_nil]; exact s)⟩
theorem call_of {sp : Sp} {vs : List V} (h : Ea tl σ H vs) (s : sp vs H Q E0) : tCall sp [] E0 tl σ H Q := h _ (by rw [List.append_nil]; exact s)
theorem make_of {sp : Sp} {vs : List V} (h : Ea tl σ H vs) (s : ∀ x dx, H x = none → H dx = none → dx ≠ x → sp (.ref x :: vs) (upd (upd H dx (.own x)) x (.ins C dx [])) (fun v H2 => v = .non ∧ Q (.ref x) H2) E0) : tMake C sp [] E0 tl σ H Q :=
  h _ (fun x dx h1 h2 h3 => by rw [List.append_nil]; exact s x dx h1 h2 h3)
theorem upd_swap {H : Hp} {x l : Addr} {o o' L : HO} : upd (upd (upd H x o) l L) x o' = upd (upd H l L) x o' := by
  funext b
  unfold upd
  by_cases h1 : b = x
  · rw [if_pos h1, if_pos h1]
  · rw [if_neg h1, if_neg h1, if_neg h1]
theorem GH.upd_ne {o : HO} (h : GH a H g G) (h1 : g ≠ x) (h2 : G.p ≠ x) (h3 : G.h ≠ x) : GH a (upd H x o) g G :=
  ⟨by rw [L2.upd_ne h1]; exact h.ob, by rw [L2.upd_ne h2]; exact h.pt, by rw [L2.upd_ne h3]; exact h.ht, h.xl, h.ml⟩
/-! ### the other balls in play -/
def othI (xs : List Int) (b : Int) : List Int := ([0, 1, 2, 3] : List Int).filter fun y => decide (y ≠ b) && !decide (pt xs y = 13)
def sp_Game_others_in_play (a : Adr) : Sp := fun vs H Q _ => ∃ (g : Addr) (G : GV) (b : Int), vs = [.ref g, .int b] ∧ GH a H g G ∧ ∀ l, H l = none → Q (.ref l) (upd H l (.lst ((othI G.xs b).map V.int)))
theorem ok_Game_others_in_play (T : Txt K mg a) : FnOk P w K mg base CX0 2 a.Game_others_in_play a.Game_others_in_play_d ["self", "ball"] (sp_Game_others_in_play a) := by
  refine T.F_Game_others_in_play.ok sc_Game_others_in_play (fun vs H Q E h => ?_) (fun cdv A outer s H vs Q E hr h => ?_)
  · (first | (obtain ⟨rfl, _⟩ := h; rfl) | (obtain ⟨_, rfl, _⟩ := h; rfl) | (obtain ⟨_, _, rfl, _⟩ := h; rfl) | (obtain ⟨_, _, _, rfl, _⟩ := h; rfl) | (obtain ⟨_, _, _, _, rfl, _⟩ := h; rfl) | (obtain ⟨_, _, _, _, _, rfl, _⟩ := h; rfl) | (obtain ⟨_, _, _, _, _, _, rfl, _⟩ := h; rfl) | (obtain ⟨_, _, _, _, _, _, _, rfl, _⟩ := h; rfl) | (obtain ⟨_, _, _, _, _, _, _, _, rfl, _⟩ := h; rfl) | (obtain ⟨_, _, _, _, _, _, _, _, _, rfl, _⟩ := h; rfl) | (obtain ⟨_, _, _, _, _, _, _, _, _, _, rfl, _⟩ := h; rfl) | (obtain ⟨_, _, _, _, _, _, _, _, _, _, _, rfl, _⟩ := h; rfl) | (obtain ⟨_, _, _, _, _, _, _, _, _, _, _, _, rfl, _⟩ := h; rfl) | (obtain ⟨_, _, _, _, _, _, _, _, _, _, _, _, _, rfl, _⟩ := h; rfl) | (obtain ⟨_, _, _, _, _, _, _, _, _, _, _, _, _, _, rfl, _⟩ := h; rfl) | (obtain ⟨_, _, _, _, _, _, _, _, _, _, _, _, _, _, _, rfl, _⟩ := h; rfl))
  · obtain ⟨g, G, b, rfl, hG, q⟩ := h
    refine ⟨_, (pss_one (ps_ret (pe_lc (own := [("other", 2)]) rfl sc_Game_others_in_play.nd (pi_tup (pe_gr (by rfl) T.g_BALLS)) (blkOk_by (by rfl)) (fun _ _ _ _ _ => pg_name (i := 2) sc_Game_others_in_play.nd rfl (Or.inl rfl)) (fun _ _ _ _ _ => (pts_one (PW.pt (pw_and (pt_cmpR op_neI (pv 2) (pv 1) (nomark _)) (pw_and1 (pt_not (pt_val (pe_meth (pv 0) T.c_Game T.m_Game_is_out (ok_Game_is_out T) (hr.mono (by decide)) T.b_Game_is_out .nil pass0 (pa_cons (pv 2) pa_nil))))))))) (fun _ _ _ _ _ => (pv 2))))), ?_⟩
    refine lc_TI (ns := [0, 1, 2, 3]) (fun y => decide (y ≠ b) && !decide (pt G.xs y = 13)) V.int ev_c (fun H' _ => T.balls H') (by decide) (fun x hx H' s => ?_) (fun x hx hf H' s => ev_var rfl) q
    have hG := hG.same s
    refine (et_and (et_test (ev_op (ev_var rfl) (ev_var rfl))) (fun hc => (et_not (et_b (ev_meth (ev_var rfl) hG.ob rfl (ea_cons (ev_var rfl) ea_nil) (fun Q q => use_is_out ?_ hG q))))))
    exact mem4 hx
/-! ### a turn -/
def sp_Turn_init (a : Adr) : Sp := fun vs H Q _ => ∃ (x dx g : Addr) (G : GV) (b hf : Int), vs = [.ref x, .int b, .int hf, .ref g] ∧ H x = some (.ins a.C_Turn dx []) ∧ GH a H g G ∧ (0 ≤ b ∧ b < 4) ∧
  ∀ l, H l = none → l ≠ x → Q .non (upd (upd H l (.lst ((othI G.xs b).map V.int))) x (.ins a.C_Turn dx (tF ⟨dx, l, b, hf, -1, 0, pt G.xs b, pt G.xs ((b + 2) % 4), othI G.xs b⟩)))
theorem ok_Turn_init (T : Txt K mg a) : FnOk P w K mg base CX0 3 a.Turn_init a.Turn_init_d ["self", "ball", "half", "game"] (sp_Turn_init a) := by
  refine T.F_Turn_init.ok sc_Turn_init (fun vs H Q E h => ?_) (fun cdv A outer s H vs Q E hr h => ?_)
  · (first | (obtain ⟨rfl, _⟩ := h; rfl) | (obtain ⟨_, rfl, _⟩ := h; rfl) | (obtain ⟨_, _, rfl, _⟩ := h; rfl) | (obtain ⟨_, _, _, rfl, _⟩ := h; rfl) | (obtain ⟨_, _, _, _, rfl, _⟩ := h; rfl) | (obtain ⟨_, _, _, _, _, rfl, _⟩ := h; rfl) | (obtain ⟨_, _, _, _, _, _, rfl, _⟩ := h; rfl) | (obtain ⟨_, _, _, _, _, _, _, rfl, _⟩ := h; rfl) | (obtain ⟨_, _, _, _, _, _, _, _, rfl, _⟩ := h; rfl) | (obtain ⟨_, _, _, _, _, _, _, _, _, rfl, _⟩ := h; rfl) | (obtain ⟨_, _, _, _, _, _, _, _, _, _, rfl, _⟩ := h; rfl) | (obtain ⟨_, _, _, _, _, _, _, _, _, _, _, rfl, _⟩ := h; rfl) | (obtain ⟨_, _, _, _, _, _, _, _, _, _, _, _, rfl, _⟩ := h; rfl) | (obtain ⟨_, _, _, _, _, _, _, _, _, _, _, _, _, rfl, _⟩ := h; rfl) | (obtain ⟨_, _, _, _, _, _, _, _, _, _, _, _, _, _, rfl, _⟩ := h; rfl) | (obtain ⟨_, _, _, _, _, _, _, _, _, _, _, _, _, _, _, rfl, _⟩ := h; rfl))
  · obtain ⟨x, dx, g, G, b, hf, rfl, hx, hG, hb, q⟩ := h
    have n1 : g ≠ x := ne_of hG.ob hx (by intro z; have z := congrArg List.length (HO.ins.inj z).2.2; cases z)
    have n2 : G.p ≠ x := ne_of hG.pt hx (by intro z; cases z)
    have n3 : G.h ≠ x := ne_of hG.ht hx (by intro z; cases z)
    refine ⟨_, (pss_cons (ps_fld (pv 0) (pv 1) rfl)
      (pss_cons (ps_fld (pv 0) (pv 2) rfl)
      (pss_cons (ps_fld (pv 0) (pe_gi (by rfl) T.g_NO_BALL) rfl)
      (pss_cons (ps_fld (pv 0) pe_int rfl)
      (pss_cons (ps_fld (pv 0) (pe_meth (pv 3) T.c_Game T.m_Game_others_in_play (ok_Game_others_in_play T) (hr.mono (by decide)) T.b_Game_others_in_play .nil pass0 (pa_cons (pv 1) pa_nil)) rfl)
      (pss_cons (ps_fld (pv 0) (pe_ix ix_list (pe_fld (pv 3) (by rfl)) (pv 1) (fun _ _ => rfl)) rfl)
      (pss_one (ps_fld (pv 0) (pe_ix ix_list (pe_fld (pv 3) (by rfl)) (pe_call (ok_partner_of T) (hr.mono (by decide)) (by rfl) T.g_partner_of T.F_partner_of.kp T.b_partner_of .nil pass0 (pa_cons (pv 1) pa_nil)) (fun _ _ => rfl)) rfl)))))))), ?_⟩
    refine sq_fld (ev_var rfl) (ev_var rfl) hx T.c_Turn T.n_Turn_ball (by show 0 < 1000; decide) ?_
    refine sq_fld (ev_var rfl) (ev_var rfl) upd_same T.c_Turn T.n_Turn_half (by show 1 < 1000; decide) ?_
    refine sq_fld ev_c (ev_var rfl) upd_same T.c_Turn T.n_Turn_beside (by show 2 < 1000; decide) ?_
    refine sq_fld ev_c (ev_var rfl) upd_same T.c_Turn T.n_Turn_strokes (by show 3 < 1000; decide) ?_
    rw [upd_upd, upd_upd, upd_upd]
    have hG1 := hG.upd_ne (o := .ins a.C_Turn dx (putF ("strokes" : Str) (.int 0) (putF ("beside" : Str) (.int (-1)) (putF ("half" : Str) (.int hf) (putF ("ball" : Str) (.int b) []))))) n1 n2 n3
    refine meth_of (ev_var rfl) hG1.ob rfl (ea_cons (ev_var rfl) ea_nil) ⟨g, G, b, rfl, hG1, fun l hl => ?_⟩
    have nl : l ≠ x := fun e => by rw [e, upd_same] at hl; cases hl
    have hl0 : H l = none := by rw [L2.upd_ne nl] at hl; exact hl
    refine (ev_var rfl) _ ⟨x, _, _, _, rfl, (by rw [L2.upd_ne (fun e => nl e.symm)]; exact upd_same), T.c_Turn, T.n_Turn_live, (by show 4 < 1000; decide), ?_⟩
    rw [upd_swap]
    have hG2 : GH a (upd H l (.lst ((othI G.xs b).map V.int))) g G := hG.same (Same.upd hl0)
    have hG := hG2.upd_ne (o := .ins a.C_Turn dx (putF ("live" : Str) (.ref l) (putF ("strokes" : Str) (.int 0) (putF ("beside" : Str) (.int (-1)) (putF ("half" : Str) (.int hf) (putF ("ball" : Str) (.int b) [])))))) n1 n2 n3
    refine sq_fld (ev_ix (ev_fld (ev_var rfl) hG.ob T.c_Game T.n_Game_points rfl) (ev_var rfl) hG.pt (pt_at hG.xl ?_)) (ev_var rfl) upd_same T.c_Turn T.n_Turn_hoops_before (by show 5 < 1000; decide) ?_
    · exact hb
    rw [upd_upd]
    have hG := hG2.upd_ne (o := .ins a.C_Turn dx (putF ("hoops_before" : Str) (.int (pt G.xs b)) (putF ("live" : Str) (.ref l) (putF ("strokes" : Str) (.int 0) (putF ("beside" : Str) (.int (-1)) (putF ("half" : Str) (.int hf) (putF ("ball" : Str) (.int b) []))))))) n1 n2 n3
    refine st_fld (ev_ix (ev_fld (ev_var rfl) hG.ob T.c_Game T.n_Game_points rfl) (ev_call (ea_cons (ev_var rfl) ea_nil) (fun Q q => use_partner_of q)) hG.pt (pt_at hG.xl ?_)) (ev_var rfl) upd_same T.c_Turn T.n_Turn_partner_before (by show 6 < 1000; decide) ?_
    · constructor <;> omega
    rw [upd_upd]
    exact q l hl0 nl
/-- a turn has begun -/
structure Begun (a : Adr) (H H' : Hp) (g : Addr) (G : GV) (b hf : Int) (t : Addr) (U : UV) : Prop where
  gh : GH a H' g { G with side := b % 2, owed := 0, last := -1, tv := .ref t }
  uh : UH a H' t U
  ft : H t = none
  fl : H U.l = none
  eb : U.ball = b
  eh : U.half = hf
  es : U.beside = -1
  ek : U.strokes = 0
  ed : U.had = pt G.xs b
  em : U.mate = pt G.xs ((b + 2) % 4)
  el : U.live = othI G.xs b
  kp : ∀ c o, H c = some o → c ≠ g → H' c = some o
def sp_begin_turn (a : Adr) : Sp := fun vs H Q _ => ∃ (g : Addr) (G : GV) (b hf : Int), vs = [.ref g, .int b, .int hf] ∧ GH a H g G ∧ (0 ≤ b ∧ b < 4) ∧ ∀ H' t U, Begun a H H' g G b hf t U → Q .non H'
theorem ok_begin_turn (T : Txt K mg a) : FnOk P w K mg base CX0 5 a.begin_turn a.begin_turn_d ["game", "ball", "half"] (sp_begin_turn a) := by
  refine T.F_begin_turn.ok sc_begin_turn (fun vs H Q E h => ?_) (fun cdv A outer s H vs Q E hr h => ?_)
  · (first | (obtain ⟨rfl, _⟩ := h; rfl) | (obtain ⟨_, rfl, _⟩ := h; rfl) | (obtain ⟨_, _, rfl, _⟩ := h; rfl) | (obtain ⟨_, _, _, rfl, _⟩ := h; rfl) | (obtain ⟨_, _, _, _, rfl, _⟩ := h; rfl) | (obtain ⟨_, _, _, _, _, rfl, _⟩ := h; rfl) | (obtain ⟨_, _, _, _, _, _, rfl, _⟩ := h; rfl) | (obtain ⟨_, _, _, _, _, _, _, rfl, _⟩ := h; rfl) | (obtain ⟨_, _, _, _, _, _, _, _, rfl, _⟩ := h; rfl) | (obtain ⟨_, _, _, _, _, _, _, _, _, rfl, _⟩ := h; rfl) | (obtain ⟨_, _, _, _, _, _, _, _, _, _, rfl, _⟩ := h; rfl) | (obtain ⟨_, _, _, _, _, _, _, _, _, _, _, rfl, _⟩ := h; rfl) | (obtain ⟨_, _, _, _, _, _, _, _, _, _, _, _, rfl, _⟩ := h; rfl) | (obtain ⟨_, _, _, _, _, _, _, _, _, _, _, _, _, rfl, _⟩ := h; rfl) | (obtain ⟨_, _, _, _, _, _, _, _, _, _, _, _, _, _, rfl, _⟩ := h; rfl) | (obtain ⟨_, _, _, _, _, _, _, _, _, _, _, _, _, _, _, rfl, _⟩ := h; rfl))
  · obtain ⟨g, G, b, hf, rfl, hG, hb, q⟩ := h
    refine ⟨_, (pss_cons (ps_fld (pv 0) (pe_call (ok_side_of T) (hr.mono (by decide)) (by rfl) T.g_side_of T.F_side_of.kp T.b_side_of .nil pass0 (pa_cons (pv 1) pa_nil)) rfl)
      (pss_cons (ps_fld (pv 0) pe_int rfl)
      (pss_cons (ps_fld (pv 0) (pe_gi (by rfl) T.g_NO_BALL) rfl)
      (pss_one (ps_fld (pv 0) (pe_make T.k_Turn (ok_Turn_init T) (hr.mono (by decide)) (by rfl) T.g_Turn T.b_Turn_init .nil pass0 (pa_cons (pv 1) (pa_cons (pv 2) (pa_cons (pv 0) pa_nil)))) rfl))))), ?_⟩
    have hG0 := hG
    refine sq_g_side T hG (ev_call (ea_cons (ev_var rfl) ea_nil) (fun Q q => use_side_of q)) (ev_var rfl) fun H1 e1 hG => ?_
    refine sq_g_owed T hG ev_c (ev_var rfl) fun H2 e2 hG => ?_
    refine sq_g_last_ball T hG ev_c (ev_var rfl) fun H3 e3 hG => ?_
    have e4 : H3 = upd H g (.ins a.C_Game G.dx (gF { G with side := b % 2, owed := 0, last := -1 })) := by rw [e3, e2, e1, upd_upd, upd_upd]
    clear e1 e2 e3
    have k3 : ∀ c o, H c = some o → c ≠ g → H3 c = some o := fun c o e n => by rw [e4, L2.upd_ne n]; exact e
    have f3 : ∀ c, H3 c = none → H c = none := fun c e => by
      by_cases n : c = g
      · rw [n, e4, upd_same] at e; cases e
      · rw [e4, L2.upd_ne n] at e; exact e
    refine make_of (ea_cons (ev_var rfl) (ea_cons (ev_var rfl) (ea_cons (ev_var rfl) ea_nil))) fun x dx hx hdx nx => ?_
    have s4 : Same H3 (upd (upd H3 dx (.own x)) x (.ins a.C_Turn dx [])) := (Same.upd hdx).trans (Same.upd (by rw [L2.upd_ne (fun e => nx e.symm)]; exact hx))
    refine ⟨x, dx, g, _, b, hf, rfl, upd_same, hG.same s4, hb, fun l hl nl => ⟨rfl, ?_⟩⟩
    have hl3 : H3 l = none := s4.free hl
    have ng : g ≠ x := ne_of_none hG.ob hx
    have ngl : g ≠ l := ne_of_none hG.ob hl3
    refine (ev_var rfl) _ ⟨g, _, _, _, rfl, (by rw [L2.upd_ne ng, L2.upd_ne ngl]; exact s4 _ _ hG.ob), T.c_Game, T.n_Game_turn, gF_len, ?_⟩
    have kp : ∀ c o, H3 c = some o → c ≠ g → (upd (upd (upd (upd (upd H3 dx (.own x)) x (.ins a.C_Turn dx [])) l (.lst ((othI G.xs b).map V.int))) x (.ins a.C_Turn dx (tF ⟨dx, l, b, hf, -1, 0, pt G.xs b, pt G.xs ((b + 2) % 4), othI G.xs b⟩))) g (.ins a.C_Game G.dx (gF { G with side := b % 2, owed := 0, last := -1, tv := .ref x }))) c = some o := fun c o e n => by
      rw [L2.upd_ne n, L2.upd_ne (ne_of_none e hx), L2.upd_ne (ne_of_none e hl3)]
      exact s4 _ _ e
    refine q _ x ⟨dx, l, b, hf, -1, 0, pt G.xs b, pt G.xs ((b + 2) % 4), othI G.xs b⟩ ⟨⟨upd_same, kp _ _ hG.pt hG.pg, kp _ _ hG.ht hG.hg, hG.xl, hG.ml⟩, ⟨?_, ?_⟩, f3 _ hx, f3 _ hl3, rfl, rfl, rfl, rfl, rfl, rfl, rfl, fun c o e n => kp c o (k3 c o e n) n⟩
    · rw [L2.upd_ne (fun e => ng e.symm)]; exact upd_same
    · show (upd _ g _) l = _
      rw [L2.upd_ne (fun e => ngl e.symm), L2.upd_ne nl]
      exact upd_same
theorem use_begin_turn {b hf : Int} (hG : GH a H g G) (hb : 0 ≤ b ∧ b < 4) (q : ∀ H' t U, Begun a H H' g G b hf t U → Q .non H') : sp_begin_turn a [.ref g, .int b, .int hf] H Q E := ⟨g, G, b, hf, rfl, hG, hb, q⟩
/-! ### a place of a list of ints, changed -/
theorem ix_ok {xs : List Int} {n : Nat} {k : Int} (hl : xs.length = n) (h : 0 ≤ k ∧ k < n) : ixN (xs.map V.int).length k = some k.toNat := by
  unfold ixN
  rw [List.length_map, if_pos h.1, if_pos (by omega)]
theorem st_aug {f : Int → Int → Int} {xs : List Int} {n : Nat} {k y : Int} (h : Ev to σ H (.ref p)) (h' : Ev ti σ H (.int k)) (hp : H p = some (.lst (xs.map V.int))) (hl : xs.length = n) (hk : 0 ≤ k ∧ k < n) (hv : Ev te σ H (.int y))
    (q : D.nx σ (upd H p (.lst ((xs.set k.toNat (f (pt xs k) y)).map V.int)))) : tAugS to ti te (rIxL K) (ipI f) rSetL D σ H :=
  h _ (h' _ ⟨p, _, k, _, rfl, rfl, SqL.of hp, pt_at hl hk, hv _ ⟨_, _, rfl, rfl, p, _, k, _, rfl, rfl, hp, ix_ok hl hk, by
    rw [← List.map_set]; exact q⟩⟩)
theorem st_put {xs : List Int} {n : Nat} {k y : Int} (h : Ev to σ H (.ref p)) (h' : Ev ti σ H (.int k)) (hp : H p = some (.lst (xs.map V.int))) (hl : xs.length = n) (hk : 0 ≤ k ∧ k < n) (hv : Ev te σ H (.int y))
    (q : D.nx σ (upd H p (.lst ((xs.set k.toNat y).map V.int)))) : tAsg te (gSub to ti rSetL) D σ H :=
  hv _ (h _ (h' _ ⟨p, _, k, _, rfl, rfl, hp, ix_ok hl hk, by rw [← List.map_set]; exact q⟩))
/-- a turn more has begun -/
structure More (a : Adr) (H H' : Hp) (g : Addr) (G : GV) (hf : Int) (t : Addr) (U : UV) : Prop where
  gh : GH a H' g { G with side := G.last % 2, owed := 0, last := -1, tv := .ref t, ms := G.ms.set (G.last % 2).toNat (pt G.ms (G.last % 2) - (if hf = 1 then 1 else 2)) }
  uh : UH a H' t U
  ft : H t = none
  fl : H U.l = none
  eb : U.ball = G.last
  eh : U.half = hf
  es : U.beside = -1
  ek : U.strokes = 0
  ed : U.had = pt G.xs G.last
  em : U.mate = pt G.xs ((G.last + 2) % 4)
  el : U.live = othI G.xs G.last
  kp : ∀ c o, H c = some o → c ≠ g → c ≠ G.h → H' c = some o
def sp_take_turn_more (a : Adr) : Sp := fun vs H Q _ => ∃ (g : Addr) (G : GV) (hf : Int), vs = [.ref g, .int hf] ∧ GH a H g G ∧ (0 ≤ G.last ∧ G.last < 4) ∧ ∀ H' t U, More a H H' g G hf t U → Q .non H'
theorem ok_take_turn_more (T : Txt K mg a) : FnOk P w K mg base CX0 6 a.take_turn_more a.take_turn_more_d ["game", "half"] (sp_take_turn_more a) := by
  refine T.F_take_turn_more.ok sc_take_turn_more (fun vs H Q E h => ?_) (fun cdv A outer s H vs Q E hr h => ?_)
  · (first | (obtain ⟨rfl, _⟩ := h; rfl) | (obtain ⟨_, rfl, _⟩ := h; rfl) | (obtain ⟨_, _, rfl, _⟩ := h; rfl) | (obtain ⟨_, _, _, rfl, _⟩ := h; rfl) | (obtain ⟨_, _, _, _, rfl, _⟩ := h; rfl) | (obtain ⟨_, _, _, _, _, rfl, _⟩ := h; rfl) | (obtain ⟨_, _, _, _, _, _, rfl, _⟩ := h; rfl) | (obtain ⟨_, _, _, _, _, _, _, rfl, _⟩ := h; rfl) | (obtain ⟨_, _, _, _, _, _, _, _, rfl, _⟩ := h; rfl) | (obtain ⟨_, _, _, _, _, _, _, _, _, rfl, _⟩ := h; rfl) | (obtain ⟨_, _, _, _, _, _, _, _, _, _, rfl, _⟩ := h; rfl) | (obtain ⟨_, _, _, _, _, _, _, _, _, _, _, rfl, _⟩ := h; rfl) | (obtain ⟨_, _, _, _, _, _, _, _, _, _, _, _, rfl, _⟩ := h; rfl) | (obtain ⟨_, _, _, _, _, _, _, _, _, _, _, _, _, rfl, _⟩ := h; rfl) | (obtain ⟨_, _, _, _, _, _, _, _, _, _, _, _, _, _, rfl, _⟩ := h; rfl) | (obtain ⟨_, _, _, _, _, _, _, _, _, _, _, _, _, _, _, rfl, _⟩ := h; rfl))
  · obtain ⟨g, G, hf, rfl, hG, hb, q⟩ := h
    refine ⟨_, (pss_cons (ps_expr (pe_call (ok_begin_turn T) (hr.mono (by decide)) (by rfl) T.g_begin_turn T.F_begin_turn.kp T.b_begin_turn .nil pass0 (pa_cons (pv 0) (pa_cons (pe_fld (pv 0) (by rfl)) (pa_cons (pv 1) pa_nil)))))
      (pss_one (ps_augS (pe_fld (pv 0) (by rfl)) (pe_fld (pv 0) (by rfl)) get_list (pe_call (ok_price_of T) (hr.mono (by decide)) (by rfl) T.g_price_of T.F_price_of.kp T.b_price_of .nil pass0 (pa_cons (pv 1) pa_nil)) ip_sub set_list))), ?_⟩
    refine sq_call (ea_cons (ev_var rfl) (ea_cons (ev_fld (ev_var rfl) hG.ob T.c_Game T.n_Game_last_ball rfl) (ea_cons (ev_var rfl) ea_nil))) (use_begin_turn hG hb fun H1 t U B => ?_)
    have hG0 := hG
    have hG := B.gh
    refine st_aug (ev_fld (ev_var rfl) hG.ob T.c_Game T.n_Game_half_turns rfl) (ev_fld (ev_var rfl) hG.ob T.c_Game T.n_Game_side rfl) hG.ht hG.ml (by show 0 ≤ G.last % 2 ∧ G.last % 2 < ((2 : Nat) : Int); omega) (ev_call (ea_cons (ev_var rfl) ea_nil) (fun Q q => use_price_of q)) ?_
    have ngh : t ≠ G.h := fun e => by have := hG0.ht; rw [← e, B.ft] at this; cases this
    have nlh : U.l ≠ G.h := fun e => by have := hG0.ht; rw [← e, B.fl] at this; cases this
    refine q _ t U ⟨⟨?_, ?_, upd_same, hG.xl, by simpa using hG.ml⟩, ⟨?_, ?_⟩, B.ft, B.fl, B.eb, B.eh, B.es, B.ek, B.ed, B.em, B.el, fun c o e n n' => by rw [L2.upd_ne n']; exact B.kp c o e n⟩
    · rw [L2.upd_ne hG.hg.symm]; exact hG.ob
    · rw [L2.upd_ne hG.php]; exact hG.pt
    · rw [L2.upd_ne ngh]; exact B.uh.ob
    · rw [L2.upd_ne nlh]; exact B.uh.lv
end
end Hg
set_option Elab.async false
set_option linter.all false
set_option maxRecDepth 100000
set_option maxHeartbeats 2000000
namespace Hg
open PySem PySem.Spec PyProof.Rows L2
section
variable {P : Program} {w : World} {K : PySem.W.Frag} {mg : Str → Option Value} {base : Heap} {a : Adr} {H H1 H2 : Hp} {g t s d : Addr} {G G1 : GV} {U : UV} {S : SV} {Q : VK} {E : XK} {ta tb te to ti t1 t2 tv : TE} {tl : TA} {σ : L2.St} {us : TS} {D : Ends} {C dx p x : Addr} {fs : List (Str × V)} {f : Str}
/-! ### new objects -/
def sp_Stroke_init (a : Adr) : Sp := fun vs H Q _ => ∃ (x dx : Addr) (S : SV), vs = [.ref x, .int S.hit, .int S.hoop, .int S.fault, .ref S.r, .ref S.g, .ref S.o] ∧ H x = some (.ins a.C_Stroke dx []) ∧ Q .non (upd H x (.ins a.C_Stroke dx (sF S)))
theorem ok_Stroke_init (T : Txt K mg a) : FnOk P w K mg base CX0 1 a.Stroke_init a.Stroke_init_d ["self", "hit", "hoop", "fault", "ran", "peg", "off"] (sp_Stroke_init a) := by
  refine T.F_Stroke_init.ok sc_Stroke_init (fun vs H Q E h => ?_) (fun cdv A outer s H vs Q E hr h => ?_)
  · (first | (obtain ⟨rfl, _⟩ := h; rfl) | (obtain ⟨_, rfl, _⟩ := h; rfl) | (obtain ⟨_, _, rfl, _⟩ := h; rfl) | (obtain ⟨_, _, _, rfl, _⟩ := h; rfl) | (obtain ⟨_, _, _, _, rfl, _⟩ := h; rfl) | (obtain ⟨_, _, _, _, _, rfl, _⟩ := h; rfl) | (obtain ⟨_, _, _, _, _, _, rfl, _⟩ := h; rfl) | (obtain ⟨_, _, _, _, _, _, _, rfl, _⟩ := h; rfl) | (obtain ⟨_, _, _, _, _, _, _, _, rfl, _⟩ := h; rfl) | (obtain ⟨_, _, _, _, _, _, _, _, _, rfl, _⟩ := h; rfl) | (obtain ⟨_, _, _, _, _, _, _, _, _, _, rfl, _⟩ := h; rfl) | (obtain ⟨_, _, _, _, _, _, _, _, _, _, _, rfl, _⟩ := h; rfl) | (obtain ⟨_, _, _, _, _, _, _, _, _, _, _, _, rfl, _⟩ := h; rfl) | (obtain ⟨_, _, _, _, _, _, _, _, _, _, _, _, _, rfl, _⟩ := h; rfl) | (obtain ⟨_, _, _, _, _, _, _, _, _, _, _, _, _, _, rfl, _⟩ := h; rfl) | (obtain ⟨_, _, _, _, _, _, _, _, _, _, _, _, _, _, _, rfl, _⟩ := h; rfl))
  · obtain ⟨x, dx, S, rfl, hx, q⟩ := h
    refine ⟨_, (pss_cons (ps_fld (pv 0) (pv 1) rfl)
      (pss_cons (ps_fld (pv 0) (pv 2) rfl)
      (pss_cons (ps_fld (pv 0) (pv 3) rfl)
      (pss_cons (ps_fld (pv 0) (pv 4) rfl)
      (pss_cons (ps_fld (pv 0) (pv 5) rfl)
      (pss_one (ps_fld (pv 0) (pv 6) rfl))))))), ?_⟩
    refine sq_fld (ev_var rfl) (ev_var rfl) hx T.c_Stroke T.n_Stroke_hit (by show 0 < 1000; decide) ?_
    refine sq_fld (ev_var rfl) (ev_var rfl) upd_same T.c_Stroke T.n_Stroke_hoop (by show 1 < 1000; decide) ?_
    refine sq_fld (ev_var rfl) (ev_var rfl) upd_same T.c_Stroke T.n_Stroke_fault (by show 2 < 1000; decide) ?_
    refine sq_fld (ev_var rfl) (ev_var rfl) upd_same T.c_Stroke T.n_Stroke_ran (by show 3 < 1000; decide) ?_
    refine sq_fld (ev_var rfl) (ev_var rfl) upd_same T.c_Stroke T.n_Stroke_peg (by show 4 < 1000; decide) ?_
    refine st_fld (ev_var rfl) (ev_var rfl) upd_same T.c_Stroke T.n_Stroke_off (by show 5 < 1000; decide) ?_
    rw [upd_upd, upd_upd, upd_upd, upd_upd, upd_upd]
    exact q
def sp_Game_init (a : Adr) : Sp := fun vs H Q _ => ∃ (x dx h : Addr) (li fi : Int), vs = [.ref x, .int li, .int fi, .ref h] ∧ H x = some (.ins a.C_Game dx []) ∧
  ∀ p ms, H p = none → p ≠ x → Q .non (upd (upd H p (.lst (([0, 0, 0, 0] : List Int).map V.int))) x (.ins a.C_Game dx (gF ⟨dx, p, h, li, fi, 0, 0, .non, -1, -1, [0, 0, 0, 0], ms⟩)))
theorem ok_Game_init (T : Txt K mg a) : FnOk P w K mg base CX0 1 a.Game_init a.Game_init_d ["self", "lifts", "first", "half_turns"] (sp_Game_init a) := by
  refine T.F_Game_init.ok sc_Game_init (fun vs H Q E h => ?_) (fun cdv A outer s H vs Q E hr h => ?_)
  · (first | (obtain ⟨rfl, _⟩ := h; rfl) | (obtain ⟨_, rfl, _⟩ := h; rfl) | (obtain ⟨_, _, rfl, _⟩ := h; rfl) | (obtain ⟨_, _, _, rfl, _⟩ := h; rfl) | (obtain ⟨_, _, _, _, rfl, _⟩ := h; rfl) | (obtain ⟨_, _, _, _, _, rfl, _⟩ := h; rfl) | (obtain ⟨_, _, _, _, _, _, rfl, _⟩ := h; rfl) | (obtain ⟨_, _, _, _, _, _, _, rfl, _⟩ := h; rfl) | (obtain ⟨_, _, _, _, _, _, _, _, rfl, _⟩ := h; rfl) | (obtain ⟨_, _, _, _, _, _, _, _, _, rfl, _⟩ := h; rfl) | (obtain ⟨_, _, _, _, _, _, _, _, _, _, rfl, _⟩ := h; rfl) | (obtain ⟨_, _, _, _, _, _, _, _, _, _, _, rfl, _⟩ := h; rfl) | (obtain ⟨_, _, _, _, _, _, _, _, _, _, _, _, rfl, _⟩ := h; rfl) | (obtain ⟨_, _, _, _, _, _, _, _, _, _, _, _, _, rfl, _⟩ := h; rfl) | (obtain ⟨_, _, _, _, _, _, _, _, _, _, _, _, _, _, rfl, _⟩ := h; rfl) | (obtain ⟨_, _, _, _, _, _, _, _, _, _, _, _, _, _, _, rfl, _⟩ := h; rfl))
  · obtain ⟨x, dx, h, li, fi, rfl, hx, q⟩ := h
    refine ⟨_, (pss_cons (ps_fld (pv 0) (pv 1) rfl)
      (pss_cons (ps_fld (pv 0) (pe_lst (pa_cons pe_int (pa_cons pe_int (pa_cons pe_int (pa_cons pe_int pa_nil))))) rfl)
      (pss_cons (ps_fld (pv 0) (pv 3) rfl)
      (pss_cons (ps_fld (pv 0) (pv 2) rfl)
      (pss_cons (ps_fld (pv 0) pe_int rfl)
      (pss_cons (ps_fld (pv 0) (pe_gi (by rfl) T.g_TIME_NOT_CALLED) rfl)
      (pss_cons (ps_fld (pv 0) pe_non rfl)
      (pss_cons (ps_fld (pv 0) (pe_gi (by rfl) T.g_NO_BALL) rfl)
      (pss_one (ps_fld (pv 0) (pe_gi (by rfl) T.g_NO_SIDE) rfl)))))))))), ?_⟩
    refine sq_fld (ev_var rfl) (ev_var rfl) hx T.c_Game T.n_Game_lifts (by show 0 < 1000; decide) ?_
    refine ⟨by show 4 ≤ sizeLine; decide, fun l hl => ?_⟩
    have nl : l ≠ x := fun e => by rw [e, upd_same] at hl; cases hl
    have hl0 : H l = none := by rw [L2.upd_ne nl] at hl; exact hl
    refine (ev_var rfl) _ ⟨x, _, _, _, rfl, (by rw [L2.upd_ne (fun e => nl e.symm)]; exact upd_same), T.c_Game, T.n_Game_points, (by show 1 < 1000; decide), ?_⟩
    rw [upd_swap]
    refine sq_fld (ev_var rfl) (ev_var rfl) upd_same T.c_Game T.n_Game_half_turns (by show 2 < 1000; decide) ?_
    refine sq_fld (ev_var rfl) (ev_var rfl) upd_same T.c_Game T.n_Game_side (by show 3 < 1000; decide) ?_
    refine sq_fld ev_c (ev_var rfl) upd_same T.c_Game T.n_Game_owed (by show 4 < 1000; decide) ?_
    refine sq_fld ev_c (ev_var rfl) upd_same T.c_Game T.n_Game_time (by show 5 < 1000; decide) ?_
    refine sq_fld ev_c (ev_var rfl) upd_same T.c_Game T.n_Game_turn (by show 6 < 1000; decide) ?_
    refine sq_fld ev_c (ev_var rfl) upd_same T.c_Game T.n_Game_last_ball (by show 7 < 1000; decide) ?_
    refine st_fld ev_c (ev_var rfl) upd_same T.c_Game T.n_Game_winner (by show 8 < 1000; decide) ?_
    rw [upd_upd, upd_upd, upd_upd, upd_upd, upd_upd, upd_upd, upd_upd]
    exact q l [] hl0 nl
def sp_Referee_init (a : Adr) : Sp := fun vs H Q _ => ∃ (x dx : Addr), vs = [.ref x] ∧ H x = some (.ins a.C_Referee dx []) ∧ Q .non (upd H x (.ins a.C_Referee dx (rF .non)))
theorem ok_Referee_init (T : Txt K mg a) : FnOk P w K mg base CX0 1 a.Referee_init a.Referee_init_d ["self"] (sp_Referee_init a) := by
  refine T.F_Referee_init.ok sc_Referee_init (fun vs H Q E h => ?_) (fun cdv A outer s H vs Q E hr h => ?_)
  · (first | (obtain ⟨rfl, _⟩ := h; rfl) | (obtain ⟨_, rfl, _⟩ := h; rfl) | (obtain ⟨_, _, rfl, _⟩ := h; rfl) | (obtain ⟨_, _, _, rfl, _⟩ := h; rfl) | (obtain ⟨_, _, _, _, rfl, _⟩ := h; rfl) | (obtain ⟨_, _, _, _, _, rfl, _⟩ := h; rfl) | (obtain ⟨_, _, _, _, _, _, rfl, _⟩ := h; rfl) | (obtain ⟨_, _, _, _, _, _, _, rfl, _⟩ := h; rfl) | (obtain ⟨_, _, _, _, _, _, _, _, rfl, _⟩ := h; rfl) | (obtain ⟨_, _, _, _, _, _, _, _, _, rfl, _⟩ := h; rfl) | (obtain ⟨_, _, _, _, _, _, _, _, _, _, rfl, _⟩ := h; rfl) | (obtain ⟨_, _, _, _, _, _, _, _, _, _, _, rfl, _⟩ := h; rfl) | (obtain ⟨_, _, _, _, _, _, _, _, _, _, _, _, rfl, _⟩ := h; rfl) | (obtain ⟨_, _, _, _, _, _, _, _, _, _, _, _, _, rfl, _⟩ := h; rfl) | (obtain ⟨_, _, _, _, _, _, _, _, _, _, _, _, _, _, rfl, _⟩ := h; rfl) | (obtain ⟨_, _, _, _, _, _, _, _, _, _, _, _, _, _, _, rfl, _⟩ := h; rfl))
  · obtain ⟨x, dx, rfl, hx, q⟩ := h
    refine ⟨_, (pss_one (ps_fld (pv 0) pe_non rfl)), ?_⟩
    refine st_fld ev_c (ev_var rfl) hx T.c_Referee T.n_Referee_game (by show 0 < 1000; decide) ?_
    exact q
def sp_Reader_init (a : Adr) : Sp := fun vs H Q _ => ∃ (x dx c : Addr), vs = [.ref x, .ref c] ∧ H x = some (.ins a.C_Reader dx []) ∧ Q .non (upd H x (.ins a.C_Reader dx (dF c 0)))
theorem ok_Reader_init (T : Txt K mg a) : FnOk P w K mg base CX0 1 a.Reader_init a.Reader_init_d ["self", "calls"] (sp_Reader_init a) := by
  refine T.F_Reader_init.ok sc_Reader_init (fun vs H Q E h => ?_) (fun cdv A outer s H vs Q E hr h => ?_)
  · (first | (obtain ⟨rfl, _⟩ := h; rfl) | (obtain ⟨_, rfl, _⟩ := h; rfl) | (obtain ⟨_, _, rfl, _⟩ := h; rfl) | (obtain ⟨_, _, _, rfl, _⟩ := h; rfl) | (obtain ⟨_, _, _, _, rfl, _⟩ := h; rfl) | (obtain ⟨_, _, _, _, _, rfl, _⟩ := h; rfl) | (obtain ⟨_, _, _, _, _, _, rfl, _⟩ := h; rfl) | (obtain ⟨_, _, _, _, _, _, _, rfl, _⟩ := h; rfl) | (obtain ⟨_, _, _, _, _, _, _, _, rfl, _⟩ := h; rfl) | (obtain ⟨_, _, _, _, _, _, _, _, _, rfl, _⟩ := h; rfl) | (obtain ⟨_, _, _, _, _, _, _, _, _, _, rfl, _⟩ := h; rfl) | (obtain ⟨_, _, _, _, _, _, _, _, _, _, _, rfl, _⟩ := h; rfl) | (obtain ⟨_, _, _, _, _, _, _, _, _, _, _, _, rfl, _⟩ := h; rfl) | (obtain ⟨_, _, _, _, _, _, _, _, _, _, _, _, _, rfl, _⟩ := h; rfl) | (obtain ⟨_, _, _, _, _, _, _, _, _, _, _, _, _, _, rfl, _⟩ := h; rfl) | (obtain ⟨_, _, _, _, _, _, _, _, _, _, _, _, _, _, _, rfl, _⟩ := h; rfl))
  · obtain ⟨x, dx, c, rfl, hx, q⟩ := h
    refine ⟨_, (pss_cons (ps_fld (pv 0) (pv 1) rfl)
      (pss_one (ps_fld (pv 0) pe_int rfl))), ?_⟩
    refine sq_fld (ev_var rfl) (ev_var rfl) hx T.c_Reader T.n_Reader_calls (by show 0 < 1000; decide) ?_
    refine st_fld ev_c (ev_var rfl) upd_same T.c_Reader T.n_Reader_place (by show 1 < 1000; decide) ?_
    rw [upd_upd]
    exact q
/-! ### the reader -/
structure DV where
  dx : Addr
  c : Addr
  i : Nat
  ns : List Int
structure DH (K : PySem.W.Frag) (a : Adr) (H : Hp) (d : Addr) (W : DV) : Prop where
  ob : H d = some (.ins a.C_Reader W.dx (dF W.c W.i))
  sq : SqL K H W.c (W.ns.map V.int)
  le : W.i ≤ W.ns.length
/-- all but one object is as it was -/
def Kp (d : Addr) (H H' : Hp) : Prop := ∀ b o, H b = some o → b ≠ d → H' b = some o
theorem Kp.refl : Kp d H H := fun _ _ h _ => h
theorem Kp.trans (h : Kp d H H1) (k : Kp d H1 H2) : Kp d H H2 := fun b o e n => k b o (h b o e n) n
theorem Kp.upd {o : HO} : Kp d H (upd H d o) := fun b u e n => by rw [L2.upd_ne n]; exact e
theorem Kp.same (h : Same H H1) : Kp d H H1 := fun b o e _ => h b o e
theorem Kp.free {o : HO} (h : Kp d H H1) (hd : H1 d = some o) {b : Addr} (e : H1 b = none) : H b = none := by
  cases q : H b with
  | none => rfl
  | some u =>
    by_cases n : b = d
    · rw [n, hd] at e; cases e
    · rw [h b u q n] at e; cases e
theorem sq_kp {c : Addr} {xs : List V} (h : SqL K H c xs) (hd : H d = some (.ins C dx fs)) (k : Kp d H H1) : SqL K H1 c xs := by
  rcases h with (h | ⟨o, h⟩) | h
  · exact .inl (.inl (k _ _ h (ne_of h hd (by intro z; cases z))))
  · exact .inl (.inr ⟨o, k _ _ h (ne_of h hd (by intro z; cases z))⟩)
  · exact .inr h
theorem DH.put {W : DV} {i : Nat} (h : DH K a H d W) (k : Kp d H H1) (e : H1 d = some (.ins a.C_Reader W.dx (dF W.c i))) (le : i ≤ W.ns.length) : DH K a H1 d { W with i := i } := ⟨e, sq_kp h.sq h.ob k, le⟩
theorem DH.same {W : DV} (h : DH K a H d W) (s : Same H H1) : DH K a H1 d W := ⟨s _ _ h.ob, s.seq h.sq, h.le⟩
theorem sq_fldaug {i j : Int} (h : Ev ta σ H (.ref p)) (hp : H p = some (.ins C dx fs)) (c : Cls K C) (n : NoAttr K C f) (l : fs.lookup f = some (.int i)) (hv : Ev tv σ H (.int j)) (len : fs.length < 1000) (q : us D σ (upd H p (.ins C dx (putF f (.int (i + j)) fs)))) : tSeq (sFldAug K ta tv rAdd f) us D σ H :=
  h _ ⟨p, C, dx, fs, _, rfl, hp, c, n, l, hv _ ⟨i, j, rfl, rfl, dx, fs, hp, len, q⟩⟩
theorem sl_of {i j : Int} {xs : List V} (h : Ev te σ H (.ref p)) (h1 : Ev t1 σ H (.int i)) (h2 : Ev t2 σ H (.int j)) (sq : SqL K H p xs) (q : ∀ d, H d = none → Q (.ref d) (upd H d (.lst (cutV xs (some i) (some j))))) : tSl (rSlL K) te (tPart t1) (tPart t2) σ H Q :=
  h _ (h1 _ ⟨i, rfl, h2 _ ⟨j, rfl, p, xs, rfl, sq, q⟩⟩)
theorem drop_at {ns rest : List Int} {i : Nat} {v : Int} (h : ns.drop i = v :: rest) : ns[i]? = some v ∧ ns.drop (i + 1) = rest := by
  constructor
  · have : (ns.drop i)[0]? = some v := by rw [h]; rfl
    rw [List.getElem?_drop] at this
    simpa using this
  · have : (ns.drop i).drop 1 = rest := by rw [h]; rfl
    rw [List.drop_drop] at this
    exact this
theorem cut_eq {ns r t : List Int} {i : Nat} (h : ns.drop i = r ++ t) (hi : i ≤ ns.length) : cutV (ns.map V.int) (some (i : Int)) (some ((i + r.length : Nat) : Int)) = r.map V.int := by
  have hl : ns.length - i = r.length + t.length := by rw [← List.length_drop, h, List.length_append]
  unfold cutV
  rw [HT.sIx_nat, HT.sIx_nat, List.length_map, Nat.min_eq_left hi, Nat.min_eq_left (by omega), ← List.map_drop, ← List.map_take, h]
  have e : i + r.length - i = r.length := by omega
  rw [e, List.take_left]
def sp_Reader_at_end (K : PySem.W.Frag) (a : Adr) : Sp := fun vs H Q _ => ∃ (d : Addr) (W : DV), vs = [.ref d] ∧ DH K a H d W ∧ Q (.bl (decide ((W.i : Int) = (W.ns.length : Int)))) H
theorem ok_Reader_at_end (T : Txt K mg a) : FnOk P w K mg base CX0 1 a.Reader_at_end a.Reader_at_end_d ["self"] (sp_Reader_at_end K a) := by
  refine T.F_Reader_at_end.ok sc_Reader_at_end (fun vs H Q E h => ?_) (fun cdv A outer s H vs Q E hr h => ?_)
  · (first | (obtain ⟨rfl, _⟩ := h; rfl) | (obtain ⟨_, rfl, _⟩ := h; rfl) | (obtain ⟨_, _, rfl, _⟩ := h; rfl) | (obtain ⟨_, _, _, rfl, _⟩ := h; rfl) | (obtain ⟨_, _, _, _, rfl, _⟩ := h; rfl) | (obtain ⟨_, _, _, _, _, rfl, _⟩ := h; rfl) | (obtain ⟨_, _, _, _, _, _, rfl, _⟩ := h; rfl) | (obtain ⟨_, _, _, _, _, _, _, rfl, _⟩ := h; rfl) | (obtain ⟨_, _, _, _, _, _, _, _, rfl, _⟩ := h; rfl) | (obtain ⟨_, _, _, _, _, _, _, _, _, rfl, _⟩ := h; rfl) | (obtain ⟨_, _, _, _, _, _, _, _, _, _, rfl, _⟩ := h; rfl) | (obtain ⟨_, _, _, _, _, _, _, _, _, _, _, rfl, _⟩ := h; rfl) | (obtain ⟨_, _, _, _, _, _, _, _, _, _, _, _, rfl, _⟩ := h; rfl) | (obtain ⟨_, _, _, _, _, _, _, _, _, _, _, _, _, rfl, _⟩ := h; rfl) | (obtain ⟨_, _, _, _, _, _, _, _, _, _, _, _, _, _, rfl, _⟩ := h; rfl) | (obtain ⟨_, _, _, _, _, _, _, _, _, _, _, _, _, _, _, rfl, _⟩ := h; rfl))
  · obtain ⟨d, W, rfl, hD, q⟩ := h
    refine ⟨_, (pss_one (ps_ret (pe_cmpR op_eqI (pe_fld (pv 0) (by rfl)) (pe_callB call_len_seq (by rfl) T.n_len PySem.boot_len (pa_cons (pe_fld (pv 0) (by rfl)) pa_nil)) (nomark _)))), ?_⟩
    refine st_ret (ev_op (ev_fld (ev_var rfl) hD.ob T.c_Reader T.n_Reader_place rfl) (j := (W.ns.length : Int)) (ev_cb (ea_cons (ev_fld (ev_var rfl) hD.ob T.c_Reader T.n_Reader_calls rfl) ea_nil) fun Q q => ⟨_, _, rfl, .inl hD.sq, by rw [List.length_map]; exact q⟩)) q
def sp_Reader_number (K : PySem.W.Frag) (a : Adr) : Sp := fun vs H Q _ => ∃ (d : Addr) (W : DV) (v : Int) (rest : List Int), vs = [.ref d] ∧ DH K a H d W ∧ W.ns.drop W.i = v :: rest ∧ ∀ H', DH K a H' d { W with i := W.i + 1 } → Kp d H H' → Q (.int v) H'
theorem ok_Reader_number (T : Txt K mg a) : FnOk P w K mg base CX0 1 a.Reader_number a.Reader_number_d ["self"] (sp_Reader_number K a) := by
  refine T.F_Reader_number.ok sc_Reader_number (fun vs H Q E h => ?_) (fun cdv A outer s H vs Q E hr h => ?_)
  · (first | (obtain ⟨rfl, _⟩ := h; rfl) | (obtain ⟨_, rfl, _⟩ := h; rfl) | (obtain ⟨_, _, rfl, _⟩ := h; rfl) | (obtain ⟨_, _, _, rfl, _⟩ := h; rfl) | (obtain ⟨_, _, _, _, rfl, _⟩ := h; rfl) | (obtain ⟨_, _, _, _, _, rfl, _⟩ := h; rfl) | (obtain ⟨_, _, _, _, _, _, rfl, _⟩ := h; rfl) | (obtain ⟨_, _, _, _, _, _, _, rfl, _⟩ := h; rfl) | (obtain ⟨_, _, _, _, _, _, _, _, rfl, _⟩ := h; rfl) | (obtain ⟨_, _, _, _, _, _, _, _, _, rfl, _⟩ := h; rfl) | (obtain ⟨_, _, _, _, _, _, _, _, _, _, rfl, _⟩ := h; rfl) | (obtain ⟨_, _, _, _, _, _, _, _, _, _, _, rfl, _⟩ := h; rfl) | (obtain ⟨_, _, _, _, _, _, _, _, _, _, _, _, rfl, _⟩ := h; rfl) | (obtain ⟨_, _, _, _, _, _, _, _, _, _, _, _, _, rfl, _⟩ := h; rfl) | (obtain ⟨_, _, _, _, _, _, _, _, _, _, _, _, _, _, rfl, _⟩ := h; rfl) | (obtain ⟨_, _, _, _, _, _, _, _, _, _, _, _, _, _, _, rfl, _⟩ := h; rfl))
  · obtain ⟨d, W, v, rest, rfl, hD, hr, q⟩ := h
    refine ⟨_, (pss_cons (ps_fldaug (pv 0) pe_int in_add)
      (pss_one (ps_ret (pe_ix ix_list (pe_fld (pv 0) (by rfl)) (pe_op op_sub (pe_fld (pv 0) (by rfl)) pe_int) (fun _ _ => rfl))))), ?_⟩
    obtain ⟨h1, h2⟩ := drop_at hr
    refine sq_fldaug (ev_var rfl) hD.ob T.c_Reader T.n_Reader_place rfl ev_c (by show 2 < 1000; decide) ?_
    have hD1 : DH K a (upd H d (.ins a.C_Reader W.dx (putF ("place" : Str) (.int ((W.i : Int) + 1)) (dF W.c W.i)))) d { W with i := W.i + 1 } := hD.put Kp.upd (by rw [upd_same]; rfl) (by have := (List.getElem?_eq_some_iff.mp h1).1; omega)
    refine st_ret (ev_ixS (ev_fld (ev_var rfl) hD1.ob T.c_Reader T.n_Reader_calls rfl) (ev_op (ev_fld (ev_var rfl) hD1.ob T.c_Reader T.n_Reader_place rfl) ev_c) hD1.sq (v := .int v) (at_of (j := W.i) (by show ((W.i + 1 : Nat) : Int) - 1 = _; omega) (by rw [List.getElem?_map, h1]; rfl))) ?_
    exact q _ hD1 Kp.upd
def sp_Reader_row (K : PySem.W.Frag) (a : Adr) : Sp := fun vs H Q _ => ∃ (d : Addr) (W : DV) (r rest : List Int), vs = [.ref d] ∧ DH K a H d W ∧ W.ns.drop W.i = (r.length : Int) :: (r ++ rest) ∧ ∀ H' l i', DH K a H' d { W with i := i' } → W.ns.drop i' = rest → Kp d H H' → H l = none → H' l = some (.lst (r.map V.int)) → Q (.ref l) H'
theorem ok_Reader_row (T : Txt K mg a) : FnOk P w K mg base CX0 2 a.Reader_row a.Reader_row_d ["self"] (sp_Reader_row K a) := by
  refine T.F_Reader_row.ok sc_Reader_row (fun vs H Q E h => ?_) (fun cdv A outer s H vs Q E hr h => ?_)
  · (first | (obtain ⟨rfl, _⟩ := h; rfl) | (obtain ⟨_, rfl, _⟩ := h; rfl) | (obtain ⟨_, _, rfl, _⟩ := h; rfl) | (obtain ⟨_, _, _, rfl, _⟩ := h; rfl) | (obtain ⟨_, _, _, _, rfl, _⟩ := h; rfl) | (obtain ⟨_, _, _, _, _, rfl, _⟩ := h; rfl) | (obtain ⟨_, _, _, _, _, _, rfl, _⟩ := h; rfl) | (obtain ⟨_, _, _, _, _, _, _, rfl, _⟩ := h; rfl) | (obtain ⟨_, _, _, _, _, _, _, _, rfl, _⟩ := h; rfl) | (obtain ⟨_, _, _, _, _, _, _, _, _, rfl, _⟩ := h; rfl) | (obtain ⟨_, _, _, _, _, _, _, _, _, _, rfl, _⟩ := h; rfl) | (obtain ⟨_, _, _, _, _, _, _, _, _, _, _, rfl, _⟩ := h; rfl) | (obtain ⟨_, _, _, _, _, _, _, _, _, _, _, _, rfl, _⟩ := h; rfl) | (obtain ⟨_, _, _, _, _, _, _, _, _, _, _, _, _, rfl, _⟩ := h; rfl) | (obtain ⟨_, _, _, _, _, _, _, _, _, _, _, _, _, _, rfl, _⟩ := h; rfl) | (obtain ⟨_, _, _, _, _, _, _, _, _, _, _, _, _, _, _, rfl, _⟩ := h; rfl))
  · obtain ⟨d, W, r, rest, rfl, hD, hre, q⟩ := h
    refine ⟨_, (pss_cons (ps_set (i := 1) sc_Reader_row.nd rfl (by first | exact Or.inl rfl | exact Or.inr rfl) (pe_meth0 (pv 0) T.c_Reader T.m_Reader_number (ok_Reader_number T) (hr.mono (by decide)) T.b_Reader_number .nil pass0))
      (pss_cons (ps_fldaug (pv 0) (pv 1) in_add)
      (pss_one (ps_ret (pe_slice sl_list (pe_fld (pv 0) (by rfl)) (po_some (pe_op op_sub (pe_fld (pv 0) (by rfl)) (pv 1))) (po_some (pe_fld (pv 0) (by rfl)))))))), ?_⟩
    refine meth_of (ev_var rfl) hD.ob rfl ea_nil ⟨d, W, _, _, rfl, hD, hre, fun H1 hD1 k1 => ?_⟩
    obtain ⟨h1, h2⟩ := drop_at hre
    refine sq_fldaug (ev_var rfl) hD1.ob T.c_Reader T.n_Reader_place rfl (ev_var rfl) (by show 2 < 1000; decide) ?_
    have hlen : W.i + 1 ≤ W.ns.length := by
      have := (List.getElem?_eq_some_iff.mp h1).1
      omega
    have k2 : Kp d H1 (upd H1 d (.ins a.C_Reader W.dx (putF ("place" : Str) (.int (((W.i + 1 : Nat) : Int) + (r.length : Int))) (dF W.c ((W.i + 1 : Nat) : Int))))) := Kp.upd
    have hD2 : DH K a (upd H1 d (.ins a.C_Reader W.dx (putF ("place" : Str) (.int (((W.i + 1 : Nat) : Int) + (r.length : Int))) (dF W.c ((W.i + 1 : Nat) : Int))))) d { W with i := W.i + 1 + r.length } := hD1.put k2 (by
      rw [upd_same]
      show some (HO.ins a.C_Reader W.dx (dF W.c (((W.i + 1 : Nat) : Int) + (r.length : Int)))) = some (HO.ins a.C_Reader W.dx (dF W.c ((W.i + 1 + r.length : Nat) : Int)))
      rw [Int.natCast_add (W.i + 1) r.length]) (by
      have hz : W.ns.length - (W.i + 1) = r.length + rest.length := by rw [← List.length_drop, h2, List.length_append]
      show W.i + 1 + r.length ≤ W.ns.length
      omega)
    refine sl_of (ev_fld (ev_var rfl) hD2.ob T.c_Reader T.n_Reader_calls rfl) (ev_op (ev_fld (ev_var rfl) hD2.ob T.c_Reader T.n_Reader_place rfl) (ev_var rfl)) (ev_fld (ev_var rfl) hD2.ob T.c_Reader T.n_Reader_place rfl) hD2.sq fun l hl => ?_
    have e1 : ((W.i + 1 + r.length : Nat) : Int) - (r.length : Int) = ((W.i + 1 : Nat) : Int) := by omega
    have hl1 : H1 l = none := k2.free hD2.ob hl
    refine q _ l (W.i + 1 + r.length) (hD2.same (Same.upd hl)) ?_ ((k1.trans k2).trans (Kp.same (Same.upd hl))) (k1.free hD1.ob hl1) ?_
    · rw [← List.drop_drop, h2, List.drop_left]
    · rw [upd_same]
      show some (HO.lst (cutV (W.ns.map V.int) (some (((W.i + 1 + r.length : Nat) : Int) - (r.length : Int))) (some ((W.i + 1 + r.length : Nat) : Int)))) = _
      rw [e1, cut_eq h2 hlen]
end
end Hg
set_option Elab.async false
set_option linter.all false
set_option maxRecDepth 100000
set_option maxHeartbeats 2000000
namespace L2
open PySem PySem.Spec PyProof.Rows
section
variable {K : PySem.W.Frag} {σ : St} {H : Hp} {tl : TE} {tb : TS} {t : TT} {ts us : TS} {D : Ends} {p : Addr} {n : Nat} {b : Bool}
theorem for_LI {ns : List Int} (hσ : ∃ v, σ = σ.set n v) (hl : Ev tl σ H (.ref p)) (Pv : Nat → Hp → Prop) (h0 : Pv 0 H) (hs : ∀ i H', i ≤ ns.length → Pv i H' → H' p = some (.lst (ns.map V.int)))
    (step : ∀ i x H', ns[i]? = some x → Pv i H' → tb { D with nx := fun σ' H2 => (∃ v, σ' = σ.set n v) ∧ Pv (i + 1) H2, ct := fun σ' H2 => (∃ v, σ' = σ.set n v) ∧ Pv (i + 1) H2, bk := D.nx } (σ.set n (some (.int x))) H')
    (after : ∀ v H', Pv ns.length H' → D.nx (σ.set n v) H') : tFor (iList K tl) (gName n) tb D σ H := by
  refine hl _ ⟨p, rfl, ⟨_, SqL.of (hs 0 H (Nat.zero_le _) h0)⟩, for_list (xs := ns.map V.int) (fun i σ' H' => (∃ v, σ' = σ.set n v) ∧ Pv i H') ⟨hσ, h0⟩ (fun i σ' H' hi q => SqL.of (hs i H' (by rw [List.length_map] at hi; exact hi) q.2)) (fun i x σ' H' hx q => ?_) fun σ' H' q => ?_⟩
  · obtain ⟨⟨v, rfl⟩, q⟩ := q
    rw [List.getElem?_map] at hx
    cases e : ns[i]? with
    | none => rw [e] at hx; cases hx
    | some y =>
      rw [e] at hx
      cases hx
      show tb _ ((σ.set n v).set n (some (.int y))) H'
      rw [List.set_set]
      exact step i y H' e q
  · obtain ⟨⟨v, rfl⟩, q⟩ := q
    rw [List.length_map] at q
    exact after v H' q
theorem for_Tup {ns : List Int} {ta : TA} (h : Ea ta σ H (ns.map V.int)) (hz : ns.length ≤ 1000) (hσ : ∃ v, σ = σ.set n v) (Pv : Nat → Hp → Prop) (hp0 : ∀ H', Same H H' → Pv 0 H')
    (step : ∀ i x H', ns[i]? = some x → Pv i H' → ∀ N : St → Hp → Prop, (∀ v H2, Same H' H2 → Pv (i + 1) H2 → N (σ.set n v) H2) → tb { D with nx := N, ct := N, bk := D.nx } (σ.set n (some (.int x))) H')
    (after : ∀ v H', Pv ns.length H' → D.nx (σ.set n v) H') : tFor (iTup K (tTup ta)) (gName n) tb D σ H := by
  refine h _ ⟨by rw [List.length_map]; exact Nat.le_of_lt (small1000 hz), fun tp htp => ?_⟩
  refine ⟨tp, rfl, ⟨_, SqT.of upd_same⟩, for_tup (xs := ns.map V.int) (fun i σ' H' => (∃ v, σ' = σ.set n v) ∧ H' tp = some (.tup (ns.map V.int)) ∧ Pv i H') ⟨hσ, upd_same, hp0 _ (Same.upd htp)⟩ (fun i σ' H' hi q => SqT.of q.2.1) (fun i x σ' H' hx q => ?_) fun σ' H' q => ?_⟩
  · obtain ⟨⟨v, rfl⟩, q1, q⟩ := q
    rw [List.getElem?_map] at hx
    cases e : ns[i]? with
    | none => rw [e] at hx; cases hx
    | some y =>
      rw [e] at hx
      cases hx
      show tb _ ((σ.set n v).set n (some (.int y))) H'
      rw [List.set_set]
      exact step i y H' e q _ fun v H2 sm q2 => ⟨⟨v, rfl⟩, sm _ _ q1, q2⟩
  · obtain ⟨⟨v, rfl⟩, q1, q⟩ := q
    rw [List.length_map] at q
    exact after v H' q
theorem sq_if_any {Pq : Hp → Prop} (h : Et t σ H b) (h3 : ∀ H', Pq H' → us D σ H') (h1 : b = true → ∀ N : St → Hp → Prop, (∀ H', Pq H' → N σ H') → ts { D with nx := N } σ H) (h2 : b = false → Pq H) : tSeq (tIfS t ts tNext) us D σ H := h _ (by
  cases b with
  | true => exact h1 rfl _ h3
  | false => exact h3 H (h2 rfl))
theorem sq_of {P : Hp → Prop} (h : tb { D with nx := us D } σ H) : tSeq tb us D σ H := h
end
end L2
namespace Hg
open PySem PySem.Spec PyProof.Rows L2
section
variable {P : Program} {w : World} {K : PySem.W.Frag} {mg : Str → Option Value} {base : Heap} {a : Adr} {H H1 : Hp} {g t s d : Addr} {G G1 : GV} {U : UV} {S : SV} {Q : VK} {E : XK} {C dx p x : Addr}
/-! ### a stroke is read -/
structure Sread (K : PySem.W.Frag) (a : Adr) (H H' : Hp) (d : Addr) (W : DV) (h p f : Int) (r g o rest : List Int) (s : Addr) (S : SV) (i' : Nat) : Prop where
  dh : DH K a H' d { W with i := i' }
  rs : W.ns.drop i' = rest
  kp : Kp d H H'
  sh : SH a H' s S
  fs : H s = none
  fr : H S.r = none
  fg : H S.g = none
  fo : H S.o = none
  e1 : S.hit = h
  e2 : S.hoop = p
  e3 : S.fault = f
  e4 : S.ran = r
  e5 : S.peg = g
  e6 : S.off = o
def sp_Reader_stroke (K : PySem.W.Frag) (a : Adr) : Sp := fun vs H Q _ => ∃ (d : Addr) (W : DV) (h p f : Int) (r g o rest : List Int), vs = [.ref d] ∧ DH K a H d W ∧
  W.ns.drop W.i = h :: p :: f :: ((r.length : Int) :: (r ++ ((g.length : Int) :: (g ++ ((o.length : Int) :: (o ++ rest)))))) ∧ ∀ H' s S i', Sread K a H H' d W h p f r g o rest s S i' → Q (.ref s) H'
theorem ok_Reader_stroke (T : Txt K mg a) : FnOk P w K mg base CX0 3 a.Reader_stroke a.Reader_stroke_d ["self"] (sp_Reader_stroke K a) := by
  refine T.F_Reader_stroke.ok sc_Reader_stroke (fun vs H Q E h => ?_) (fun cdv A outer s H vs Q E hr h => ?_)
  · (first | (obtain ⟨rfl, _⟩ := h; rfl) | (obtain ⟨_, rfl, _⟩ := h; rfl) | (obtain ⟨_, _, rfl, _⟩ := h; rfl) | (obtain ⟨_, _, _, rfl, _⟩ := h; rfl) | (obtain ⟨_, _, _, _, rfl, _⟩ := h; rfl) | (obtain ⟨_, _, _, _, _, rfl, _⟩ := h; rfl) | (obtain ⟨_, _, _, _, _, _, rfl, _⟩ := h; rfl) | (obtain ⟨_, _, _, _, _, _, _, rfl, _⟩ := h; rfl) | (obtain ⟨_, _, _, _, _, _, _, _, rfl, _⟩ := h; rfl) | (obtain ⟨_, _, _, _, _, _, _, _, _, rfl, _⟩ := h; rfl) | (obtain ⟨_, _, _, _, _, _, _, _, _, _, rfl, _⟩ := h; rfl) | (obtain ⟨_, _, _, _, _, _, _, _, _, _, _, rfl, _⟩ := h; rfl) | (obtain ⟨_, _, _, _, _, _, _, _, _, _, _, _, rfl, _⟩ := h; rfl) | (obtain ⟨_, _, _, _, _, _, _, _, _, _, _, _, _, rfl, _⟩ := h; rfl) | (obtain ⟨_, _, _, _, _, _, _, _, _, _, _, _, _, _, rfl, _⟩ := h; rfl) | (obtain ⟨_, _, _, _, _, _, _, _, _, _, _, _, _, _, _, rfl, _⟩ := h; rfl))
  · obtain ⟨d, W, h, p, f, r, g, o, rest, rfl, hD, e0, q⟩ := h
    refine ⟨_, (pss_cons (ps_set (i := 1) sc_Reader_stroke.nd rfl (by first | exact Or.inl rfl | exact Or.inr rfl) (pe_meth0 (pv 0) T.c_Reader T.m_Reader_number (ok_Reader_number T) (hr.mono (by decide)) T.b_Reader_number .nil pass0))
      (pss_cons (ps_set (i := 2) sc_Reader_stroke.nd rfl (by first | exact Or.inl rfl | exact Or.inr rfl) (pe_meth0 (pv 0) T.c_Reader T.m_Reader_number (ok_Reader_number T) (hr.mono (by decide)) T.b_Reader_number .nil pass0))
      (pss_cons (ps_set (i := 3) sc_Reader_stroke.nd rfl (by first | exact Or.inl rfl | exact Or.inr rfl) (pe_meth0 (pv 0) T.c_Reader T.m_Reader_number (ok_Reader_number T) (hr.mono (by decide)) T.b_Reader_number .nil pass0))
      (pss_cons (ps_set (i := 4) sc_Reader_stroke.nd rfl (by first | exact Or.inl rfl | exact Or.inr rfl) (pe_meth0 (pv 0) T.c_Reader T.m_Reader_row (ok_Reader_row T) (hr.mono (by decide)) T.b_Reader_row .nil pass0))
      (pss_cons (ps_set (i := 5) sc_Reader_stroke.nd rfl (by first | exact Or.inl rfl | exact Or.inr rfl) (pe_meth0 (pv 0) T.c_Reader T.m_Reader_row (ok_Reader_row T) (hr.mono (by decide)) T.b_Reader_row .nil pass0))
      (pss_cons (ps_set (i := 6) sc_Reader_stroke.nd rfl (by first | exact Or.inl rfl | exact Or.inr rfl) (pe_meth0 (pv 0) T.c_Reader T.m_Reader_row (ok_Reader_row T) (hr.mono (by decide)) T.b_Reader_row .nil pass0))
      (pss_one (ps_ret (pe_make T.k_Stroke (ok_Stroke_init T) (hr.mono (by decide)) (by rfl) T.g_Stroke T.b_Stroke_init .nil pass0 (pa_cons (pv 1) (pa_cons (pv 2) (pa_cons (pv 3) (pa_cons (pv 4) (pa_cons (pv 5) (pa_cons (pv 6) pa_nil))))))))))))))), ?_⟩
    refine meth_of (ev_var rfl) hD.ob rfl ea_nil ⟨d, W, _, _, rfl, hD, e0, fun H1 hD1 k1 => ?_⟩
    have e1 := (drop_at e0).2
    refine meth_of (ev_var rfl) hD1.ob rfl ea_nil ⟨d, _, _, _, rfl, hD1, e1, fun H2 hD2 k2 => ?_⟩
    have e2 := (drop_at e1).2
    refine meth_of (ev_var rfl) hD2.ob rfl ea_nil ⟨d, _, _, _, rfl, hD2, e2, fun H3 hD3 k3 => ?_⟩
    have e3 := (drop_at e2).2
    refine meth_of (ev_var rfl) hD3.ob rfl ea_nil ⟨d, _, _, _, rfl, hD3, e3, fun H4 l1 i1 hD4 e4 k4 f1 c1 => ?_⟩
    refine meth_of (ev_var rfl) hD4.ob rfl ea_nil ⟨d, _, _, _, rfl, hD4, e4, fun H5 l2 i2 hD5 e5 k5 f2 c2 => ?_⟩
    refine meth_of (ev_var rfl) hD5.ob rfl ea_nil ⟨d, _, _, _, rfl, hD5, e5, fun H6 l3 i3 hD6 e6 k6 f3 c3 => ?_⟩
    refine make_of (ea_cons (ev_var rfl) (ea_cons (ev_var rfl) (ea_cons (ev_var rfl) (ea_cons (ev_var rfl) (ea_cons (ev_var rfl) (ea_cons (ev_var rfl) ea_nil)))))) fun x dx hx hdx nx => ?_
    refine ⟨x, dx, ⟨dx, l1, l2, l3, h, p, f, r, g, o⟩, rfl, upd_same, rfl, ?_⟩
    have hx' : (upd H6 dx (.own x)) x = none := by rw [L2.upd_ne (fun e => nx e.symm)]; exact hx
    rw [upd_upd]
    have sm : Same H6 (upd (upd H6 dx (.own x)) x (.ins a.C_Stroke dx (sF ⟨dx, l1, l2, l3, h, p, f, r, g, o⟩))) := (Same.upd hdx).trans (Same.upd hx')
    have k03 := (k1.trans k2).trans k3
    have k04 := k03.trans k4
    have k05 := k04.trans k5
    have k06 := k05.trans k6
    have n1 : l1 ≠ d := ne_of c1 hD4.ob (by intro z; cases z)
    have n2 : l2 ≠ d := ne_of c2 hD5.ob (by intro z; cases z)
    refine q _ x ⟨dx, l1, l2, l3, h, p, f, r, g, o⟩ i3 ⟨hD6.same sm, e6, k06.trans (Kp.same sm), ⟨upd_same, sm _ _ (k6 _ _ (k5 _ _ c1 n1) n1), sm _ _ (k6 _ _ c2 n2), sm _ _ c3⟩, k06.free hD6.ob hx, k03.free hD3.ob f1, k04.free hD4.ob f2, k05.free hD5.ob f3, rfl, rfl, rfl, rfl, rfl, rfl⟩
/-! ### what a stroke counts -/
def h1I (hoop ball : Int) (xs : List Int) : List Int := if decide (hoop = 1) = true then xs.set ball.toNat (pt xs ball + 1) else xs
def ranI (xs : List Int) (b : Int) : List Int := if decide (pt xs b < 12) = true then xs.set b.toNat (pt xs b + 1) else xs
def pegI (xs : List Int) (b : Int) : List Int := if decide (pt xs b = 12) = true then xs.set b.toNat 13 else xs
def pegsI (ball : Int) (peg : List Int) (xs : List Int) : List Int := if decide (pt xs ball = 12) = true then peg.foldl pegI xs else xs
def cntI (xs : List Int) (U : UV) (S : SV) : List Int := if (decide (S.fault = 1) || decide (U.half = 1)) = true then xs else pegsI U.ball S.peg (S.ran.foldl ranI (h1I S.hoop U.ball xs))
theorem ranI_pos {xs : List Int} {b : Int} (h : decide (pt xs b < 12) = true) : ranI xs b = xs.set b.toNat (pt xs b + 1) := if_pos h
theorem ranI_neg {xs : List Int} {b : Int} (h : decide (pt xs b < 12) = false) : ranI xs b = xs := iF h
theorem pegI_pos {xs : List Int} {b : Int} (h : decide (pt xs b = 12) = true) : pegI xs b = xs.set b.toNat 13 := if_pos h
theorem pegI_neg {xs : List Int} {b : Int} (h : decide (pt xs b = 12) = false) : pegI xs b = xs := iF h
theorem h1I_len (h b : Int) (xs : List Int) : (h1I h b xs).length = xs.length := by unfold h1I; split <;> simp
theorem ranI_len (xs : List Int) (b : Int) : (ranI xs b).length = xs.length := by unfold ranI; split <;> simp
theorem pegI_len (xs : List Int) (b : Int) : (pegI xs b).length = xs.length := by unfold pegI; split <;> simp
theorem fold_len {f : List Int → Int → List Int} (hf : ∀ xs b, (f xs b).length = xs.length) : ∀ (l : List Int) (xs : List Int), (l.foldl f xs).length = xs.length
  | [], _ => rfl
  | b :: l, xs => by rw [List.foldl_cons, fold_len hf l, hf]
theorem cntI_len (xs : List Int) (U : UV) (S : SV) : (cntI xs U S).length = xs.length := by
  unfold cntI pegsI
  split
  · rfl
  · split
    · rw [fold_len pegI_len, fold_len ranI_len, h1I_len]
    · rw [fold_len ranI_len, h1I_len]
def In4 (l : List Int) : Prop := ∀ b ∈ l, 0 ≤ b ∧ b < 4
def sp_count_points (a : Adr) : Sp := fun vs H Q _ => ∃ (g t s : Addr) (G : GV) (U : UV) (S : SV), vs = [.ref g, .ref s] ∧ GH a H g G ∧ G.tv = .ref t ∧ UH a H t U ∧ SH a H s S ∧ (0 ≤ U.ball ∧ U.ball < 4) ∧ In4 S.ran ∧ In4 S.peg ∧ S.r ≠ G.p ∧ S.g ≠ G.p ∧
  Q .non (upd H G.p (.lst ((cntI G.xs U S).map V.int)))
theorem UH.upd_ne {o : HO} (h : UH a H t U) (h1 : t ≠ x) (h2 : U.l ≠ x) : UH a (upd H x o) t U := ⟨by rw [L2.upd_ne h1]; exact h.ob, by rw [L2.upd_ne h2]; exact h.lv⟩
theorem ok_count_points (T : Txt K mg a) : FnOk P w K mg base CX0 1 a.count_points a.count_points_d ["game", "stroke"] (sp_count_points a) := by
  refine T.F_count_points.ok sc_count_points (fun vs H Q E h => ?_) (fun cdv A outer s H vs Q E hr h => ?_)
  · (first | (obtain ⟨rfl, _⟩ := h; rfl) | (obtain ⟨_, rfl, _⟩ := h; rfl) | (obtain ⟨_, _, rfl, _⟩ := h; rfl) | (obtain ⟨_, _, _, rfl, _⟩ := h; rfl) | (obtain ⟨_, _, _, _, rfl, _⟩ := h; rfl) | (obtain ⟨_, _, _, _, _, rfl, _⟩ := h; rfl) | (obtain ⟨_, _, _, _, _, _, rfl, _⟩ := h; rfl) | (obtain ⟨_, _, _, _, _, _, _, rfl, _⟩ := h; rfl) | (obtain ⟨_, _, _, _, _, _, _, _, rfl, _⟩ := h; rfl) | (obtain ⟨_, _, _, _, _, _, _, _, _, rfl, _⟩ := h; rfl) | (obtain ⟨_, _, _, _, _, _, _, _, _, _, rfl, _⟩ := h; rfl) | (obtain ⟨_, _, _, _, _, _, _, _, _, _, _, rfl, _⟩ := h; rfl) | (obtain ⟨_, _, _, _, _, _, _, _, _, _, _, _, rfl, _⟩ := h; rfl) | (obtain ⟨_, _, _, _, _, _, _, _, _, _, _, _, _, rfl, _⟩ := h; rfl) | (obtain ⟨_, _, _, _, _, _, _, _, _, _, _, _, _, _, rfl, _⟩ := h; rfl) | (obtain ⟨_, _, _, _, _, _, _, _, _, _, _, _, _, _, _, rfl, _⟩ := h; rfl))
  · obtain ⟨g, t, s, G, U, S, rfl, hG, htv, hU, hS, hb, hr4, hp4, nr, ng, q⟩ := h
    have ntp : t ≠ G.p := ne_of hU.ob hG.pt (by intro z; cases z)
    have nsp : s ≠ G.p := ne_of hS.ob hG.pt (by intro z; cases z)
    refine ⟨_, (pss_cons (ps_set (i := 2) sc_count_points.nd rfl (by first | exact Or.inl rfl | exact Or.inr rfl) (pe_fld (pv 0) (by rfl)))
      (pss_cons (ps_set (i := 3) sc_count_points.nd rfl (by first | exact Or.inl rfl | exact Or.inr rfl) (pe_fld (pv 0) (by rfl)))
      (pss_cons (ps_if (PW.pt (pw_or (pt_cmpR op_eqI (pe_fld (pv 1) (by rfl)) pe_int (nomark _)) (pw_or1 (pt_cmpR op_eqI (pe_fld (pv 2) (by rfl)) pe_int (nomark _))))) (pss_one ps_retN) pss_nil)
      (pss_cons (ps_if (pt_cmpR op_eqI (pe_fld (pv 1) (by rfl)) pe_int (nomark _)) (pss_one (ps_augS (pv 3) (pe_fld (pv 2) (by rfl)) get_list pe_int ip_add set_list)) pss_nil)
      (pss_cons (ps_for PassesOwn.never rfl (pi_list (pe_fld (pv 1) (by rfl))) (pg_name (i := 4) sc_count_points.nd rfl (by first | exact Or.inl rfl | exact Or.inr rfl)) (pss_one (ps_if (pt_cmpR op_lt (pe_ix ix_list (pv 3) (pv 4) (fun _ _ => rfl)) (pe_gi (by rfl) T.g_ALL_HOOPS) (nomark _)) (pss_one (ps_augS (pv 3) (pv 4) get_list pe_int ip_add set_list)) pss_nil)))
      (pss_one (ps_if (pt_cmpR op_eqI (pe_ix ix_list (pv 3) (pe_fld (pv 2) (by rfl)) (fun _ _ => rfl)) (pe_gi (by rfl) T.g_ALL_HOOPS) (nomark _)) (pss_one (ps_for PassesOwn.never rfl (pi_list (pe_fld (pv 1) (by rfl))) (pg_name (i := 4) sc_count_points.nd rfl (by first | exact Or.inl rfl | exact Or.inr rfl)) (pss_one (ps_if (pt_cmpR op_eqI (pe_ix ix_list (pv 3) (pv 4) (fun _ _ => rfl)) (pe_gi (by rfl) T.g_ALL_HOOPS) (nomark _)) (pss_one (ps_asg (pe_gi (by rfl) T.g_OUT) (pg_sub (pv 3) (pv 4) set_list))) pss_nil)))) pss_nil))))))), ?_⟩
    refine sq_set ((ev_fld (ev_var rfl) hG.ob T.c_Game T.n_Game_turn rfl).cast htv) ?_
    refine sq_set (ev_fld (ev_var rfl) hG.ob T.c_Game T.n_Game_points rfl) ?_
    refine sq_if (et_or (et_test (ev_op (ev_fld (ev_var rfl) hS.ob T.c_Stroke T.n_Stroke_fault rfl) ev_c)) (fun hc => (et_test (ev_op (ev_fld (ev_var rfl) hU.ob T.c_Turn T.n_Turn_half rfl) ev_c)))) (fun hc1 => ?_) fun hc1 => ?_
    · unfold cntI at q
      rw [iT hc1, upd_id hG.pt] at q
      exact q
    unfold cntI at q
    rw [iF hc1] at q
    have l1 : (h1I S.hoop U.ball G.xs).length = 4 := (h1I_len _ _ _).trans hG.xl
    refine sq_if_any (Pq := fun H' => H' = upd H G.p (.lst ((h1I S.hoop U.ball G.xs).map V.int))) (et_test (ev_op (ev_fld (ev_var rfl) hS.ob T.c_Stroke T.n_Stroke_hoop rfl) ev_c)) (fun H' e => ?_) (fun hc2 N hN => ?_) fun hc2 => ?_
    · subst e
      generalize h1I S.hoop U.ball G.xs = ys at l1 q ⊢
      have lr : ∀ i, ((S.ran.take i).foldl ranI ys).length = 4 := fun i => (fold_len ranI_len _ _).trans l1
      refine for_LI (ns := S.ran) (p := S.r) ⟨_, rfl⟩ (ev_fld (ev_var rfl) (by rw [L2.upd_ne nsp]; exact hS.ob) T.c_Stroke T.n_Stroke_ran rfl) (fun i H' => H' = upd H G.p (.lst (((S.ran.take i).foldl ranI ys).map V.int))) rfl (fun i H' _ e => ?_) (fun i x H' hx e => ?_) fun v H' e => ?_
      · rw [e, L2.upd_ne nr]; exact hS.rn
      · subst e
        have hx4 := hr4 x (List.mem_of_getElem? hx)
        have et : (S.ran.take (i + 1)).foldl ranI ys = ranI ((S.ran.take i).foldl ranI ys) x := by rw [take_snoc' hx, List.foldl_append]; rfl
        refine st_if (et_test (ev_op (ev_ix (ev_var rfl) (ev_var rfl) upd_same (pt_at (lr i) hx4)) ev_c)) (fun hc3 => ?_) fun hc3 => ?_
        · refine st_aug (ev_var rfl) (ev_var rfl) upd_same (lr i) hx4 ev_c ⟨⟨_, rfl⟩, ?_⟩
          rw [upd_upd, et, ranI_pos hc3]
        · refine st_next ⟨⟨_, rfl⟩, ?_⟩
          rw [et, ranI_neg hc3]
      · subst e
        rw [List.take_length]
        have l2 : (S.ran.foldl ranI ys).length = 4 := (fold_len ranI_len _ _).trans l1
        generalize S.ran.foldl ranI ys = zs at l2 q ⊢
        unfold pegsI at q
        dsimp only
        refine st_if (et_test (ev_op (ev_ix (ev_var rfl) (ev_fld (ev_var rfl) (by rw [L2.upd_ne ntp]; exact hU.ob) T.c_Turn T.n_Turn_ball rfl) upd_same (pt_at l2 hb)) ev_c)) (fun hc4 => ?_) fun hc4 => ?_
        · rw [iT hc4] at q
          have lp : ∀ i, ((S.peg.take i).foldl pegI zs).length = 4 := fun i => (fold_len pegI_len _ _).trans l2
          refine for_LI (ns := S.peg) (p := S.g) ⟨_, rfl⟩ (ev_fld (ev_var rfl) (by rw [L2.upd_ne nsp]; exact hS.ob) T.c_Stroke T.n_Stroke_peg rfl) (fun i H' => H' = upd H G.p (.lst (((S.peg.take i).foldl pegI zs).map V.int))) rfl (fun i H' _ e => ?_) (fun i x H' hx e => ?_) fun v H' e => ?_
          · rw [e, L2.upd_ne ng]; exact hS.pg
          · subst e
            have hx4 := hp4 x (List.mem_of_getElem? hx)
            have et : (S.peg.take (i + 1)).foldl pegI zs = pegI ((S.peg.take i).foldl pegI zs) x := by rw [take_snoc' hx, List.foldl_append]; rfl
            refine st_if (et_test (ev_op (ev_ix (ev_var rfl) (ev_var rfl) upd_same (pt_at (lp i) hx4)) ev_c)) (fun hc3 => ?_) fun hc3 => ?_
            · refine st_put (ev_var rfl) (ev_var rfl) upd_same (lp i) hx4 ev_c ⟨⟨_, rfl⟩, ?_⟩
              rw [upd_upd, et, pegI_pos hc3]
            · refine st_next ⟨⟨_, rfl⟩, ?_⟩
              rw [et, pegI_neg hc3]
          · rw [e, List.take_length]
            exact q
        · rw [iF hc4] at q
          exact st_next q
    · refine st_aug (ev_var rfl) (ev_fld (ev_var rfl) hU.ob T.c_Turn T.n_Turn_ball rfl) hG.pt hG.xl hb ev_c (hN _ ?_)
      unfold h1I
      rw [iT hc2]
    · unfold h1I
      rw [iF hc2, upd_id hG.pt]
theorem use_count_points (hG : GH a H g G) (htv : G.tv = .ref t) (hU : UH a H t U) (hS : SH a H s S) (hb : 0 ≤ U.ball ∧ U.ball < 4) (h1 : In4 S.ran) (h2 : In4 S.peg) (h3 : S.r ≠ G.p) (h4 : S.g ≠ G.p) (q : Q .non (upd H G.p (.lst ((cntI G.xs U S).map V.int)))) :
    sp_count_points a [.ref g, .ref s] H Q E := ⟨g, t, s, G, U, S, rfl, hG, htv, hU, hS, hb, h1, h2, h3, h4, q⟩
/-! ### who has won behind a stroke -/
def winI (xs : List Int) (side time : Int) : Int := if decide (sdp xs side = 2 * 13) = true then side else if decide (sdp xs (1 - side) = 2 * 13) = true then 1 - side else if decide (time = 3) = true then ldr xs else -1
def sp_winner_behind_stroke (a : Adr) : Sp := fun vs H Q _ => ∃ (g : Addr) (G : GV), vs = [.ref g] ∧ GH a H g G ∧ (0 ≤ G.side ∧ G.side < 2) ∧ ∀ H', Same H H' → Q (.int (winI G.xs G.side G.time)) H'
theorem ok_winner_behind_stroke (T : Txt K mg a) : FnOk P w K mg base CX0 3 a.winner_behind_stroke a.winner_behind_stroke_d ["game"] (sp_winner_behind_stroke a) := by
  refine T.F_winner_behind_stroke.ok sc_winner_behind_stroke (fun vs H Q E h => ?_) (fun cdv A outer s H vs Q E hr h => ?_)
  · (first | (obtain ⟨rfl, _⟩ := h; rfl) | (obtain ⟨_, rfl, _⟩ := h; rfl) | (obtain ⟨_, _, rfl, _⟩ := h; rfl) | (obtain ⟨_, _, _, rfl, _⟩ := h; rfl) | (obtain ⟨_, _, _, _, rfl, _⟩ := h; rfl) | (obtain ⟨_, _, _, _, _, rfl, _⟩ := h; rfl) | (obtain ⟨_, _, _, _, _, _, rfl, _⟩ := h; rfl) | (obtain ⟨_, _, _, _, _, _, _, rfl, _⟩ := h; rfl) | (obtain ⟨_, _, _, _, _, _, _, _, rfl, _⟩ := h; rfl) | (obtain ⟨_, _, _, _, _, _, _, _, _, rfl, _⟩ := h; rfl) | (obtain ⟨_, _, _, _, _, _, _, _, _, _, rfl, _⟩ := h; rfl) | (obtain ⟨_, _, _, _, _, _, _, _, _, _, _, rfl, _⟩ := h; rfl) | (obtain ⟨_, _, _, _, _, _, _, _, _, _, _, _, rfl, _⟩ := h; rfl) | (obtain ⟨_, _, _, _, _, _, _, _, _, _, _, _, _, rfl, _⟩ := h; rfl) | (obtain ⟨_, _, _, _, _, _, _, _, _, _, _, _, _, _, rfl, _⟩ := h; rfl) | (obtain ⟨_, _, _, _, _, _, _, _, _, _, _, _, _, _, _, rfl, _⟩ := h; rfl))
  · obtain ⟨g, G, rfl, hG, hsd, q⟩ := h
    refine ⟨_, (pss_cons (ps_for PassesOwn.never rfl (pi_tup (pe_tup (pa_cons (pe_fld (pv 0) (by rfl)) (pa_cons (pe_op op_sub pe_int (pe_fld (pv 0) (by rfl))) pa_nil)))) (pg_name (i := 1) sc_winner_behind_stroke.nd rfl (by first | exact Or.inl rfl | exact Or.inr rfl)) (pss_one (ps_if (pt_cmpR op_eqI (pe_meth (pv 0) T.c_Game T.m_Game_side_points (ok_Game_side_points T) (hr.mono (by decide)) T.b_Game_side_points .nil pass0 (pa_cons (pv 1) pa_nil)) (pe_op op_mul pe_int (pe_gi (by rfl) T.g_OUT)) (nomark _)) (pss_one (ps_ret (pv 1))) pss_nil)))
      (pss_one (ps_ret (pe_ifExp (pt_cmpR op_eqI (pe_fld (pv 0) (by rfl)) (pe_gi (by rfl) T.g_TIME_TILL_ONE_HAS_MORE) (nomark _)) (pe_meth0 (pv 0) T.c_Game T.m_Game_leader (ok_Game_leader T) (hr.mono (by decide)) T.b_Game_leader .nil pass0) (pe_gi (by rfl) T.g_NO_SIDE))))), ?_⟩
    have hG0 := hG
    unfold winI at q
    refine for_Tup (ns := [G.side, 1 - G.side]) (ea_cons (ev_fld (ev_var rfl) hG.ob T.c_Game T.n_Game_side rfl) (ea_cons (ev_op ev_c (ev_fld (ev_var rfl) hG.ob T.c_Game T.n_Game_side rfl)) ea_nil)) (by show 2 ≤ 1000; decide) ⟨_, rfl⟩ (fun i H' => Same H H' ∧ (1 ≤ i → decide (sdp G.xs G.side = 2 * 13) = false) ∧ (2 ≤ i → decide (sdp G.xs (1 - G.side) = 2 * 13) = false)) (fun H' sm => ⟨sm, fun h => absurd h (by decide), fun h => absurd h (by decide)⟩) (fun i x H' hx e N hN => ?_) (fun v H' e => ?_)
    · obtain ⟨sm, e1, e2⟩ := e
      have hG := hG0.same sm
      have hx2 : 0 ≤ x ∧ x < 2 := by
        match i, hx with
        | 0, hx => cases hx; exact hsd
        | 1, hx => cases hx; omega
        | n + 2, hx => simp at hx
      refine st_if (et_test (ev_op (ev_meth (ev_var rfl) hG.ob rfl (ea_cons (ev_var rfl) ea_nil) (fun Q q => use_side_points ?_ hG q)) (ev_opC ev_c ev_c (.inl ⟨by decide, by decide⟩)))) (fun hc1 => st_ret (ev_var rfl) ?_) fun hc1 => st_next (hN _ _ (Same.refl _) ⟨sm, fun h => ?_, fun h => ?_⟩)
      · exact hx2
      · match i, hx with
        | 0, hx =>
          cases hx
          rw [iT hc1] at q
          exact q _ sm
        | 1, hx =>
          cases hx
          rw [iF (e1 (Nat.le_refl _)), iT hc1] at q
          exact q _ sm
        | n + 2, hx => simp at hx
      · match i, hx with
        | 0, hx => cases hx; exact hc1
        | n + 1, hx => exact e1 (Nat.le_add_left _ _)
      · match i, hx with
        | 0, hx => omega
        | 1, hx => cases hx; exact hc1
        | n + 2, hx => simp at hx
    · obtain ⟨sm, e1, e2⟩ := e
      have hG := hG0.same sm
      dsimp only
      refine st_ret (ev_ifI (et_test (ev_op (ev_fld (ev_var rfl) hG.ob T.c_Game T.n_Game_time rfl) ev_c)) (fun hc => (ev_meth (ev_var rfl) hG.ob rfl ea_nil (fun Q q => use_leader hG q))) (fun hc => ev_c)) ?_
      rw [iF (e1 (by show 1 ≤ 2; decide)), iF (e2 (by show 2 ≤ 2; decide))] at q
      exact q _ sm
/-! ### the balls that are live as it hits -/
def liveI (xs : List Int) (U : UV) (S : SV) : List Int := if hoopC U S = true then othI xs U.ball else U.live
def sp_live_as_it_hits (a : Adr) : Sp := fun vs H Q _ => ∃ (g t s : Addr) (G : GV) (U : UV) (S : SV), vs = [.ref g, .ref s] ∧ GH a H g G ∧ G.tv = .ref t ∧ UH a H t U ∧ SH a H s S ∧
  ∀ H' l, Same H H' → H' l = some (.lst ((liveI G.xs U S).map V.int)) → (l = U.l ∨ H l = none) → Q (.ref l) H'
theorem ok_live_as_it_hits (T : Txt K mg a) : FnOk P w K mg base CX0 3 a.live_as_it_hits a.live_as_it_hits_d ["game", "stroke"] (sp_live_as_it_hits a) := by
  refine T.F_live_as_it_hits.ok sc_live_as_it_hits (fun vs H Q E h => ?_) (fun cdv A outer s H vs Q E hr h => ?_)
  · (first | (obtain ⟨rfl, _⟩ := h; rfl) | (obtain ⟨_, rfl, _⟩ := h; rfl) | (obtain ⟨_, _, rfl, _⟩ := h; rfl) | (obtain ⟨_, _, _, rfl, _⟩ := h; rfl) | (obtain ⟨_, _, _, _, rfl, _⟩ := h; rfl) | (obtain ⟨_, _, _, _, _, rfl, _⟩ := h; rfl) | (obtain ⟨_, _, _, _, _, _, rfl, _⟩ := h; rfl) | (obtain ⟨_, _, _, _, _, _, _, rfl, _⟩ := h; rfl) | (obtain ⟨_, _, _, _, _, _, _, _, rfl, _⟩ := h; rfl) | (obtain ⟨_, _, _, _, _, _, _, _, _, rfl, _⟩ := h; rfl) | (obtain ⟨_, _, _, _, _, _, _, _, _, _, rfl, _⟩ := h; rfl) | (obtain ⟨_, _, _, _, _, _, _, _, _, _, _, rfl, _⟩ := h; rfl) | (obtain ⟨_, _, _, _, _, _, _, _, _, _, _, _, rfl, _⟩ := h; rfl) | (obtain ⟨_, _, _, _, _, _, _, _, _, _, _, _, _, rfl, _⟩ := h; rfl) | (obtain ⟨_, _, _, _, _, _, _, _, _, _, _, _, _, _, rfl, _⟩ := h; rfl) | (obtain ⟨_, _, _, _, _, _, _, _, _, _, _, _, _, _, _, rfl, _⟩ := h; rfl))
  · obtain ⟨g, t, s, G, U, S, rfl, hG, htv, hU, hS, q⟩ := h
    refine ⟨_, (pss_cons (ps_set (i := 2) sc_live_as_it_hits.nd rfl (by first | exact Or.inl rfl | exact Or.inr rfl) (pe_fld (pv 0) (by rfl)))
      (pss_one (ps_ret (pe_ifExp (pt_val (pe_call (ok_hoop_counts T) (hr.mono (by decide)) (by rfl) T.g_hoop_counts T.F_hoop_counts.kp T.b_hoop_counts .nil pass0 (pa_cons (pv 2) (pa_cons (pv 1) pa_nil)))) (pe_meth (pv 0) T.c_Game T.m_Game_others_in_play (ok_Game_others_in_play T) (hr.mono (by decide)) T.b_Game_others_in_play .nil pass0 (pa_cons (pe_fld (pv 2) (by rfl)) pa_nil)) (pe_fld (pv 2) (by rfl)))))), ?_⟩
    refine sq_set ((ev_fld (ev_var rfl) hG.ob T.c_Game T.n_Game_turn rfl).cast htv) ?_
    unfold liveI at q
    refine (et_b (ev_call (ea_cons (ev_var rfl) (ea_cons (ev_var rfl) ea_nil)) (fun Q q => use_hoop_counts hU hS q))) _ ?_
    cases hc : hoopC U S with
    | true =>
      rw [hc] at q
      refine iteT (meth_of (ev_var rfl) hG.ob rfl (ea_cons (ev_fld (ev_var rfl) hU.ob T.c_Turn T.n_Turn_ball rfl) ea_nil) ⟨g, G, _, rfl, hG, fun l hl => ?_⟩)
      exact q _ l (Same.upd hl) upd_same (.inr hl)
    | false =>
      rw [hc] at q
      exact iteF ((ev_fld (ev_var rfl) hU.ob T.c_Turn T.n_Turn_live rfl) _ (q H U.l (Same.refl H) hU.lv (.inl rfl)))
end
end Hg
set_option Elab.async false
set_option linter.all false
set_option maxRecDepth 100000
set_option maxHeartbeats 2000000
namespace Hg
open PySem PySem.Spec PyProof.Rows L2
section
variable {P : Program} {w : World} {K : PySem.W.Frag} {mg : Str → Option Value} {base : Heap} {a : Adr} {H H1 : Hp} {g t s d : Addr} {G G1 : GV} {U : UV} {S : SV} {Q : VK} {E : XK} {C dx p x : Addr}
theorem use_loses {b : Bool} (hG : GH a H g G) (htv : G.tv = .ref t) (hU : UH a H t U) (hS : SH a H s S) (hb : 0 ≤ U.ball ∧ U.ball < 4) (hbs : U.beside = -1 ∨ (0 ≤ U.beside ∧ U.beside < 4)) (q : Q (.bl (losesI G.xs U S b)) H) : sp_loses_turn a [.ref g, .ref s, .bl b] H Q E :=
  ⟨g, t, s, G, U, S, b, rfl, hG, htv, hU, hS, hb, hbs, q⟩
theorem use_earns {b : Bool} (hU : UH a H t U) (hS : SH a H s S) (q : Q (.bl (earnsI U S b)) H) : sp_earns_stroke a [.ref t, .ref s, .bl b] H Q E := ⟨t, s, U, S, b, rfl, hU, hS, q⟩
theorem use_end_turn (hG : GH a H g G) (htv : G.tv = .ref t) (hU : UH a H t U) (hb : 0 ≤ U.ball ∧ U.ball < 4) (q : Q .non (upd H g (.ins a.C_Game G.dx (gF (ended G U))))) : sp_end_turn a [.ref g] H Q E := ⟨g, t, G, U, rfl, hG, htv, hU, hb, q⟩
theorem SH.upd_ne {o : HO} (h : SH a H s S) (h1 : s ≠ x) (h2 : S.r ≠ x) (h3 : S.g ≠ x) (h4 : S.o ≠ x) : SH a (upd H x o) s S :=
  ⟨by rw [L2.upd_ne h1]; exact h.ob, by rw [L2.upd_ne h2]; exact h.rn, by rw [L2.upd_ne h3]; exact h.pg, by rw [L2.upd_ne h4]; exact h.of⟩
/-- no list of the stroke is at an instance -/
theorem SH.upd_t {o : HO} (h : SH a H s S) (hU : UH a H t U) : SH a (upd H t o) s S :=
  h.upd_ne (ne_of h.ob hU.ob (by intro z; have z := congrArg List.length (HO.ins.inj z).2.2; cases z)) (ne_of h.rn hU.ob (by intro z; cases z)) (ne_of h.pg hU.ob (by intro z; cases z)) (ne_of h.of hU.ob (by intro z; cases z))
theorem GH.upd_t {o : HO} (h : GH a H g G) (hU : UH a H t U) : GH a (upd H t o) g G :=
  h.upd_ne (ob_ne h hU).symm (ne_of h.pt hU.ob (by intro z; cases z)) (ne_of h.ht hU.ob (by intro z; cases z))
def besI (xs lv : List Int) (hit : Int) : Int := if (decide (hit ∈ lv) && !decide (pt xs hit = 13)) = true then hit else -1
def nliv (xs lv : List Int) (hit : Int) : List Int := lv.filter fun b => decide (b ≠ hit) && !decide (pt xs b = 13)
def nextU (xs lv : List Int) (U : UV) (hit : Int) (l : Addr) : UV := { U with beside := besI xs lv hit, l := l, live := nliv xs lv hit }
def overI (xs lv : List Int) (U : UV) (S : SV) : Bool := losesI xs U S (decide (S.hit ∈ lv)) || !earnsI U S (decide (S.hit ∈ lv))
def sp_prepare_next_stroke (a : Adr) : Sp := fun vs H Q _ => ∃ (g t s l : Addr) (G : GV) (U : UV) (S : SV) (lv : List Int), vs = [.ref g, .ref s, .ref l] ∧ GH a H g G ∧ G.tv = .ref t ∧ UH a H t U ∧ SH a H s S ∧ H l = some (.lst (lv.map V.int)) ∧ In4 lv ∧ lv.length ≤ 1000 ∧
  (0 ≤ U.ball ∧ U.ball < 4) ∧ (U.beside = -1 ∨ (0 ≤ U.beside ∧ U.beside < 4)) ∧ (overI G.xs lv U S = true → Q .non (upd H g (.ins a.C_Game G.dx (gF (ended G U))))) ∧
  (overI G.xs lv U S = false → ∀ l', H l' = none → Q .non (upd (upd H l' (.lst ((nliv G.xs lv S.hit).map V.int))) t (.ins a.C_Turn U.dx (tF (nextU G.xs lv U S.hit l')))))
theorem ok_prepare_next_stroke (T : Txt K mg a) : FnOk P w K mg base CX0 5 a.prepare_next_stroke a.prepare_next_stroke_d ["game", "stroke", "live"] (sp_prepare_next_stroke a) := by
  refine T.F_prepare_next_stroke.ok sc_prepare_next_stroke (fun vs H Q E h => ?_) (fun cdv A outer s H vs Q E hr h => ?_)
  · (first | (obtain ⟨rfl, _⟩ := h; rfl) | (obtain ⟨_, rfl, _⟩ := h; rfl) | (obtain ⟨_, _, rfl, _⟩ := h; rfl) | (obtain ⟨_, _, _, rfl, _⟩ := h; rfl) | (obtain ⟨_, _, _, _, rfl, _⟩ := h; rfl) | (obtain ⟨_, _, _, _, _, rfl, _⟩ := h; rfl) | (obtain ⟨_, _, _, _, _, _, rfl, _⟩ := h; rfl) | (obtain ⟨_, _, _, _, _, _, _, rfl, _⟩ := h; rfl) | (obtain ⟨_, _, _, _, _, _, _, _, rfl, _⟩ := h; rfl) | (obtain ⟨_, _, _, _, _, _, _, _, _, rfl, _⟩ := h; rfl) | (obtain ⟨_, _, _, _, _, _, _, _, _, _, rfl, _⟩ := h; rfl) | (obtain ⟨_, _, _, _, _, _, _, _, _, _, _, rfl, _⟩ := h; rfl) | (obtain ⟨_, _, _, _, _, _, _, _, _, _, _, _, rfl, _⟩ := h; rfl) | (obtain ⟨_, _, _, _, _, _, _, _, _, _, _, _, _, rfl, _⟩ := h; rfl) | (obtain ⟨_, _, _, _, _, _, _, _, _, _, _, _, _, _, rfl, _⟩ := h; rfl) | (obtain ⟨_, _, _, _, _, _, _, _, _, _, _, _, _, _, _, rfl, _⟩ := h; rfl))
  · obtain ⟨g, t, s, l, G, U, S, lv, rfl, hG, htv, hU, hS, hl, h4, hz, hb, hbs, q1, q2⟩ := h
    refine ⟨_, (pss_cons (ps_set (i := 3) sc_prepare_next_stroke.nd rfl (by first | exact Or.inl rfl | exact Or.inr rfl) (pe_fld (pv 0) (by rfl)))
      (pss_cons (ps_set (i := 4) sc_prepare_next_stroke.nd rfl (by first | exact Or.inl rfl | exact Or.inr rfl) (pe_cmpR op_inI (pe_fld (pv 1) (by rfl)) (pv 2) (by with_unfolding_all rfl)))
      (pss_cons (ps_if (PW.pt (pw_or (pt_val (pe_call (ok_loses_turn T) (hr.mono (by decide)) (by rfl) T.g_loses_turn T.F_loses_turn.kp T.b_loses_turn .nil pass0 (pa_cons (pv 0) (pa_cons (pv 1) (pa_cons (pv 4) pa_nil))))) (pw_or1 (pt_not (pt_val (pe_call (ok_earns_stroke T) (hr.mono (by decide)) (by rfl) T.g_earns_stroke T.F_earns_stroke.kp T.b_earns_stroke .nil pass0 (pa_cons (pv 3) (pa_cons (pv 1) (pa_cons (pv 4) pa_nil))))))))) (pss_cons (ps_expr (pe_call (ok_end_turn T) (hr.mono (by decide)) (by rfl) T.g_end_turn T.F_end_turn.kp T.b_end_turn .nil pass0 (pa_cons (pv 0) pa_nil)))
      (pss_one ps_retN)) pss_nil)
      (pss_cons (ps_fld (pv 3) (pe_ifExp (PW.pt (pw_and (pt_val (pv 4)) (pw_and1 (pt_not (pt_val (pe_meth (pv 0) T.c_Game T.m_Game_is_out (ok_Game_is_out T) (hr.mono (by decide)) T.b_Game_is_out .nil pass0 (pa_cons (pe_fld (pv 1) (by rfl)) pa_nil))))))) (pe_fld (pv 1) (by rfl)) (pe_gi (by rfl) T.g_NO_BALL)) rfl)
      (pss_one (ps_fld (pv 3) (pe_lc (own := [("ball", 5)]) rfl sc_prepare_next_stroke.nd (pi_list (pv 2)) (blkOk_by (by rfl)) (fun _ _ _ _ _ => pg_name (i := 5) sc_prepare_next_stroke.nd rfl (Or.inl rfl)) (fun _ _ _ _ _ => (pts_one (PW.pt (pw_and (pt_cmpR op_neI (pv 5) (pe_fldK K (pv 1)) (nomark _)) (pw_and1 (pt_not (pt_val (pe_meth (pv 0) T.c_Game T.m_Game_is_out (ok_Game_is_out T) (hr.mono (by decide)) T.b_Game_is_out .nil pass0 (pa_cons (pv 5) pa_nil))))))))) (fun _ _ _ _ _ => (pv 5))) rfl)))))), ?_⟩
    refine sq_set ((ev_fld (ev_var rfl) hG.ob T.c_Game T.n_Game_turn rfl).cast htv) ?_
    refine sq_set (ev_inL (ev_fld (ev_var rfl) hS.ob T.c_Stroke T.n_Stroke_hit rfl) (ev_var rfl) hl) ?_
    refine sq_if (et_or (et_b (ev_call (ea_cons (ev_var rfl) (ea_cons (ev_var rfl) (ea_cons (ev_var rfl) ea_nil))) (fun Q q => use_loses hG htv hU hS hb hbs q))) (fun hc => (et_not (et_b (ev_call (ea_cons (ev_var rfl) (ea_cons (ev_var rfl) (ea_cons (ev_var rfl) ea_nil))) (fun Q q => use_earns hU hS q)))))) (fun hc1 => ?_) fun hc1 => ?_
    · refine sq_call (ea_cons (ev_var rfl) ea_nil) (use_end_turn hG htv hU hb ?_)
      exact q1 hc1
    · have q := q2 hc1
      refine sq_fld (ev_ifI (et_and (et_b (ev_var rfl)) (fun hc => (et_not (et_b (ev_meth (ev_var rfl) hG.ob rfl (ea_cons (ev_fld (ev_var rfl) hS.ob T.c_Stroke T.n_Stroke_hit rfl) ea_nil) (fun Q q => use_is_out ?_ hG q)))))) (fun hc => (ev_fld (ev_var rfl) hS.ob T.c_Stroke T.n_Stroke_hit rfl)) (fun hc => ev_c)) (ev_var rfl) hU.ob T.c_Turn T.n_Turn_beside tF_len ?_
      · exact h4 _ (of_decide_eq_true hc)
      have hU1 : UH a (upd H t (.ins a.C_Turn U.dx (putF ("beside" : Str) (.int (besI G.xs lv S.hit)) (tF U)))) t { U with beside := besI G.xs lv S.hit } := ⟨upd_same, by rw [L2.upd_ne (ne_of hU.lv hU.ob (by intro z; cases z))]; exact hU.lv⟩
      have hG1 : GH a (upd H t (.ins a.C_Turn U.dx (putF ("beside" : Str) (.int (besI G.xs lv S.hit)) (tF U)))) g G := hG.upd_t hU
      have hS1 : SH a (upd H t (.ins a.C_Turn U.dx (putF ("beside" : Str) (.int (besI G.xs lv S.hit)) (tF U)))) s S := hS.upd_t hU
      have hl1 : (upd H t (.ins a.C_Turn U.dx (putF ("beside" : Str) (.int (besI G.xs lv S.hit)) (tF U)))) l = some (.lst (lv.map V.int)) := by rw [L2.upd_ne (ne_of hl hU.ob (by intro z; cases z))]; exact hl
      refine lc_LI (ns := lv) (fun b => decide (b ≠ S.hit) && !decide (pt G.xs b = 13)) V.int (ev_var rfl) (fun H' sm => SqL.of (sm _ _ hl1)) hz (fun x hx H' sm => ?_) (fun x hx hf H' sm => ev_var rfl) fun D hD => ?_
      · have hG := hG1.same sm
        have hS := hS1.same sm
        refine (et_and (et_test (ev_op (ev_var rfl) (ev_fld (ev_var rfl) hS.ob T.c_Stroke T.n_Stroke_hit rfl))) (fun hc => (et_not (et_b (ev_meth (ev_var rfl) hG.ob rfl (ea_cons (ev_var rfl) ea_nil) (fun Q q => use_is_out ?_ hG q))))))
        exact h4 x hx
      · have nD : D ≠ t := fun e => by rw [e, upd_same] at hD; cases hD
        have hD0 : H D = none := by rw [L2.upd_ne nD] at hD; exact hD
        refine (ev_var rfl) _ ⟨t, _, _, _, rfl, (by rw [L2.upd_ne (fun e => nD e.symm)]; exact upd_same), T.c_Turn, T.n_Turn_live, (by show 7 < 1000; decide), ?_⟩
        rw [upd_swap]
        exact q D hD0
/-! ### a stroke -/
def Frm (g p t : Addr) (H H' : Hp) : Prop := ∀ b o, H b = some o → b ≠ g → b ≠ p → b ≠ t → H' b = some o
def strk (U : UV) : UV := { U with strokes := U.strokes + 1 }
def aft (G : GV) (U : UV) (S : SV) : GV := { G with xs := cntI G.xs U S, winner := winI (cntI G.xs U S) G.side G.time }
def sp_play_stroke (a : Adr) : Sp := fun vs H Q _ => ∃ (g t s : Addr) (G : GV) (U : UV) (S : SV), vs = [.ref g, .ref s] ∧ GH a H g G ∧ G.tv = .ref t ∧ UH a H t U ∧ SH a H s S ∧ (0 ≤ U.ball ∧ U.ball < 4) ∧ (U.beside = -1 ∨ (0 ≤ U.beside ∧ U.beside < 4)) ∧
  In4 S.ran ∧ In4 S.peg ∧ S.r ≠ G.p ∧ S.g ≠ G.p ∧ S.o ≠ G.p ∧ U.l ≠ G.p ∧ In4 (liveI G.xs U S) ∧ (liveI G.xs U S).length ≤ 1000 ∧ (0 ≤ G.side ∧ G.side < 2) ∧
  (∀ H', (aft G U S).winner ≠ -1 → GH a H' g (aft G U S) → Frm g G.p t H H' → H' t ≠ none → Q .non H') ∧
  (∀ H', (aft G U S).winner = -1 → overI (aft G U S).xs (liveI G.xs U S) (strk U) S = true → GH a H' g (ended (aft G U S) (strk U)) → Frm g G.p t H H' → H' t ≠ none → Q .non H') ∧
  (∀ H' l', (aft G U S).winner = -1 → overI (aft G U S).xs (liveI G.xs U S) (strk U) S = false → GH a H' g (aft G U S) → UH a H' t (nextU (aft G U S).xs (liveI G.xs U S) (strk U) S.hit l') → H l' = none → Frm g G.p t H H' → H' t ≠ none → Q .non H')
theorem ok_play_stroke (T : Txt K mg a) : FnOk P w K mg base CX0 6 a.play_stroke a.play_stroke_d ["game", "stroke"] (sp_play_stroke a) := by
  refine T.F_play_stroke.ok sc_play_stroke (fun vs H Q E h => ?_) (fun cdv A outer s H vs Q E hr h => ?_)
  · (first | (obtain ⟨rfl, _⟩ := h; rfl) | (obtain ⟨_, rfl, _⟩ := h; rfl) | (obtain ⟨_, _, rfl, _⟩ := h; rfl) | (obtain ⟨_, _, _, rfl, _⟩ := h; rfl) | (obtain ⟨_, _, _, _, rfl, _⟩ := h; rfl) | (obtain ⟨_, _, _, _, _, rfl, _⟩ := h; rfl) | (obtain ⟨_, _, _, _, _, _, rfl, _⟩ := h; rfl) | (obtain ⟨_, _, _, _, _, _, _, rfl, _⟩ := h; rfl) | (obtain ⟨_, _, _, _, _, _, _, _, rfl, _⟩ := h; rfl) | (obtain ⟨_, _, _, _, _, _, _, _, _, rfl, _⟩ := h; rfl) | (obtain ⟨_, _, _, _, _, _, _, _, _, _, rfl, _⟩ := h; rfl) | (obtain ⟨_, _, _, _, _, _, _, _, _, _, _, rfl, _⟩ := h; rfl) | (obtain ⟨_, _, _, _, _, _, _, _, _, _, _, _, rfl, _⟩ := h; rfl) | (obtain ⟨_, _, _, _, _, _, _, _, _, _, _, _, _, rfl, _⟩ := h; rfl) | (obtain ⟨_, _, _, _, _, _, _, _, _, _, _, _, _, _, rfl, _⟩ := h; rfl) | (obtain ⟨_, _, _, _, _, _, _, _, _, _, _, _, _, _, _, rfl, _⟩ := h; rfl))
  · obtain ⟨g, t, s, G, U, S, rfl, hG, htv, hU, hS, hb, hbs, i1, i2, n1, n2, n3, n4, i3, z3, hsd, q1, q2, q3⟩ := h
    refine ⟨_, (pss_cons (ps_set (i := 2) sc_play_stroke.nd rfl (by first | exact Or.inl rfl | exact Or.inr rfl) (pe_call (ok_live_as_it_hits T) (hr.mono (by decide)) (by rfl) T.g_live_as_it_hits T.F_live_as_it_hits.kp T.b_live_as_it_hits .nil pass0 (pa_cons (pv 0) (pa_cons (pv 1) pa_nil))))
      (pss_cons (ps_fldaug (pe_fld (pv 0) (by rfl)) pe_int in_add)
      (pss_cons (ps_expr (pe_call (ok_count_points T) (hr.mono (by decide)) (by rfl) T.g_count_points T.F_count_points.kp T.b_count_points .nil pass0 (pa_cons (pv 0) (pa_cons (pv 1) pa_nil))))
      (pss_cons (ps_fld (pv 0) (pe_call (ok_winner_behind_stroke T) (hr.mono (by decide)) (by rfl) T.g_winner_behind_stroke T.F_winner_behind_stroke.kp T.b_winner_behind_stroke .nil pass0 (pa_cons (pv 0) pa_nil)) rfl)
      (pss_one (ps_if (pt_cmpR op_eqI (pe_fld (pv 0) (by rfl)) (pe_gi (by rfl) T.g_NO_SIDE) (nomark _)) (pss_one (ps_expr (pe_call (ok_prepare_next_stroke T) (hr.mono (by decide)) (by rfl) T.g_prepare_next_stroke T.F_prepare_next_stroke.kp T.b_prepare_next_stroke .nil pass0 (pa_cons (pv 0) (pa_cons (pv 1) (pa_cons (pv 2) pa_nil)))))) pss_nil)))))), ?_⟩
    refine call_of (ea_cons (ev_var rfl) (ea_cons (ev_var rfl) ea_nil)) ⟨g, t, s, G, U, S, rfl, hG, htv, hU, hS, fun H1 l sm hl fl => ?_⟩
    have nlp : l ≠ G.p := by
      rcases fl with e | e
      · rw [e]; exact n4
      · exact fun z => by rw [z, hG.pt] at e; cases e
    have hG1 := hG.same sm
    have hU1 := hU.same sm
    have hS1 := hS.same sm
    refine sq_fldaug ((ev_fld (ev_var rfl) hG1.ob T.c_Game T.n_Game_turn rfl).cast htv) hU1.ob T.c_Turn T.n_Turn_strokes rfl ev_c tF_len ?_
    have hG2 : GH a (upd H1 t (.ins a.C_Turn U.dx (putF ("strokes" : Str) (.int (U.strokes + 1)) (tF U)))) g G := hG1.upd_t hU1
    have hS2 : SH a (upd H1 t (.ins a.C_Turn U.dx (putF ("strokes" : Str) (.int (U.strokes + 1)) (tF U)))) s S := hS1.upd_t hU1
    have hU2 : UH a (upd H1 t (.ins a.C_Turn U.dx (putF ("strokes" : Str) (.int (U.strokes + 1)) (tF U)))) t (strk U) := ⟨upd_same, by
      show (upd _ _ _) U.l = _
      rw [L2.upd_ne (ne_of hU1.lv hU1.ob (by intro z; cases z))]; exact hU1.lv⟩
    have hl2 : (upd H1 t (.ins a.C_Turn U.dx (putF ("strokes" : Str) (.int (U.strokes + 1)) (tF U)))) l = some (.lst ((liveI G.xs U S).map V.int)) := by rw [L2.upd_ne (ne_of hl hU1.ob (by intro z; cases z))]; exact hl
    have f2 : Frm g G.p t H (upd H1 t (.ins a.C_Turn U.dx (putF ("strokes" : Str) (.int (U.strokes + 1)) (tF U)))) := fun b o e _ _ n => by rw [L2.upd_ne n]; exact sm b o e
    generalize upd H1 t (.ins a.C_Turn U.dx (putF ("strokes" : Str) (.int (U.strokes + 1)) (tF U))) = H2 at hG2 hS2 hU2 hl2 f2 ⊢
    refine sq_call (ea_cons (ev_var rfl) (ea_cons (ev_var rfl) ea_nil)) (use_count_points hG2 htv hU2 hS2 hb i1 i2 n1 n2 ?_)
    have hG3 : GH a (upd H2 G.p (.lst ((cntI G.xs U S).map V.int))) g { G with xs := cntI G.xs U S } := ⟨by rw [L2.upd_ne hG2.pg.symm]; exact hG2.ob, upd_same, by
      show (upd _ _ _) G.h = _
      rw [L2.upd_ne hG2.php.symm]; exact hG2.ht, (cntI_len _ _ _).trans hG2.xl, hG2.ml⟩
    have hU3 : UH a (upd H2 G.p (.lst ((cntI G.xs U S).map V.int))) t (strk U) := hU2.upd_ne (ne_of hU2.ob hG2.pt (by intro z; cases z)) n4
    have hS3 : SH a (upd H2 G.p (.lst ((cntI G.xs U S).map V.int))) s S := hS2.upd_ne (ne_of hS2.ob hG2.pt (by intro z; cases z)) n1 n2 n3
    have hl3 : (upd H2 G.p (.lst ((cntI G.xs U S).map V.int))) l = some (.lst ((liveI G.xs U S).map V.int)) := by rw [L2.upd_ne nlp]; exact hl2
    have f3 : Frm g G.p t H (upd H2 G.p (.lst ((cntI G.xs U S).map V.int))) := fun b o e h1 h2 h3 => by rw [L2.upd_ne h2]; exact f2 b o e h1 h2 h3
    have ce : cntI G.xs (strk U) S = cntI G.xs U S := rfl
    rw [ce]
    generalize upd H2 G.p (.lst ((cntI G.xs U S).map V.int)) = H3 at hG3 hU3 hS3 hl3 f3 ⊢
    refine call_of (ea_cons (ev_var rfl) ea_nil) ⟨g, _, rfl, hG3, hsd, fun H4 sm4 => ?_⟩
    have hG4 := hG3.same sm4
    refine (ev_var rfl) _ ⟨g, _, _, _, rfl, hG4.ob, T.c_Game, T.n_Game_winner, gF_len, ?_⟩
    have hG5 : GH a (upd H4 g (.ins a.C_Game G.dx (putF ("winner" : Str) (.int (winI (cntI G.xs U S) G.side G.time)) (gF { G with xs := cntI G.xs U S })))) g (aft G U S) := hG4.put (G1 := aft G U S) rfl rfl rfl rfl rfl
    have hU5 : UH a (upd H4 g (.ins a.C_Game G.dx (putF ("winner" : Str) (.int (winI (cntI G.xs U S) G.side G.time)) (gF { G with xs := cntI G.xs U S })))) t (strk U) := (hU3.same sm4).put hG4
    have hS5 : SH a (upd H4 g (.ins a.C_Game G.dx (putF ("winner" : Str) (.int (winI (cntI G.xs U S) G.side G.time)) (gF { G with xs := cntI G.xs U S })))) s S := (hS3.same sm4).put hG4
    have hl5 : (upd H4 g (.ins a.C_Game G.dx (putF ("winner" : Str) (.int (winI (cntI G.xs U S) G.side G.time)) (gF { G with xs := cntI G.xs U S })))) l = some (.lst ((liveI G.xs U S).map V.int)) := by rw [L2.upd_ne (ne_of (sm4 _ _ hl3) hG4.ob (by intro z; cases z))]; exact sm4 _ _ hl3
    have f5 : Frm g G.p t H (upd H4 g (.ins a.C_Game G.dx (putF ("winner" : Str) (.int (winI (cntI G.xs U S) G.side G.time)) (gF { G with xs := cntI G.xs U S })))) := fun b o e h1 h2 h3 => by rw [L2.upd_ne h1]; exact sm4 _ _ (f3 b o e h1 h2 h3)
    generalize upd H4 g (.ins a.C_Game G.dx (putF ("winner" : Str) (.int (winI (cntI G.xs U S) G.side G.time)) (gF { G with xs := cntI G.xs U S }))) = H5 at hG5 hU5 hS5 hl5 f5 ⊢
    dsimp only
    refine st_if (et_test (ev_op (ev_fld (ev_var rfl) hG5.ob T.c_Game T.n_Game_winner rfl) ev_c)) (fun hc1 => ?_) fun hc1 => ?_
    · have hw : (aft G U S).winner = -1 := of_decide_eq_true hc1
      refine st_call (ea_cons (ev_var rfl) (ea_cons (ev_var rfl) (ea_cons (ev_var rfl) ea_nil))) ⟨g, t, s, l, _, _, S, _, rfl, hG5, htv, hU5, hS5, hl5, i3, z3, hb, hbs, fun ho => ?_, fun ho l' hl' => ?_⟩
      · have e : H5 g = some (.ins a.C_Game (aft G U S).dx (gF (aft G U S))) := hG5.ob
        refine q2 _ hw ho (hG5.put (G1 := ended (aft G U S) (strk U)) ?_ ?_ ?_ ?_ ?_) (fun b o e h1 h2 h3 => by rw [L2.upd_ne h1]; exact f5 b o e h1 h2 h3) (by rw [L2.upd_ne (ob_ne hG5 hU5), hU5.ob]; intro z; cases z)
        · show upd H5 g (.ins a.C_Game (aft G U S).dx _) = upd H5 g (.ins a.C_Game (handed _ _).dx _)
          rw [handed_dx]
        · exact handed_p _ _
        · exact handed_h _ _
        · exact handed_xs _ _
        · exact handed_ms _ _
      · have ntl : t ≠ l' := fun e => by rw [← e, hU5.ob] at hl'; cases hl'
        have hfl : H l' = none := by
          cases e : H l' with
          | none => rfl
          | some o =>
            have := f5 l' o e (fun z => by rw [z, hG5.ob] at hl'; cases hl') (fun z => by
              have z2 := hG5.pt
              rw [show (aft G U S).p = l' from z.symm, hl'] at z2; cases z2) (fun z => ntl z.symm)
            rw [hl'] at this; cases this
        have sm6 : Same H5 (upd H5 l' (.lst ((nliv (aft G U S).xs (liveI G.xs U S) S.hit).map V.int))) := Same.upd hl'
        refine q3 _ l' hw ho ((hG5.same sm6).upd_t (hU5.same sm6)) ⟨upd_same, ?_⟩ hfl (fun b o e h1 h2 h3 => by rw [L2.upd_ne h3]; exact sm6 _ _ (f5 b o e h1 h2 h3)) (by rw [upd_same]; intro z; cases z)
        show (upd _ t _) l' = _
        rw [L2.upd_ne ntl.symm]
        exact upd_same
    · exact st_next (q1 _ (of_decide_eq_false hc1) hG5 f5 (by rw [hU5.ob]; intro z; cases z))
end
end Hg
set_option Elab.async false
set_option linter.all false
set_option maxRecDepth 100000
set_option maxHeartbeats 2000000
namespace L2
open PySem PySem.Spec PyProof.Rows
section
variable {K : PySem.W.Frag} {σ : St} {H : Hp} {tl te : TE} {n : Nat} {p : Addr} {ns : List Int}
/-- a list of ints comes out; the heap may grow -/
def El (K : PySem.W.Frag) (t : TE) (σ : St) (H : Hp) (ns : List Int) : Prop := ∀ R : VK, (∀ H1 p, Same H H1 → SqL K H1 p (ns.map V.int) → R (.ref p) H1) → t σ H R
theorem Ev.el (h : Ev tl σ H (.ref p)) (hs : SqL K H p (ns.map V.int)) : El K tl σ H ns := fun R q => h _ (q H p (Same.refl H) hs)
theorem lc_B (b : Int → Bool) (hl : El K tl σ H ns) (hz : ns.length ≤ 1000) (he : ∀ x ∈ ns, ∀ H', Same H H' → Ev te ((wipe σ [n]).set n (some (.int x))) H' (.bl (b x)))
    {Q : VK} (q : ∀ D H', Same H H' → H' D = some (.lst ((ns.map b).map V.bl)) → Q (.ref D) H') : tLc (iList K tl) (gName n) tYes te [n] σ H Q := by
  refine hl _ fun H1 p sm sq => ?_
  have z : tLc (iList K (tC (.ref p))) (gName n) tYes te [n] σ H1 Q := by
    refine lc_LI (ns := ns) (fun _ => true) (fun x => .bl (b x)) ev_c (fun H' s => s.seq sq) hz (fun x hx H' s => et_yes) (fun x hx _ H' s => he x hx H' (sm.trans s)) fun D hD => ?_
    refine q D _ (sm.trans (Same.upd hD)) ?_
    rw [upd_same, List.filter_eq_self.mpr (fun _ _ => rfl), List.map_map]
    rfl
  exact z
theorem all_B (b : Int → Bool) (hl : El K tl σ H ns) (hz : ns.length ≤ 1000) (he : ∀ x ∈ ns, ∀ H', Same H H' → Ev te ((wipe σ [n]).set n (some (.int x))) H' (.bl (b x)))
    {Q : VK} (q : ∀ H', Same H H' → Q (.bl (ns.all b)) H') : tCB (rAll K) (tCons (tLc (iList K tl) (gName n) tYes te [n]) tNil) σ H Q := by
  show tLc (iList K tl) (gName n) tYes te [n] σ H (fun x H1 => tNil σ H1 fun xs H2 => rAll K (x :: xs) H2 Q)
  refine lc_B b hl hz he fun D H' sm hD => ⟨D, ns.map b, rfl, SqL.of hD, ?_⟩
  rw [List.all_map]
  exact q H' sm
theorem any_B (b : Int → Bool) (hl : El K tl σ H ns) (hz : ns.length ≤ 1000) (he : ∀ x ∈ ns, ∀ H', Same H H' → Ev te ((wipe σ [n]).set n (some (.int x))) H' (.bl (b x)))
    {Q : VK} (q : ∀ H', Same H H' → Q (.bl (ns.any b)) H') : tCB (rAny K) (tCons (tLc (iList K tl) (gName n) tYes te [n]) tNil) σ H Q := by
  show tLc (iList K tl) (gName n) tYes te [n] σ H (fun x H1 => tNil σ H1 fun xs H2 => rAny K (x :: xs) H2 Q)
  refine lc_B b hl hz he fun D H' sm hD => ⟨D, ns.map b, rfl, SqL.of hD, ?_⟩
  rw [List.any_map]
  exact q H' sm
theorem all_T {xs : List V} {ta : TA} (e : V → Bool) (ha : Ea ta σ H xs) (hz : xs.length ≤ 1000) (he : ∀ x ∈ xs, ∀ H', Same H H' → Es te ((wipe σ [n]).set n (some x)) H' (.bl (e x)))
    {Q : VK} (q : ∀ H', Same H H' → Q (.bl (xs.all e)) H') : tCB (rAll K) (tCons (tLc (iTup K (tTup ta)) (gName n) tYes te [n]) tNil) σ H Q := by
  refine ha _ ⟨Nat.le_of_lt (small1000 hz), fun tp htp => ?_⟩
  have s1 : Same H (upd H tp (.tup xs)) := Same.upd htp
  have z : tLc (iTup K (tC (.ref tp))) (gName n) tYes te [n] σ (upd H tp (.tup xs)) (fun x H1 => tNil σ H1 fun xs H2 => rAll K (x :: xs) H2 Q) := by
    refine ls_T (xs := xs) (fun v => .bl (e v)) ev_c (fun H' s => SqT.of (s _ _ upd_same)) hz (fun x hx H' s => he x hx H' (s1.trans s)) fun D H' s hD => ⟨D, xs.map e, rfl, SqL.of ?_, ?_⟩
    · rw [List.map_map]; exact hD
    · rw [List.all_map]; exact q H' (s1.trans s)
  exact z
theorem lst_of {ta : TA} {vs : List V} {Q : VK} (h : Ea ta σ H vs) (hz : vs.length ≤ 1000) (q : ∀ p, H p = none → Q (.ref p) (upd H p (.lst vs))) : tLst ta σ H Q := h _ ⟨Nat.le_of_lt (small1000 hz), q⟩
theorem catl_of {ta : TA} {tb : TE} {vs zs : List V} {r : Addr} {Q : VK} (h : Ea ta σ H vs) (h2 : ∀ H', Same H H' → Ev tb σ H' (.ref r)) (e : H r = some (.lst zs)) (hz : vs.length + zs.length ≤ 1000) (q : ∀ H' d, Same H H' → H' d = some (.lst (vs ++ zs)) → H d = none → Q (.ref d) H') : tOp rCat (tLst ta) tb σ H Q := by
  refine h _ ⟨Nat.le_of_lt (small1000 (by omega)), fun l1 f1 => ?_⟩
  have s1 : Same H (upd H l1 (.lst vs)) := Same.upd f1
  exact h2 _ s1 _ ⟨l1, r, _, _, rfl, rfl, upd_same, s1 _ _ e, Nat.le_of_lt (small1000 hz), fun l2 f2 => q _ l2 (s1.trans (Same.upd f2)) upd_same (s1.free f2)⟩
theorem cat3_of {ta tb tc : TE} {p1 p2 p3 : Addr} {xs ys zs : List V} {Q : VK} (h1 : Ev ta σ H (.ref p1)) (e1 : H p1 = some (.lst xs)) (h2 : Ev tb σ H (.ref p2)) (e2 : H p2 = some (.lst ys)) (h3 : ∀ H', Same H H' → Ev tc σ H' (.ref p3)) (e3 : H p3 = some (.lst zs))
    (hz : xs.length + ys.length + zs.length ≤ 1000) (q : ∀ H' d, Same H H' → H' d = some (.lst (xs ++ ys ++ zs)) → H d = none → Q (.ref d) H') : tOp rCat (tOp rCat ta tb) tc σ H Q := by
  show tOp rCat ta tb σ H (fun x H1 => tc σ H1 fun y H2 => rCat x y H2 Q)
  refine cat_of h1 h2 e1 e2 (by omega) fun d1 f1 => ?_
  have s1 : Same H (upd H d1 (.lst (xs ++ ys))) := Same.upd f1
  refine h3 _ s1 _ ⟨d1, p3, _, _, rfl, rfl, upd_same, s1 _ _ e3, Nat.le_of_lt (small1000 (by rw [List.length_append]; omega)), fun d2 f2 => ?_⟩
  exact q _ d2 (s1.trans (Same.upd f2)) upd_same (s1.free f2)
end
end L2
namespace Hg
open PySem PySem.Spec PyProof.Rows L2
section
variable {P : Program} {w : World} {K : PySem.W.Frag} {mg : Str → Option Value} {base : Heap} {a : Adr} {H H1 : Hp} {g t s d : Addr} {G G1 : GV} {U : UV} {S : SV} {Q : VK} {E : XK} {C dx p x : Addr}
/-! ### begin -/
def refG (l f : Int) (ms : List Int) : Int := if (!decide (l ∈ ([0, 1] : List Int)) || !decide (f ∈ ([0, 1] : List Int))) = true then -1 else if (ms.all fun n => decide (0 ≤ n) && decide (n ≤ 40)) = true then 0 else -1
def sp_refusal_of_begin (a : Adr) : Sp := fun vs H Q _ => ∃ (l f : Int) (h : Addr) (ms : List Int), vs = [.int l, .int f, .ref h] ∧ H h = some (.lst (ms.map V.int)) ∧ ms.length ≤ 1000 ∧ ∀ H', Same H H' → Q (.int (refG l f ms)) H'
theorem ok_refusal_of_begin (T : Txt K mg a) : FnOk P w K mg base CX0 1 a.refusal_of_begin a.refusal_of_begin_d ["lifts", "first", "half_turns"] (sp_refusal_of_begin a) := by
  refine T.F_refusal_of_begin.ok sc_refusal_of_begin (fun vs H Q E h => ?_) (fun cdv A outer s H vs Q E hr h => ?_)
  · (first | (obtain ⟨rfl, _⟩ := h; rfl) | (obtain ⟨_, rfl, _⟩ := h; rfl) | (obtain ⟨_, _, rfl, _⟩ := h; rfl) | (obtain ⟨_, _, _, rfl, _⟩ := h; rfl) | (obtain ⟨_, _, _, _, rfl, _⟩ := h; rfl) | (obtain ⟨_, _, _, _, _, rfl, _⟩ := h; rfl) | (obtain ⟨_, _, _, _, _, _, rfl, _⟩ := h; rfl) | (obtain ⟨_, _, _, _, _, _, _, rfl, _⟩ := h; rfl) | (obtain ⟨_, _, _, _, _, _, _, _, rfl, _⟩ := h; rfl) | (obtain ⟨_, _, _, _, _, _, _, _, _, rfl, _⟩ := h; rfl) | (obtain ⟨_, _, _, _, _, _, _, _, _, _, rfl, _⟩ := h; rfl) | (obtain ⟨_, _, _, _, _, _, _, _, _, _, _, rfl, _⟩ := h; rfl) | (obtain ⟨_, _, _, _, _, _, _, _, _, _, _, _, rfl, _⟩ := h; rfl) | (obtain ⟨_, _, _, _, _, _, _, _, _, _, _, _, _, rfl, _⟩ := h; rfl) | (obtain ⟨_, _, _, _, _, _, _, _, _, _, _, _, _, _, rfl, _⟩ := h; rfl) | (obtain ⟨_, _, _, _, _, _, _, _, _, _, _, _, _, _, _, rfl, _⟩ := h; rfl))
  · obtain ⟨l, f, h, ms, rfl, hh, hz, q⟩ := h
    refine ⟨_, (pss_cons (ps_if (PW.pt (pw_or (pt_notInLit (ns := [0, 1]) (pv 0) (pa_cons pe_int (pa_cons pe_int pa_nil)) (fun _ _ _ h => h) (by decide) (by with_unfolding_all rfl)) (pw_or1 (pt_notInLit (ns := [0, 1]) (pv 1) (pa_cons pe_int (pa_cons pe_int pa_nil)) (fun _ _ _ h => h) (by decide) (by with_unfolding_all rfl))))) (pss_one (ps_ret (pe_un un_neg pe_int))) pss_nil)
      (pss_one (ps_ret (pe_ifExp (pt_val (pe_callB (cr_all rfl) (by rfl) T.n_all bo_all (pa_cons (pe_lc (own := [("number", 3)]) rfl sc_refusal_of_begin.nd (pi_list (pv 2)) (blkOk_by (by rfl)) (fun _ _ _ _ _ => pg_name (i := 3) sc_refusal_of_begin.nd rfl (Or.inl rfl)) (fun _ _ _ _ _ => pts_nil) (fun _ _ _ _ _ => (pe_chain op_le op_le pe_int (pv 3) (pe_gi (by rfl) T.g_MOST_HALF_TURNS)))) pa_nil))) pe_int (pe_un un_neg pe_int))))), ?_⟩
    unfold refG at q
    refine sq_if (et_or (et_lit (ev_var rfl)) (fun hc => (et_lit (ev_var rfl)))) (fun hc1 => st_ret (ev_un ev_c) ?_) fun hc1 => ?_
    · rw [iT hc1] at q
      exact q H (Same.refl H)
    · rw [iF hc1] at q
      refine all_B (ns := ms) (fun n => decide (0 ≤ n) && decide (n ≤ 40)) (Ev.el (ev_var rfl) (SqL.of hh)) hz (fun x hx H' s => ev_chain ev_c (ev_var rfl) ev_c) fun H' sm => ⟨_, rfl, ?_⟩
      have q := q H' sm
      cases c : (ms.all fun n => decide (0 ≤ n) && decide (n ≤ 40)) with
      | true => rw [c, iT rfl] at q; exact iteT q
      | false => rw [c, iF rfl] at q; exact iteF (ev_un ev_c _ q)
/-! ### what a stroke's numbers may be -/
def inrI (S : SV) : Bool := if (decide (S.hit ≠ -1) && !decide (S.hit ∈ ([0, 1, 2, 3] : List Int))) = true then false else if (!decide (S.hoop ∈ ([0, 1] : List Int)) || !decide (S.fault ∈ ([0, 1] : List Int))) = true then false else
  (S.ran ++ S.peg ++ S.off).all fun b => decide (b ∈ ([0, 1, 2, 3] : List Int))
def Few (S : SV) : Prop := S.ran.length ≤ 100 ∧ S.peg.length ≤ 100 ∧ S.off.length ≤ 100
def sp_is_in_range (a : Adr) : Sp := fun vs H Q _ => ∃ (s : Addr) (S : SV), vs = [.ref s] ∧ SH a H s S ∧ Few S ∧ ∀ H', Same H H' → Q (.bl (inrI S)) H'
theorem ok_is_in_range (T : Txt K mg a) : FnOk P w K mg base CX0 1 a.is_in_range a.is_in_range_d ["stroke"] (sp_is_in_range a) := by
  refine T.F_is_in_range.ok sc_is_in_range (fun vs H Q E h => ?_) (fun cdv A outer s H vs Q E hr h => ?_)
  · (first | (obtain ⟨rfl, _⟩ := h; rfl) | (obtain ⟨_, rfl, _⟩ := h; rfl) | (obtain ⟨_, _, rfl, _⟩ := h; rfl) | (obtain ⟨_, _, _, rfl, _⟩ := h; rfl) | (obtain ⟨_, _, _, _, rfl, _⟩ := h; rfl) | (obtain ⟨_, _, _, _, _, rfl, _⟩ := h; rfl) | (obtain ⟨_, _, _, _, _, _, rfl, _⟩ := h; rfl) | (obtain ⟨_, _, _, _, _, _, _, rfl, _⟩ := h; rfl) | (obtain ⟨_, _, _, _, _, _, _, _, rfl, _⟩ := h; rfl) | (obtain ⟨_, _, _, _, _, _, _, _, _, rfl, _⟩ := h; rfl) | (obtain ⟨_, _, _, _, _, _, _, _, _, _, rfl, _⟩ := h; rfl) | (obtain ⟨_, _, _, _, _, _, _, _, _, _, _, rfl, _⟩ := h; rfl) | (obtain ⟨_, _, _, _, _, _, _, _, _, _, _, _, rfl, _⟩ := h; rfl) | (obtain ⟨_, _, _, _, _, _, _, _, _, _, _, _, _, rfl, _⟩ := h; rfl) | (obtain ⟨_, _, _, _, _, _, _, _, _, _, _, _, _, _, rfl, _⟩ := h; rfl) | (obtain ⟨_, _, _, _, _, _, _, _, _, _, _, _, _, _, _, rfl, _⟩ := h; rfl))
  · obtain ⟨s, S, rfl, hS, ⟨z1, z2, z3⟩, q⟩ := h
    refine ⟨_, (pss_cons (ps_if (PW.pt (pw_and (pt_cmpR op_neI (pe_fld (pv 0) (by rfl)) (pe_gi (by rfl) T.g_NO_BALL) (nomark _)) (pw_and1 (pt_cmpR op_notInI (pe_fld (pv 0) (by rfl)) (pe_gr (by rfl) T.g_BALLS) (by with_unfolding_all rfl))))) (pss_one (ps_ret pe_bl)) pss_nil)
      (pss_cons (ps_if (PW.pt (pw_or (pt_notInLit (ns := [0, 1]) (pe_fld (pv 0) (by rfl)) (pa_cons pe_int (pa_cons pe_int pa_nil)) (fun _ _ _ h => h) (by decide) (by with_unfolding_all rfl)) (pw_or1 (pt_notInLit (ns := [0, 1]) (pe_fld (pv 0) (by rfl)) (pa_cons pe_int (pa_cons pe_int pa_nil)) (fun _ _ _ h => h) (by decide) (by with_unfolding_all rfl))))) (pss_one (ps_ret pe_bl)) pss_nil)
      (pss_one (ps_ret (pe_callB (cr_all rfl) (by rfl) T.n_all bo_all (pa_cons (pe_lc (own := [("ball", 1)]) rfl sc_is_in_range.nd (pi_list (pe_op op_cat (pe_op op_cat (pe_fld (pv 0) (by rfl)) (pe_fld (pv 0) (by rfl))) (pe_fld (pv 0) (by rfl)))) (blkOk_by (by rfl)) (fun _ _ _ _ _ => pg_name (i := 1) sc_is_in_range.nd rfl (Or.inl rfl)) (fun _ _ _ _ _ => pts_nil) (fun _ _ _ _ _ => (pe_cmpR (op_inIK K) (pv 1) (pe_gr (by rfl) T.g_BALLS) (by with_unfolding_all rfl)))) pa_nil)))))), ?_⟩
    unfold inrI at q
    refine sq_if (et_and (et_test (ev_op (ev_fld (ev_var rfl) hS.ob T.c_Stroke T.n_Stroke_hit rfl) ev_c)) (fun hc => (et_test (ev_ninT (ev_fld (ev_var rfl) hS.ob T.c_Stroke T.n_Stroke_hit rfl) ev_c (T.balls _))))) (fun hc1 => st_ret ev_c ?_) fun hc1 => sq_if (et_or (et_lit (ev_fld (ev_var rfl) hS.ob T.c_Stroke T.n_Stroke_hoop rfl)) (fun hc => (et_lit (ev_fld (ev_var rfl) hS.ob T.c_Stroke T.n_Stroke_fault rfl)))) (fun hc2 => st_ret ev_c ?_) fun hc2 => ?_
    · rw [iT hc1] at q; exact q H (Same.refl H)
    · rw [iF hc1, iT hc2] at q; exact q H (Same.refl H)
    · rw [iF hc1, iF hc2] at q
      refine all_B (ns := S.ran ++ S.peg ++ S.off) (fun b => decide (b ∈ ([0, 1, 2, 3] : List Int))) (fun R r => ?_) (by rw [List.length_append, List.length_append]; omega) (fun x hx H' s => ev_inT (ev_var rfl) ev_c (T.balls _)) q
      refine cat3_of (ev_fld (ev_var rfl) hS.ob T.c_Stroke T.n_Stroke_ran rfl) hS.rn (ev_fld (ev_var rfl) hS.ob T.c_Stroke T.n_Stroke_peg rfl) hS.pg (fun H' s1 => ev_fld (ev_var rfl) (hS.same s1).ob T.c_Stroke T.n_Stroke_off rfl) hS.of (by rw [List.length_map, List.length_map, List.length_map]; omega) fun H' d s1 h1 _ => ?_
      refine r _ d s1 (SqL.of ?_)
      rw [h1, List.map_append, List.map_append]
/-! ### a list of balls -/
def toldI (xs bs : List Int) : Bool := decide ((setN bs : Int) = (bs.length : Int)) && !(bs.any fun b => decide (pt xs b = 13))
def sp_can_be_told (a : Adr) : Sp := fun vs H Q _ => ∃ (g l : Addr) (G : GV) (bs : List Int), vs = [.ref g, .ref l] ∧ GH a H g G ∧ H l = some (.lst (bs.map V.int)) ∧ In4 bs ∧ bs.length ≤ 1000 ∧ ∀ H', Same H H' → Q (.bl (toldI G.xs bs)) H'
theorem ok_can_be_told (T : Txt K mg a) : FnOk P w K mg base CX0 2 a.can_be_told a.can_be_told_d ["game", "balls"] (sp_can_be_told a) := by
  refine T.F_can_be_told.ok sc_can_be_told (fun vs H Q E h => ?_) (fun cdv A outer s H vs Q E hr h => ?_)
  · (first | (obtain ⟨rfl, _⟩ := h; rfl) | (obtain ⟨_, rfl, _⟩ := h; rfl) | (obtain ⟨_, _, rfl, _⟩ := h; rfl) | (obtain ⟨_, _, _, rfl, _⟩ := h; rfl) | (obtain ⟨_, _, _, _, rfl, _⟩ := h; rfl) | (obtain ⟨_, _, _, _, _, rfl, _⟩ := h; rfl) | (obtain ⟨_, _, _, _, _, _, rfl, _⟩ := h; rfl) | (obtain ⟨_, _, _, _, _, _, _, rfl, _⟩ := h; rfl) | (obtain ⟨_, _, _, _, _, _, _, _, rfl, _⟩ := h; rfl) | (obtain ⟨_, _, _, _, _, _, _, _, _, rfl, _⟩ := h; rfl) | (obtain ⟨_, _, _, _, _, _, _, _, _, _, rfl, _⟩ := h; rfl) | (obtain ⟨_, _, _, _, _, _, _, _, _, _, _, rfl, _⟩ := h; rfl) | (obtain ⟨_, _, _, _, _, _, _, _, _, _, _, _, rfl, _⟩ := h; rfl) | (obtain ⟨_, _, _, _, _, _, _, _, _, _, _, _, _, rfl, _⟩ := h; rfl) | (obtain ⟨_, _, _, _, _, _, _, _, _, _, _, _, _, _, rfl, _⟩ := h; rfl) | (obtain ⟨_, _, _, _, _, _, _, _, _, _, _, _, _, _, _, rfl, _⟩ := h; rfl))
  · obtain ⟨g, l, G, bs, rfl, hG, hl, h4, hz, q⟩ := h
    refine ⟨_, (pss_one (ps_ret (pe_and (pe_cmpR op_eqI (pe_callB call_len_of_set (by rfl) T.n_len PySem.boot_len (pa_cons (pe_callTy (call_set_of rfl) (by rfl) T.n_set bo_set (pa_cons (pv 1) pa_nil)) pa_nil)) (pe_callB call_len_seq (by rfl) T.n_len PySem.boot_len (pa_cons (pv 1) pa_nil)) (nomark _)) (pe_one (pe_not (pe_callB (cr_any rfl) (by rfl) T.n_any bo_any (pa_cons (pe_lc (own := [("ball", 2)]) rfl sc_can_be_told.nd (pi_list (pv 1)) (blkOk_by (by rfl)) (fun _ _ _ _ _ => pg_name (i := 2) sc_can_be_told.nd rfl (Or.inl rfl)) (fun _ _ _ _ _ => pts_nil) (fun _ _ _ _ _ => (pe_meth (pv 0) T.c_Game T.m_Game_is_out (ok_Game_is_out T) (hr.mono (by decide)) T.b_Game_is_out .nil pass0 (pa_cons (pv 2) pa_nil)))) pa_nil))))))), ?_⟩
    refine (ev_var rfl) _ ⟨l, bs, rfl, SqL.of hl, hz, fun p S hp => ?_⟩
    have s1 : Same H (upd H p (.set S (setN bs))) := Same.upd hp
    refine ⟨p, S, _, rfl, upd_same, (ev_var rfl) _ ⟨l, _, rfl, .inl (SqL.of (s1 _ _ hl)), _, _, rfl, rfl, _, rfl, ?_⟩⟩
    unfold toldI at q
    rw [List.length_map]
    cases c : decide ((setN bs : Int) = (bs.length : Int)) with
    | false =>
      rw [c] at q
      exact iteF (q _ s1)
    | true =>
      rw [c] at q
      refine iteT ?_
      refine any_B (ns := bs) (fun b => decide (pt G.xs b = 13)) (Ev.el (ev_var rfl) (SqL.of (s1 _ _ hl))) hz (fun x hx H' s2 => ?_) fun H' s2 => ⟨_, rfl, q _ (s1.trans s2)⟩
      have hG := hG.same (s1.trans s2)
      refine (ev_meth (ev_var rfl) hG.ob rfl (ea_cons (ev_var rfl) ea_nil) (fun Q q => use_is_out ?_ hG q))
      exact h4 x hx
theorem use_told {l : Addr} {bs : List Int} (hG : GH a H g G) (hl : H l = some (.lst (bs.map V.int))) (h4 : In4 bs) (hz : bs.length ≤ 1000) (q : ∀ H', Same H H' → Q (.bl (toldI G.xs bs)) H') : sp_can_be_told a [.ref g, .ref l] H Q E := ⟨g, l, G, bs, rfl, hG, hl, h4, hz, q⟩
/-! ### what can have been -/
def canI (xs : List Int) (U : UV) (S : SV) : Bool := if (decide (S.hit = U.ball) || decide (U.ball ∈ S.ran)) = true then false else if (decide (S.hit ≠ -1) && decide (pt xs S.hit = 13)) = true then false else
  if (decide (S.hoop = 1) && decide (pt xs U.ball = 12)) = true then false else toldI xs S.ran && (toldI xs S.peg && toldI xs S.off)
def sp_can_have_been (a : Adr) : Sp := fun vs H Q _ => ∃ (g t s : Addr) (G : GV) (U : UV) (S : SV), vs = [.ref g, .ref s] ∧ GH a H g G ∧ G.tv = .ref t ∧ UH a H t U ∧ SH a H s S ∧ Few S ∧ In4 S.ran ∧ In4 S.peg ∧ In4 S.off ∧ (S.hit = -1 ∨ (0 ≤ S.hit ∧ S.hit < 4)) ∧ (0 ≤ U.ball ∧ U.ball < 4) ∧
  ∀ H', Same H H' → Q (.bl (canI G.xs U S)) H'
def intOf : V → Int
  | .int i => i
  | _ => 0
theorem intOf_map (l : List Int) : (l.map V.int).map intOf = l := by
  rw [List.map_map]
  exact List.map_id'' (fun _ => rfl) l
/-- what can_be_told says of the list at an address -/
def tellV (H : Hp) (xs : List Int) : V → Bool
  | .ref b => (match H b with
    | some (.lst ys) => toldI xs (ys.map intOf)
    | _ => false)
  | _ => false
theorem tellV_at {l : Addr} {bs xs : List Int} (h : H l = some (.lst (bs.map V.int))) : tellV H xs (.ref l) = toldI xs bs := by
  unfold tellV
  dsimp only
  rw [h]
  dsimp only
  rw [intOf_map]
theorem ok_can_have_been (T : Txt K mg a) : FnOk P w K mg base CX0 3 a.can_have_been a.can_have_been_d ["game", "stroke"] (sp_can_have_been a) := by
  refine T.F_can_have_been.ok sc_can_have_been (fun vs H Q E h => ?_) (fun cdv A outer s H vs Q E hr h => ?_)
  · (first | (obtain ⟨rfl, _⟩ := h; rfl) | (obtain ⟨_, rfl, _⟩ := h; rfl) | (obtain ⟨_, _, rfl, _⟩ := h; rfl) | (obtain ⟨_, _, _, rfl, _⟩ := h; rfl) | (obtain ⟨_, _, _, _, rfl, _⟩ := h; rfl) | (obtain ⟨_, _, _, _, _, rfl, _⟩ := h; rfl) | (obtain ⟨_, _, _, _, _, _, rfl, _⟩ := h; rfl) | (obtain ⟨_, _, _, _, _, _, _, rfl, _⟩ := h; rfl) | (obtain ⟨_, _, _, _, _, _, _, _, rfl, _⟩ := h; rfl) | (obtain ⟨_, _, _, _, _, _, _, _, _, rfl, _⟩ := h; rfl) | (obtain ⟨_, _, _, _, _, _, _, _, _, _, rfl, _⟩ := h; rfl) | (obtain ⟨_, _, _, _, _, _, _, _, _, _, _, rfl, _⟩ := h; rfl) | (obtain ⟨_, _, _, _, _, _, _, _, _, _, _, _, rfl, _⟩ := h; rfl) | (obtain ⟨_, _, _, _, _, _, _, _, _, _, _, _, _, rfl, _⟩ := h; rfl) | (obtain ⟨_, _, _, _, _, _, _, _, _, _, _, _, _, _, rfl, _⟩ := h; rfl) | (obtain ⟨_, _, _, _, _, _, _, _, _, _, _, _, _, _, _, rfl, _⟩ := h; rfl))
  · obtain ⟨g, t, s, G, U, S, rfl, hG, htv, hU, hS, ⟨z1, z2, z3⟩, i1, i2, i3, hh, hb, q⟩ := h
    refine ⟨_, (pss_cons (ps_set (i := 2) sc_can_have_been.nd rfl (by first | exact Or.inl rfl | exact Or.inr rfl) (pe_fld (pe_fld (pv 0) (by rfl)) (by rfl)))
      (pss_cons (ps_if (PW.pt (pw_or (pt_cmpR op_eqI (pe_fld (pv 1) (by rfl)) (pv 2) (nomark _)) (pw_or1 (pt_cmpR op_inI (pv 2) (pe_fld (pv 1) (by rfl)) (by with_unfolding_all rfl))))) (pss_one (ps_ret pe_bl)) pss_nil)
      (pss_cons (ps_if (PW.pt (pw_and (pt_cmpR op_neI (pe_fld (pv 1) (by rfl)) (pe_gi (by rfl) T.g_NO_BALL) (nomark _)) (pw_and1 (pt_val (pe_meth (pv 0) T.c_Game T.m_Game_is_out (ok_Game_is_out T) (hr.mono (by decide)) T.b_Game_is_out .nil pass0 (pa_cons (pe_fld (pv 1) (by rfl)) pa_nil)))))) (pss_one (ps_ret pe_bl)) pss_nil)
      (pss_cons (ps_if (PW.pt (pw_and (pt_cmpR op_eqI (pe_fld (pv 1) (by rfl)) pe_int (nomark _)) (pw_and1 (pt_cmpR op_eqI (pe_ix ix_list (pe_fld (pv 0) (by rfl)) (pv 2) (fun _ _ => rfl)) (pe_gi (by rfl) T.g_ALL_HOOPS) (nomark _))))) (pss_one (ps_ret pe_bl)) pss_nil)
      (pss_one (ps_ret (pe_callB (cr_all rfl) (by rfl) T.n_all bo_all (pa_cons (pe_lc (own := [("balls", 3)]) rfl sc_can_have_been.nd (pi_tup (pe_tup (pa_cons (pe_fld (pv 1) (by rfl)) (pa_cons (pe_fld (pv 1) (by rfl)) (pa_cons (pe_fld (pv 1) (by rfl)) pa_nil))))) (blkOk_by (by rfl)) (fun _ _ _ _ _ => pg_name (i := 3) sc_can_have_been.nd rfl (Or.inl rfl)) (fun _ _ _ _ _ => pts_nil) (fun _ _ _ _ _ => (pe_call (ok_can_be_told T) (hr.mono (by decide)) (by rfl) T.g_can_be_told T.F_can_be_told.kp T.b_can_be_told .nil pass0 (pa_cons (pv 0) (pa_cons (pv 3) pa_nil))))) pa_nil)))))))), ?_⟩
    unfold canI at q
    refine sq_set (ev_fld ((ev_fld (ev_var rfl) hG.ob T.c_Game T.n_Game_turn rfl).cast htv) hU.ob T.c_Turn T.n_Turn_ball rfl) ?_
    refine sq_if (et_or (et_test (ev_op (ev_fld (ev_var rfl) hS.ob T.c_Stroke T.n_Stroke_hit rfl) (ev_var rfl))) (fun hc => (et_test (ev_inL (ev_var rfl) (ev_fld (ev_var rfl) hS.ob T.c_Stroke T.n_Stroke_ran rfl) hS.rn)))) (fun hc1 => st_ret ev_c ?_) fun hc1 => ?_
    · rw [iT hc1] at q; exact q H (Same.refl H)
    rw [iF hc1] at q
    refine sq_if (et_and (et_test (ev_op (ev_fld (ev_var rfl) hS.ob T.c_Stroke T.n_Stroke_hit rfl) ev_c)) (fun hc => (et_b (ev_meth (ev_var rfl) hG.ob rfl (ea_cons (ev_fld (ev_var rfl) hS.ob T.c_Stroke T.n_Stroke_hit rfl) ea_nil) (fun Q q => use_is_out ?_ hG q))))) (fun hc2 => st_ret ev_c ?_) fun hc2 => ?_
    · exact hh.resolve_left (of_decide_eq_true hc)
    · rw [iT hc2] at q; exact q H (Same.refl H)
    rw [iF hc2] at q
    refine sq_if (et_and (et_test (ev_op (ev_fld (ev_var rfl) hS.ob T.c_Stroke T.n_Stroke_hoop rfl) ev_c)) (fun hc => (et_test (ev_op (ev_ix (ev_fld (ev_var rfl) hG.ob T.c_Game T.n_Game_points rfl) (ev_var rfl) hG.pt (pt_at hG.xl ?_)) ev_c)))) (fun hc3 => st_ret ev_c ?_) fun hc3 => ?_
    · exact hb
    · rw [iT hc3] at q; exact q H (Same.refl H)
    rw [iF hc3] at q
    refine all_T (xs := [.ref S.r, .ref S.g, .ref S.o]) (tellV H G.xs) (ea_cons (ev_fld (ev_var rfl) hS.ob T.c_Stroke T.n_Stroke_ran rfl) (ea_cons (ev_fld (ev_var rfl) hS.ob T.c_Stroke T.n_Stroke_peg rfl) (ea_cons (ev_fld (ev_var rfl) hS.ob T.c_Stroke T.n_Stroke_off rfl) ea_nil))) (by show 3 ≤ 1000; decide) (fun x hx H' sm Q' q' => ?_) fun H' sm => ?_
    · have hG := hG.same sm
      have key : ∀ (l : Addr) (bs : List Int), x = .ref l → H l = some (.lst (bs.map V.int)) → In4 bs → bs.length ≤ 1000 → tCall (sp_can_be_told a) [] E0 (tCons (tVar 0) (tCons (tVar 3) tNil)) (List.set (wipe (List.set (L2.start ["game", "stroke", "striker", "balls"] [V.ref g, V.ref s]) 2 (some (V.int U.ball))) [3]) 3 (some x)) H' Q' := fun l bs ex hl h4 hz => by
        subst ex
        refine call_of (ea_cons (ev_var rfl) (ea_cons (ev_var rfl) ea_nil)) (use_told hG (sm _ _ hl) h4 hz fun H2 s2 => ?_)
        have := q' H2 s2
        rw [tellV_at hl] at this
        exact this
      simp only [List.mem_cons, List.not_mem_nil, or_false] at hx
      rcases hx with hx | hx | hx
      · exact key _ _ hx hS.rn i1 (by omega)
      · exact key _ _ hx hS.pg i2 (by omega)
      · exact key _ _ hx hS.of i3 (by omega)
    · have := q H' sm
      rw [← tellV_at hS.rn, ← tellV_at hS.pg, ← tellV_at hS.of] at this
      show Q (.bl (_ && (_ && (_ && true)))) H'
      rw [Bool.and_true]
      exact this
theorem use_can (hG : GH a H g G) (htv : G.tv = .ref t) (hU : UH a H t U) (hS : SH a H s S) (hf : Few S) (i1 : In4 S.ran) (i2 : In4 S.peg) (i3 : In4 S.off) (hh : S.hit = -1 ∨ (0 ≤ S.hit ∧ S.hit < 4)) (hb : 0 ≤ U.ball ∧ U.ball < 4) (q : ∀ H', Same H H' → Q (.bl (canI G.xs U S)) H') : sp_can_have_been a [.ref g, .ref s] H Q E :=
  ⟨g, t, s, G, U, S, rfl, hG, htv, hU, hS, hf, i1, i2, i3, hh, hb, q⟩
/-! ### a stroke's refusal -/
theorem inrI_ok (h : inrI S = true) : (S.hit = -1 ∨ (0 ≤ S.hit ∧ S.hit < 4)) ∧ In4 S.ran ∧ In4 S.peg ∧ In4 S.off := by
  unfold inrI at h
  split at h
  · cases h
  · rename_i h1
    split at h
    · cases h
    · have hall : In4 (S.ran ++ S.peg ++ S.off) := fun b hb => mem4 (of_decide_eq_true (List.all_eq_true.mp h b hb))
      refine ⟨?_, fun b hb => hall b (List.mem_append_left _ (List.mem_append_left _ hb)), fun b hb => hall b (List.mem_append_left _ (List.mem_append_right _ hb)), fun b hb => hall b (List.mem_append_right _ hb)⟩
      by_cases e : S.hit = -1
      · exact .inl e
      · refine .inr (mem4 ?_)
        rw [decide_eq_true e, Bool.true_and] at h1
        exact ndT (by simpa using h1)
def refS (o : GO) (S : SV) : Int := if (!inrI S) = true then -1 else if ngo o = true then -2 else match o with
    | none => -2
    | some (_, G, u) => match u with
      | none => -3
      | some (_, U) => if canI G.xs U S = true then 0 else -4
def ballOk (o : GO) : Prop := ∀ g G t U, o = some (g, G, some (t, U)) → G.winner = -1 → 0 ≤ U.ball ∧ U.ball < 4
def sp_refusal_of_stroke (a : Adr) : Sp := fun vs H Q _ => ∃ (v : V) (o : GO) (s : Addr) (S : SV), vs = [v, .ref s] ∧ GOp a H v o ∧ ballOk o ∧ SH a H s S ∧ Few S ∧ ∀ H', Same H H' → Q (.int (refS o S)) H'
theorem ok_refusal_of_stroke (T : Txt K mg a) : FnOk P w K mg base CX0 4 a.refusal_of_stroke a.refusal_of_stroke_d ["game", "stroke"] (sp_refusal_of_stroke a) := by
  refine T.F_refusal_of_stroke.ok sc_refusal_of_stroke (fun vs H Q E h => ?_) (fun cdv A outer s H vs Q E hr h => ?_)
  · (first | (obtain ⟨rfl, _⟩ := h; rfl) | (obtain ⟨_, rfl, _⟩ := h; rfl) | (obtain ⟨_, _, rfl, _⟩ := h; rfl) | (obtain ⟨_, _, _, rfl, _⟩ := h; rfl) | (obtain ⟨_, _, _, _, rfl, _⟩ := h; rfl) | (obtain ⟨_, _, _, _, _, rfl, _⟩ := h; rfl) | (obtain ⟨_, _, _, _, _, _, rfl, _⟩ := h; rfl) | (obtain ⟨_, _, _, _, _, _, _, rfl, _⟩ := h; rfl) | (obtain ⟨_, _, _, _, _, _, _, _, rfl, _⟩ := h; rfl) | (obtain ⟨_, _, _, _, _, _, _, _, _, rfl, _⟩ := h; rfl) | (obtain ⟨_, _, _, _, _, _, _, _, _, _, rfl, _⟩ := h; rfl) | (obtain ⟨_, _, _, _, _, _, _, _, _, _, _, rfl, _⟩ := h; rfl) | (obtain ⟨_, _, _, _, _, _, _, _, _, _, _, _, rfl, _⟩ := h; rfl) | (obtain ⟨_, _, _, _, _, _, _, _, _, _, _, _, _, rfl, _⟩ := h; rfl) | (obtain ⟨_, _, _, _, _, _, _, _, _, _, _, _, _, _, rfl, _⟩ := h; rfl) | (obtain ⟨_, _, _, _, _, _, _, _, _, _, _, _, _, _, _, rfl, _⟩ := h; rfl))
  · obtain ⟨v, o, s, S, rfl, hO, hB, hS, hf, q⟩ := h
    refine ⟨_, (pss_cons (ps_if (pt_not (pt_val (pe_call (ok_is_in_range T) (hr.mono (by decide)) (by rfl) T.g_is_in_range T.F_is_in_range.kp T.b_is_in_range .nil pass0 (pa_cons (pv 1) pa_nil)))) (pss_one (ps_ret (pe_un un_neg pe_int))) pss_nil)
      (pss_cons (ps_if (pt_val (pe_call (ok_no_game_goes_on T) (hr.mono (by decide)) (by rfl) T.g_no_game_goes_on T.F_no_game_goes_on.kp T.b_no_game_goes_on .nil pass0 (pa_cons (pv 0) pa_nil))) (pss_one (ps_ret (pe_un un_neg pe_int))) pss_nil)
      (pss_cons (ps_if (pt_cmpR op_isN (pe_fld (pv 0) (by rfl)) pe_non (nomark _)) (pss_one (ps_ret (pe_un un_neg pe_int))) pss_nil)
      (pss_one (ps_ret (pe_ifExp (pt_val (pe_call (ok_can_have_been T) (hr.mono (by decide)) (by rfl) T.g_can_have_been T.F_can_have_been.kp T.b_can_have_been .nil pass0 (pa_cons (pv 0) (pa_cons (pv 1) pa_nil)))) pe_int (pe_un un_neg pe_int))))))), ?_⟩
    unfold refS at q
    refine call_of (ea_cons (ev_var rfl) ea_nil) ⟨s, S, rfl, hS, hf, fun H1 s1 => ⟨_, rfl, ?_⟩⟩
    have hO := hO.same s1
    have hS := hS.same s1
    cases hc1 : inrI S with
    | false =>
      rw [hc1, if_pos (by decide : (!false) = true)] at q
      exact iteT (ev_un ev_c _ (q _ s1))
    | true =>
      rw [hc1, if_neg (by decide : ¬ (!true) = true)] at q
      refine iteF ?_
      dsimp only
      obtain ⟨hh, i1, i2, i3⟩ := inrI_ok hc1
      refine sq_if (et_b (ev_call (ea_cons (ev_var rfl) ea_nil) (fun Q q => use_ngo hO q))) (fun hc2 => st_ret (ev_un ev_c) ?_) fun hc2 => ?_
      · rw [iT hc2] at q; exact q _ s1
      · rw [iF hc2] at q
        obtain ⟨g, G, u, rfl, hw⟩ := ngo_none hc2
        obtain ⟨rfl, hG, ho⟩ := hO
        have ho := ho hw
        cases u with
        | none =>
          have hn : G.tv = .non := ho
          refine sq_if (et_test (ev_isN (ev_fld (ev_var rfl) hG.ob T.c_Game T.n_Game_turn rfl))) (fun hc3 => st_ret (ev_un ev_c) ?_) fun hc3 => ?_
          · exact q _ s1
          · exact absurd hn (of_decide_eq_false hc3)
        | some x =>
          obtain ⟨t, U⟩ := x
          obtain ⟨htv, hU⟩ := ho
          have hb := hB _ _ _ _ rfl hw
          refine sq_if (et_test (ev_isN (ev_fld (ev_var rfl) hG.ob T.c_Game T.n_Game_turn rfl))) (fun hc3 => ?_) fun hc3 => ?_
          · have := of_decide_eq_true hc3
            rw [htv] at this; cases this
          · refine call_of (ea_cons (ev_var rfl) (ea_cons (ev_var rfl) ea_nil)) (use_can hG htv hU hS hf i1 i2 i3 hh hb fun H2 s2 => ⟨_, rfl, ?_⟩)
            have q := q _ (s1.trans s2)
            dsimp only at q
            cases hc4 : canI G.xs U S with
            | true => rw [hc4, iT rfl] at q; exact iteT q
            | false => rw [hc4, iF rfl] at q; exact iteF (ev_un ev_c _ q)
/-! ### what now tells of a turn -/
def sp_told_of_turn (a : Adr) : Sp := fun vs H Q _ => ∃ (t : Addr) (U : UV), vs = [.ref t] ∧ UH a H t U ∧ U.live.length ≤ 100 ∧ ∀ H' l, Same H H' → H l = none → H' l = some (.lst ((U.ball :: U.beside :: U.half :: U.strokes :: U.live).map V.int)) → Q (.ref l) H'
theorem ok_told_of_turn (T : Txt K mg a) : FnOk P w K mg base CX0 1 a.told_of_turn a.told_of_turn_d ["turn"] (sp_told_of_turn a) := by
  refine T.F_told_of_turn.ok sc_told_of_turn (fun vs H Q E h => ?_) (fun cdv A outer s H vs Q E hr h => ?_)
  · (first | (obtain ⟨rfl, _⟩ := h; rfl) | (obtain ⟨_, rfl, _⟩ := h; rfl) | (obtain ⟨_, _, rfl, _⟩ := h; rfl) | (obtain ⟨_, _, _, rfl, _⟩ := h; rfl) | (obtain ⟨_, _, _, _, rfl, _⟩ := h; rfl) | (obtain ⟨_, _, _, _, _, rfl, _⟩ := h; rfl) | (obtain ⟨_, _, _, _, _, _, rfl, _⟩ := h; rfl) | (obtain ⟨_, _, _, _, _, _, _, rfl, _⟩ := h; rfl) | (obtain ⟨_, _, _, _, _, _, _, _, rfl, _⟩ := h; rfl) | (obtain ⟨_, _, _, _, _, _, _, _, _, rfl, _⟩ := h; rfl) | (obtain ⟨_, _, _, _, _, _, _, _, _, _, rfl, _⟩ := h; rfl) | (obtain ⟨_, _, _, _, _, _, _, _, _, _, _, rfl, _⟩ := h; rfl) | (obtain ⟨_, _, _, _, _, _, _, _, _, _, _, _, rfl, _⟩ := h; rfl) | (obtain ⟨_, _, _, _, _, _, _, _, _, _, _, _, _, rfl, _⟩ := h; rfl) | (obtain ⟨_, _, _, _, _, _, _, _, _, _, _, _, _, _, rfl, _⟩ := h; rfl) | (obtain ⟨_, _, _, _, _, _, _, _, _, _, _, _, _, _, _, rfl, _⟩ := h; rfl))
  · obtain ⟨t, U, rfl, hU, hz, q⟩ := h
    refine ⟨_, (pss_one (ps_ret (pe_op op_cat (pe_lst (pa_cons (pe_fld (pv 0) (by rfl)) (pa_cons (pe_fld (pv 0) (by rfl)) (pa_cons (pe_fld (pv 0) (by rfl)) (pa_cons (pe_fld (pv 0) (by rfl)) pa_nil))))) (pe_fld (pv 0) (by rfl))))), ?_⟩
    show tOp rCat _ _ _ _ _
    refine catl_of (ea_cons (ev_fld (ev_var rfl) hU.ob T.c_Turn T.n_Turn_ball rfl) (ea_cons (ev_fld (ev_var rfl) hU.ob T.c_Turn T.n_Turn_beside rfl) (ea_cons (ev_fld (ev_var rfl) hU.ob T.c_Turn T.n_Turn_half rfl) (ea_cons (ev_fld (ev_var rfl) hU.ob T.c_Turn T.n_Turn_strokes rfl) ea_nil)))) (fun H' s => ev_fld (ev_var rfl) (hU.same s).ob T.c_Turn T.n_Turn_live rfl) hU.lv (by rw [List.length_map]; show 4 + U.live.length ≤ 1000; omega) fun H' d s1 e f => ?_
    exact q _ d s1 f e
end
end Hg
set_option Elab.async false
set_option linter.all false
set_option maxRecDepth 100000
set_option maxHeartbeats 2000000
namespace Hg
open L2
/-! ### the objects and the specification's game -/
structure RelT (t : Kg54.Turn) (U : UV) : Prop where
  ball : U.ball = (t.ball : Int)
  half : U.half = (Kg54.truth t.half : Int)
  bes : U.beside = Cq.bes t.next
  str : U.strokes = (t.strokes : Int)
  had : U.had = (t.had : Int)
  mate : U.mate = (t.mate : Int)
  live : U.live = Kg54.whole t.live
def RelTo : Option Kg54.Turn → Option (PySem.Addr × UV) → Prop
  | none, none => True
  | some t, some x => RelT t x.2
  | _, _ => False
def lastB : Option Kg54.Turn → Int
  | none => -1
  | some t => (t.ball : Int)
structure RelGo (Gm : Kg54.Game) (G : GV) (u : Option (PySem.Addr × UV)) : Prop where
  side : G.side = (Gm.side : Int)
  owed : G.owed = (Gm.owed : Int)
  time : G.time = (Gm.time : Int)
  turn : RelTo Gm.turn u
  last : Gm.time = 0 → G.last = lastB Gm.last
  apart : ∀ t U, u = some (t, U) → U.l ≠ G.p ∧ U.l ≠ G.h ∧ U.live.length ≤ 4
structure RelG (Gm : Kg54.Game) (G : GV) (u : Option (PySem.Addr × UV)) : Prop where
  xs : G.xs = Kg54.whole Gm.balls
  ms : G.ms = Kg54.whole Gm.more
  li : G.lifts = (Kg54.truth Gm.lifts : Int)
  wi : G.winner = Cq.encW Gm.won
  la : G.last = -1 ∨ (0 ≤ G.last ∧ G.last < 4)
  go : Gm.won = none → RelGo Gm G u
  ok : Cq.SOk Gm
  fin : Gm.won ≠ none → u = none
def RelS : Kg54.State → GO → Prop
  | none, none => True
  | some Gm, some x => RelG Gm x.2.1 x.2.2
  | _, _ => False
theorem pt_whole (b : List Nat) (x : Nat) : pt (Kg54.whole b) (x : Int) = (Kg54.made b x : Int) := by
  unfold pt Kg54.whole Kg54.made
  rw [Int.toNat_natCast]
  simp only [List.getD_eq_getElem?_getD, List.getElem?_map]
  cases b[x]? <;> rfl
theorem pt_wholeI (b : List Nat) {i : Int} (h : 0 ≤ i) : pt (Kg54.whole b) i = (Kg54.made b i.toNat : Int) := by
  obtain ⟨n, rfl⟩ : ∃ n : Nat, i = n := ⟨i.toNat, by omega⟩
  rw [pt_whole, Int.toNat_natCast]
theorem out_iff {b : List Nat} (hb : Cq.BOk b) {x : Nat} (hx : x < 4) : decide (pt (Kg54.whole b) (x : Int) = 13) = !Kg54.inPlay b x := by
  rw [pt_whole]
  have := hb.le x
  unfold Kg54.inPlay Kg54.OUT
  rw [decide_eq_true hx, Bool.true_and]
  by_cases h : Kg54.made b x = 13
  · simp [h]
  · have h2 : Kg54.made b x < 13 := by omega
    have h3 : ¬ ((Kg54.made b x : Int) = 13) := by omega
    simp [h2, h3]
theorem sdp_whole (b : List Nat) (s : Nat) : sdp (Kg54.whole b) (s : Int) = (Kg54.points b s : Int) := by
  unfold sdp Kg54.points
  have e : (s : Int) + 2 = ((s + 2 : Nat) : Int) := by omega
  rw [e, pt_whole, pt_whole]
  omega
theorem ldr_whole (b : List Nat) : ldr (Kg54.whole b) = Cq.lead b := by
  unfold ldr Cq.lead
  have e0 := sdp_whole b 0
  have e1 := sdp_whole b 1
  have e0 : sdp (Kg54.whole b) 0 = (Kg54.points b 0 : Int) := e0
  have e1 : sdp (Kg54.whole b) 1 = (Kg54.points b 1 : Int) := e1
  rw [e0, e1]
  by_cases h : Kg54.points b 0 = Kg54.points b 1
  · rw [if_pos h, if_pos (by omega)]
  · rw [if_neg h, if_neg (by omega)]
    by_cases h2 : Kg54.points b 1 < Kg54.points b 0
    · rw [if_pos h2, if_pos (by omega)]
    · rw [if_neg h2, if_neg (by omega)]
theorem winI_whole (b : List Nat) {side time : Nat} (hs : side < 2) : winI (Kg54.whole b) (side : Int) (time : Int) = Cq.winN b side time := by
  unfold winI Cq.winN
  have e : (1 : Int) - (side : Int) = ((1 - side : Nat) : Int) := by omega
  rw [e, sdp_whole, sdp_whole, ldr_whole]
  have c1 : (decide ((Kg54.points b side : Int) = 2 * 13) = true) = (Kg54.points b side = 26) := by rw [decide_eq_true_eq]; apply propext; omega
  have c2 : (decide ((Kg54.points b (1 - side) : Int) = 2 * 13) = true) = (Kg54.points b (1 - side) = 26) := by rw [decide_eq_true_eq]; apply propext; omega
  have c3 : (decide ((time : Int) = 3) = true) = (time = 3) := by rw [decide_eq_true_eq]; apply propext; omega
  simp only [c1, c2, c3]
theorem othI_whole {b : List Nat} (hb : Cq.BOk b) (x : Nat) : othI (Kg54.whole b) (x : Int) = Kg54.whole (Kg54.others b x) := by
  have e : ([0, 1, 2, 3] : List Int) = (List.range 4).map (fun n : Nat => (n : Int)) := by decide
  unfold othI Kg54.others Kg54.whole
  rw [e, List.filter_map]
  congr 1
  refine List.filter_congr fun y hy => ?_
  have hy4 : y < 4 := List.mem_range.mp hy
  show (decide ((y : Int) ≠ (x : Int)) && !decide (pt (Kg54.whole b) (y : Int) = 13)) = (y != x && Kg54.inPlay b y)
  rw [out_iff hb hy4, Bool.not_not]
  congr 1
  by_cases h : y = x
  · subst h; simp
  · have h' : ¬ ((y : Int) = (x : Int)) := by omega
    rw [decide_eq_true h', bne_iff_ne.mpr h]
theorem owedI_eq (l : Bool) (p d m : Nat) : owedI (Kg54.truth l : Int) (p : Int) (d : Int) (m : Int) = (Cq.owesN l p d m : Int) := by
  unfold owedI Cq.owesN cameI min12
  cases l with
  | false => simp [Kg54.truth]
  | true =>
    simp only [Kg54.truth, if_true, Bool.and_eq_true, Bool.or_eq_true, decide_eq_true_eq]
    have e1 : ¬ (((1 : Nat) : Int) = 0) := by decide
    rw [if_neg e1]
    have em : ((if (12 : Int) < (p : Int) then (12 : Int) else (p : Int))) = ((min p 12 : Nat) : Int) := by
      by_cases h : 12 < p
      · rw [if_pos (by omega)]; omega
      · rw [if_neg (by omega)]; omega
    rw [em]
    generalize min p 12 = n
    rw [if_neg (by decide : ¬ (true = false))]
    by_cases hA : (d < 7 ∧ 7 ≤ n ∧ (d < 10 ∧ 10 ≤ n) ∧ m < 7)
    · rw [if_pos hA, if_pos (by omega)]; rfl
    · rw [if_neg hA, if_neg (by omega)]
      by_cases hB : ((d < 7 ∧ 7 ≤ n) ∨ (d < 10 ∧ 10 ≤ n))
      · rw [if_pos hB, if_pos (by omega)]; rfl
      · rw [if_neg hB, if_neg (by omega)]; rfl
theorem mem4W (b : Int) : decide (b ∈ ([0, 1, 2, 3] : List Int)) = Kg54.within b 0 3 := by
  unfold Kg54.within
  rw [Bool.eq_iff_iff, Bool.and_eq_true, decide_eq_true_eq, decide_eq_true_eq, decide_eq_true_eq]
  simp only [List.mem_cons, List.not_mem_nil, or_false]
  omega
theorem mem3W (b : Int) : decide (b ∈ ([0, 1, 2] : List Int)) = Kg54.within b 0 2 := by
  unfold Kg54.within
  rw [Bool.eq_iff_iff, Bool.and_eq_true, decide_eq_true_eq, decide_eq_true_eq, decide_eq_true_eq]
  simp only [List.mem_cons, List.not_mem_nil, or_false]
  omega
theorem mem2W (b : Int) : decide (b ∈ ([0, 1] : List Int)) = Kg54.within b 0 1 := by
  unfold Kg54.within
  rw [Bool.eq_iff_iff, Bool.and_eq_true, decide_eq_true_eq, decide_eq_true_eq, decide_eq_true_eq]
  simp only [List.mem_cons, List.not_mem_nil, or_false]
  omega
theorem within_iff {z lo hi : Int} : Kg54.within z lo hi = true ↔ lo ≤ z ∧ z ≤ hi := by
  unfold Kg54.within
  rw [Bool.and_eq_true, decide_eq_true_eq, decide_eq_true_eq]
theorem encW_none {w : Option Nat} : Cq.encW w = -1 ↔ w = none := by
  cases w with
  | none => exact ⟨fun _ => rfl, fun _ => rfl⟩
  | some n => exact ⟨fun h => by have h : (n : Int) = -1 := h; omega, fun h => by cases h⟩
/-- a game goes on, or not -/
theorem rel_cases {st : Kg54.State} {o : GO} (R : RelS st o) : (ngo o = true ∧ ∀ f, Kg54.onGame st f = (st, Kg54.num (-2))) ∨ (ngo o = false ∧ ∃ g G u Gm, o = some (g, G, u) ∧ st = some Gm ∧ RelG Gm G u ∧ Gm.won = none ∧ G.winner = -1 ∧ RelGo Gm G u ∧ Cq.GOk Gm ∧ ∀ f, Kg54.onGame st f = f Gm) := by
  cases st with
  | none =>
    cases o with
    | none => exact .inl ⟨rfl, fun f => rfl⟩
    | some x => exact R.elim
  | some Gm =>
    cases o with
    | none => exact R.elim
    | some x =>
      obtain ⟨g, G, u⟩ := x
      have R : RelG Gm G u := R
      cases hw : Gm.won with
      | none =>
        have e : G.winner = -1 := by rw [R.wi, hw]; rfl
        refine .inr ⟨by simp [ngo, e], g, G, u, Gm, rfl, rfl, R, hw, e, R.go hw, R.ok.ok hw, fun f => ?_⟩
        unfold Kg54.onGame
        simp [hw]
      | some w =>
        have e : ¬ G.winner = -1 := fun z => by rw [R.wi, encW_none] at z; rw [z] at hw; cases hw
        refine .inl ⟨by simp [ngo, e], fun f => ?_⟩
        unfold Kg54.onGame
        simp [hw]
theorem turn_some {t : Option Kg54.Turn} {u : Option (PySem.Addr × UV)} (h : RelTo t u) : t.isSome = u.isSome := by
  cases t <;> cases u <;> first | rfl | exact h.elim
/-! ### turn -/
theorem turn_ok {st : Kg54.State} {o : GO} (R : RelS st o) (b h : Int) : (refT o b h < 0 ∧ Kg54Neutral.step st [[2, b, h]] = (st, [refT o b h])) ∨
    (refT o b h = 0 ∧ ∃ g G Gm, o = some (g, G, none) ∧ st = some Gm ∧ RelG Gm G none ∧ Gm.won = none ∧ G.winner = -1 ∧ (0 ≤ b ∧ b < 4) ∧ Kg54.sideOf b.toNat = Gm.side ∧ Kg54.inPlay Gm.balls b.toNat = true ∧
      Kg54Neutral.step st [[2, b, h]] = (some { Gm with turn := some (Kg54.begun Gm b.toNat false), last := none, owed := 0 }, [0])) := by
  have es : Kg54Neutral.step st [[2, b, h]] = ((Kg54.spec st (.turn b h)).1, (Kg54.spec st (.turn b h)).2.value :: (Kg54.spec st (.turn b h)).2.out) := rfl
  rw [es]
  unfold refT Kg54.spec
  dsimp only
  rw [mem4W, mem3W]
  cases hw : (Kg54.within b 0 3 && Kg54.within h 0 2) with
  | false =>
    left
    have e : (!Kg54.within b 0 3 || !Kg54.within h 0 2) = true := by
      rw [← Bool.not_and, hw]; rfl
    rw [if_pos e, if_pos rfl]
    exact ⟨by decide, rfl⟩
  | true =>
    have e : (!Kg54.within b 0 3 || !Kg54.within h 0 2) = false := by
      rw [← Bool.not_and, hw]; rfl
    rw [iF e, if_neg (by decide : ¬ (true = false))]
    rw [Bool.and_eq_true, within_iff, within_iff] at hw
    have hb : 0 ≤ b ∧ b < 4 := by omega
    rcases rel_cases R with ⟨hn, f⟩ | ⟨hn, g, G, u, Gm, rfl, rfl, Rg, hw2, ew, Go, ok, f⟩
    · left
      rw [iT hn, f]
      exact ⟨by decide, rfl⟩
    · rw [iF hn, f]
      dsimp only
      rw [turn_some Go.turn]
      cases hu : u with
      | some x =>
        left
        simp [Kg54.num]
      | none =>
        subst hu
        obtain ⟨n, rfl⟩ : ∃ n : Nat, b = n := ⟨b.toNat, by omega⟩
        have hn4 : n < 4 := by omega
        rw [Int.toNat_natCast, Rg.xs, out_iff Rg.ok.balls hn4, Go.side, Go.owed]
        have c1 : decide ((n : Int) % 2 ≠ (Gm.side : Int)) = decide (Kg54.sideOf n ≠ Gm.side) := by
          unfold Kg54.sideOf
          rw [Bool.eq_iff_iff, decide_eq_true_eq, decide_eq_true_eq]
          omega
        rw [c1]
        simp only [Option.isSome_none, Bool.false_eq_true, if_false]
        by_cases c : Kg54.sideOf n ≠ Gm.side ∨ Kg54.inPlay Gm.balls n = false
        · left
          rw [if_pos c, if_pos (by rcases c with c | c <;> simp [c])]
          exact ⟨by decide, rfl⟩
        · have c2 : ¬ ((decide (Kg54.sideOf n ≠ Gm.side) || !Kg54.inPlay Gm.balls n) = true) := by
            intro z
            rw [Bool.or_eq_true, decide_eq_true_eq, Bool.not_eq_true'] at z
            exact c z
          rw [if_neg c, if_neg c2]
          by_cases d : (Gm.owed : Int) < h
          · left
            rw [if_pos d, if_pos (decide_eq_true d)]
            exact ⟨by decide, rfl⟩
          · right
            rw [if_neg d, if_neg (by rw [decide_eq_true_eq]; exact d)]
            have c3 : Kg54.sideOf n = Gm.side := Classical.byContradiction fun z => c (.inl z)
            have c4 : Kg54.inPlay Gm.balls n = true := by
              cases q : Kg54.inPlay Gm.balls n with
              | true => rfl
              | false => exact absurd (.inr q) c
            exact ⟨rfl, g, G, Gm, rfl, rfl, Rg, hw2, ew, hb, c3, c4, rfl⟩
/-! ### pass, wired, time -/
theorem pass_ok {st : Kg54.State} {o : GO} (R : RelS st o) : (refB o < 0 ∧ Kg54Neutral.step st [[4]] = (st, [refB o])) ∨
    (refB o = 0 ∧ ∃ g G Gm, o = some (g, G, none) ∧ st = some Gm ∧ RelG Gm G none ∧ Gm.won = none ∧ G.winner = -1 ∧ Kg54Neutral.step st [[4]] = (some (Gm.pass none), [(Kg54.stands (Gm.pass none) : Int)])) := by
  have es : Kg54Neutral.step st [[4]] = ((Kg54.spec st .pass).1, (Kg54.spec st .pass).2.value :: (Kg54.spec st .pass).2.out) := rfl
  rw [es]
  unfold refB Kg54.spec
  dsimp only
  rcases rel_cases R with ⟨hn, f⟩ | ⟨hn, g, G, u, Gm, rfl, rfl, Rg, hw2, ew, Go, ok, f⟩
  · left
    rw [iT hn, f]
    exact ⟨by decide, rfl⟩
  · rw [iF hn, f]
    dsimp only
    rw [turn_some Go.turn]
    cases hu : u with
    | some x => left; simp [Kg54.num]
    | none =>
      subst hu
      right
      simp only [Option.isSome_none, Bool.false_eq_true, if_false]
      exact ⟨rfl, g, G, Gm, rfl, rfl, Rg, hw2, ew, rfl⟩
theorem wired_ok {st : Kg54.State} {o : GO} (R : RelS st o) : (refB o < 0 ∧ Kg54Neutral.step st [[6]] = (st, [refB o])) ∨
    (refB o = 0 ∧ ∃ g G Gm, o = some (g, G, none) ∧ st = some Gm ∧ RelG Gm G none ∧ Gm.won = none ∧ G.winner = -1 ∧ Kg54Neutral.step st [[6]] = (some { Gm with owed := max Gm.owed 1 }, [((max Gm.owed 1 : Nat) : Int)])) := by
  have es : Kg54Neutral.step st [[6]] = ((Kg54.spec st .wired).1, (Kg54.spec st .wired).2.value :: (Kg54.spec st .wired).2.out) := rfl
  rw [es]
  unfold refB Kg54.spec
  dsimp only
  rcases rel_cases R with ⟨hn, f⟩ | ⟨hn, g, G, u, Gm, rfl, rfl, Rg, hw2, ew, Go, ok, f⟩
  · left
    rw [iT hn, f]
    exact ⟨by decide, rfl⟩
  · rw [iF hn, f]
    dsimp only
    rw [turn_some Go.turn]
    cases hu : u with
    | some x => left; simp [Kg54.num]
    | none =>
      subst hu
      right
      simp only [Option.isSome_none, Bool.false_eq_true, if_false]
      exact ⟨rfl, g, G, Gm, rfl, rfl, Rg, hw2, ew, rfl⟩
theorem time_ok {st : Kg54.State} {o : GO} (R : RelS st o) : (refC o < 0 ∧ Kg54Neutral.step st [[7]] = (st, [refC o])) ∨
    (refC o = 0 ∧ ∃ g G u Gm, o = some (g, G, u) ∧ st = some Gm ∧ RelG Gm G u ∧ Gm.won = none ∧ G.winner = -1 ∧ Kg54Neutral.step st [[7]] = (some { Gm with time := 1, last := none }, [0])) := by
  have es : Kg54Neutral.step st [[7]] = ((Kg54.spec st .time).1, (Kg54.spec st .time).2.value :: (Kg54.spec st .time).2.out) := rfl
  rw [es]
  unfold refC Kg54.spec
  dsimp only
  rcases rel_cases R with ⟨hn, f⟩ | ⟨hn, g, G, u, Gm, rfl, rfl, Rg, hw2, ew, Go, ok, f⟩
  · left
    rw [iT hn, f]
    exact ⟨by decide, rfl⟩
  · rw [iF hn, f]
    dsimp only
    rw [Go.time]
    by_cases h : Gm.time = 0
    · right
      refine ⟨iT (by simp [h]), g, G, u, Gm, rfl, rfl, Rg, hw2, ew, ?_⟩
      simp [h, Kg54.num]
    · left
      have e0 : decide ((Gm.time : Int) = 0) = false := decide_eq_false (by omega)
      rw [iF e0]
      refine ⟨by decide, ?_⟩
      simp [h, Kg54.num]
/-! ### more -/
theorem more_ok {st : Kg54.State} {o : GO} (R : RelS st o) (h : Int) : (refM o h < 0 ∧ Kg54Neutral.step st [[5, h]] = (st, [refM o h])) ∨
    (refM o h = 0 ∧ ∃ g G u Gm t, o = some (g, G, u) ∧ st = some Gm ∧ RelG Gm G u ∧ Gm.won = none ∧ G.winner = -1 ∧ Gm.last = some t ∧ G.last = (t.ball : Int) ∧ t.ball < 4 ∧ Kg54.inPlay Gm.balls t.ball = true ∧ Kg54.sideOf t.ball = Kg54.other Gm.side ∧ (h = 0 ∨ h = 1) ∧ (if h = 1 then 1 else 2) ≤ Gm.more.getD (Kg54.other Gm.side) 0 ∧
      Kg54Neutral.step st [[5, h]] = (some { Gm with side := Kg54.other Gm.side, more := Gm.more.set (Kg54.other Gm.side) (Gm.more.getD (Kg54.other Gm.side) 0 - (if h = 1 then 1 else 2)), turn := some (Kg54.begun Gm t.ball (h == 1)), last := none, owed := 0 }, [((Gm.more.getD (Kg54.other Gm.side) 0 - (if h = 1 then 1 else 2) : Nat) : Int)])) := by
  have es : Kg54Neutral.step st [[5, h]] = ((Kg54.spec st (.more h)).1, (Kg54.spec st (.more h)).2.value :: (Kg54.spec st (.more h)).2.out) := rfl
  rw [es]
  unfold refM Kg54.spec
  dsimp only
  rw [mem2W]
  cases hw : Kg54.within h 0 1 with
  | false =>
    left
    rw [if_pos (by decide), if_pos rfl]
    exact ⟨by decide, rfl⟩
  | true =>
    rw [if_neg (by decide), if_neg (by decide : ¬ (true = false))]
    rw [within_iff] at hw
    rcases rel_cases R with ⟨hn, f⟩ | ⟨hn, g, G, u, Gm, rfl, rfl, Rg, hw2, ew, Go, ok, f⟩
    · left
      rw [iT hn, f]
      exact ⟨by decide, rfl⟩
    · rw [iF hn, f]
      dsimp only
      by_cases ht : Gm.time = 0
      · have hl := Go.last ht
        have e0 : decide (G.time ≠ 0) = false := by rw [Go.time, ht]; rfl
        rw [e0, Bool.or_false]
        cases hL : Gm.last with
        | none =>
          left
          have hl' : G.last = -1 := by rw [hl, hL]; rfl
          rw [hl']
          simp [Kg54.num]
        | some t =>
          obtain ⟨h4, hsd⟩ := ok.last t hL
          have hl' : G.last = (t.ball : Int) := by rw [hl, hL]; rfl
          have ln : ¬ (decide ((t.ball : Int) = -1) = true) := by
            rw [decide_eq_true_eq]; omega
          rw [hl', if_neg ln, Rg.xs, out_iff Rg.ok.balls h4]
          cases hp : Kg54.inPlay Gm.balls t.ball with
          | false => left; simp [Kg54.num, hp]
          | true =>
            rw [if_neg (by decide)]
            have em : ((t.ball : Int) % 2) = ((Kg54.other Gm.side : Nat) : Int) := by
              rw [← hsd]; unfold Kg54.sideOf; omega
            have ep : pt G.ms ((t.ball : Int) % 2) = ((Gm.more.getD (Kg54.other Gm.side) 0 : Nat) : Int) := by
              rw [em, Rg.ms, pt_whole]; rfl
            rw [ep]
            have ec : ((if h = 1 then (1 : Int) else 2)) = (((if h = 1 then 1 else 2 : Nat)) : Int) := by split <;> rfl
            rw [ec]
            have cz : (decide (((Gm.more.getD (Kg54.other Gm.side) 0 : Nat) : Int) < (((if h = 1 then 1 else 2 : Nat)) : Int)) = true) = (Gm.more.getD (Kg54.other Gm.side) 0 < (if h = 1 then 1 else 2)) := by rw [decide_eq_true_eq]; apply propext; omega
            simp only [cz, hp, Bool.true_eq_false, if_false]
            by_cases hc : Gm.more.getD (Kg54.other Gm.side) 0 < (if h = 1 then 1 else 2)
            · left
              rw [if_pos hc]
              refine ⟨by decide, ?_⟩
              rw [if_pos hc]
              rfl
            · right
              rw [if_neg hc]
              refine ⟨rfl, g, G, u, Gm, t, rfl, rfl, Rg, hw2, ew, hL, hl', h4, hp, hsd, by omega, by omega, ?_⟩
              rw [if_neg hc]
              rfl
      · left
        have e0 : decide (G.time ≠ 0) = true := by rw [decide_eq_true_eq, Go.time]; omega
        rw [e0, Bool.or_true, if_pos rfl, ok.late ht]
        exact ⟨by decide, rfl⟩
/-! ### begin -/
theorem begin_ok (st : Kg54.State) (l f x y : Int) : (refG l f [x, y] < 0 ∧ Kg54Neutral.step st [[1, l, f, x, y]] = (st, [refG l f [x, y]])) ∨
    (refG l f [x, y] = 0 ∧ (l = 0 ∨ l = 1) ∧ (f = 0 ∨ f = 1) ∧ (0 ≤ x ∧ x ≤ 40) ∧ (0 ≤ y ∧ y ≤ 40) ∧ Kg54Neutral.step st [[1, l, f, x, y]] = (some ⟨l == 1, [0, 0, 0, 0], [x.toNat, y.toNat], f.toNat, none, none, 0, 0, none⟩, [0])) := by
  have es : Kg54Neutral.step st [[1, l, f, x, y]] = ((Kg54.spec st (.begin_ l f x y)).1, (Kg54.spec st (.begin_ l f x y)).2.value :: (Kg54.spec st (.begin_ l f x y)).2.out) := rfl
  rw [es]
  unfold refG Kg54.spec
  dsimp only
  rw [mem2W, mem2W]
  have ea : (([x, y] : List Int).all fun n => decide (0 ≤ n) && decide (n ≤ 40)) = (Kg54.within x 0 40 && Kg54.within y 0 40) := by
    unfold Kg54.within
    simp
  rw [ea]
  cases h1 : Kg54.within l 0 1 with
  | false => left; simp [Kg54.num]
  | true =>
    cases h2 : Kg54.within f 0 1 with
    | false => left; simp [Kg54.num]
    | true =>
      cases h3 : Kg54.within x 0 40 with
      | false => left; simp [Kg54.num]
      | true =>
        cases h4 : Kg54.within y 0 40 with
        | false => left; simp [Kg54.num]
        | true =>
          right
          rw [within_iff] at h1 h2 h3 h4
          refine ⟨rfl, by omega, by omega, h3, h4, rfl⟩
end Hg
set_option Elab.async false
set_option linter.all false
set_option maxRecDepth 100000
set_option maxHeartbeats 2000000
namespace Hg
open L2
/-! ### how it stands -/
theorem stands_rel {Gm : Kg54.Game} {G : GV} {u : Option (PySem.Addr × UV)} (R : RelG Gm G u) : stt G.winner u = (Kg54.stands Gm : Int) := by
  unfold stt Kg54.stands
  rw [R.wi]
  cases hw : Gm.won with
  | some w =>
    rw [if_neg (by rw [encW_none]; intro z; cases z)]; rfl
  | none =>
    rw [if_pos (show Cq.encW none = -1 from rfl), if_neg (by simp : ¬ ((none : Option Nat).isSome = true))]
    have Go := R.go hw
    have ht := Go.turn
    cases hu : u with
    | none =>
      rw [hu] at ht
      cases hq : Gm.turn with
      | none => rfl
      | some t => rw [hq] at ht; exact ht.elim
    | some x =>
      rw [hu] at ht
      cases hq : Gm.turn with
      | none => rw [hq] at ht; exact ht.elim
      | some t =>
        rw [hq] at ht
        have ht : RelT t x.2 := ht
        unfold stu
        dsimp only
        rw [ht.bes]
        cases hn : t.next with
        | single => rfl
        | croquet y =>
          rw [if_neg (by show ¬ ((y : Int) = -1); omega)]; rfl
/-! ### a turn is over -/
theorem pass_rel {Gm : Kg54.Game} {G : GV} {tt : Option Kg54.Turn} {o L : Int} (xs : G.xs = Kg54.whole Gm.balls) (ms : G.ms = Kg54.whole Gm.more) (li : G.lifts = (Kg54.truth Gm.lifts : Int)) (hw : Gm.won = none) (gw : G.winner = -1)
    (sd : G.side = (Gm.side : Int)) (hs : Gm.side < 2) (ti : G.time = (Gm.time : Int)) (g0 : Kg54.gone Gm.balls 0 = false) (g1 : Kg54.gone Gm.balls 1 = false)
    (ow : o = ((match tt with
      | some u => Kg54.owes Gm u
      | none => 0 : Nat) : Int)) (hL : L = lastB tt) (la : L = -1 ∨ (0 ≤ L ∧ L < 4)) (sok : Cq.SOk (Gm.pass tt)) : RelG (Gm.pass tt) { handed G o with last := L } none := by
  have es : (1 : Int) - G.side = ((Kg54.other Gm.side : Nat) : Int) := by rw [sd]; unfold Kg54.other; omega
  unfold Kg54.Game.pass at sok ⊢
  dsimp only at sok ⊢
  by_cases h1 : Gm.time = 1
  · have e : handed G o = _ := if_pos (by rw [ti, h1]; rfl)
    rw [if_pos h1] at sok
    rw [if_pos h1, e]
    exact ⟨xs, ms, li, (by dsimp only; rw [hw]; exact gw), la, fun _ => ⟨es, ow, rfl, True.intro, (fun z => absurd (show (2 : Nat) = 0 from z) (by decide)), (fun t U z => nomatch z)⟩, sok, fun _ => rfl⟩
  · have e1 : ¬ G.time = 1 := by rw [ti]; omega
    rw [if_neg h1] at sok
    rw [if_neg h1]
    by_cases h2 : Gm.time = 2
    · have e : handed G o = _ := (if_neg e1).trans (if_pos (by rw [ti, h2]; rfl))
      rw [if_pos h2] at sok
      rw [if_pos h2, e]
      refine ⟨xs, ms, li, ?_, la, fun _ => ⟨es, ow, rfl, True.intro, (fun z => absurd (show (3 : Nat) = 0 from z) (by decide)), (fun t U z => nomatch z)⟩, sok, fun _ => rfl⟩
      show ldr G.xs = _
      rw [xs, ldr_whole]
      refine Cq.lead_eq ?_ ?_
      · rcases (show Gm.side = 0 ∨ Gm.side = 1 by omega) with z | z <;> rw [z] <;> assumption
      · rcases (show Gm.side = 0 ∨ Gm.side = 1 by omega) with z | z <;> rw [z] <;> assumption
    · have e2 : ¬ G.time = 2 := by rw [ti]; omega
      have e : handed G o = _ := (if_neg e1).trans (if_neg e2)
      rw [if_neg h2] at sok
      rw [if_neg h2, e]
      by_cases h3 : Gm.time = 3
      · rw [if_pos h3] at sok
        rw [if_pos h3]
        refine ⟨xs, ms, li, (by dsimp only; rw [hw]; exact gw), la, fun _ => ⟨es, ow, ti, True.intro, (fun z => ?_), (fun t U z => nomatch z)⟩, sok, fun _ => rfl⟩
        have z : Gm.time = 0 := z
        omega
      · rw [if_neg h3] at sok
        rw [if_neg h3]
        exact ⟨xs, ms, li, (by dsimp only; rw [hw]; exact gw), la, fun _ => ⟨es, ow, ti, True.intro, (fun z => hL), (fun t U z => nomatch z)⟩, sok, fun _ => rfl⟩
/-! ### a stroke's numbers -/
def mkK (S : SV) : Kg54.Stroke := ⟨if S.hit < 0 then none else some S.hit.toNat, S.hoop == 1, S.fault == 1, S.ran.map Int.toNat, S.peg.map Int.toNat, S.off.map Int.toNat⟩
theorem strokeOf_eq (S : SV) : Kg54.strokeOf S.hit S.hoop S.fault S.ran S.peg S.off = if inrI S = true then some (mkK S) else none := by
  have e : (Kg54.within S.hit (-1) 3 && (Kg54.within S.hoop 0 1 && (Kg54.within S.fault 0 1 && ((S.ran ++ (S.peg ++ S.off)).all fun z => Kg54.within z 0 3)))) = inrI S := by
    unfold inrI
    rw [mem4W, mem2W, mem2W, List.append_assoc]
    have ea : ((S.ran ++ (S.peg ++ S.off)).all fun b => decide (b ∈ ([0, 1, 2, 3] : List Int))) = ((S.ran ++ (S.peg ++ S.off)).all fun z => Kg54.within z 0 3) := by
      congr 1
      funext b
      exact mem4W b
    rw [ea]
    have eh : Kg54.within S.hit (-1) 3 = !(decide (S.hit ≠ -1) && !Kg54.within S.hit 0 3) := by
      unfold Kg54.within
      rw [Bool.eq_iff_iff]
      simp only [Bool.and_eq_true, decide_eq_true_eq, Bool.not_eq_true', Bool.and_eq_false_iff, decide_eq_false_iff_not, Bool.not_eq_false']
      omega
    rw [eh]
    cases (decide (S.hit ≠ -1) && !Kg54.within S.hit 0 3) <;> cases Kg54.within S.hoop 0 1 <;> cases Kg54.within S.fault 0 1 <;> simp
  unfold Kg54.strokeOf
  rw [e]
  rfl
theorem whole_toNat : ∀ {l : List Int}, In4 l → Kg54.whole (l.map Int.toNat) = l
  | [], _ => rfl
  | x :: l, h => by
    have ih := whole_toNat (l := l) fun b hb => h b (List.mem_cons_of_mem _ hb)
    have hx := h x List.mem_cons_self
    unfold Kg54.whole at ih ⊢
    rw [List.map_cons, List.map_cons, ih]
    congr 1
    omega
theorem mem_whole {l : List Nat} {x : Nat} : ((x : Int) ∈ Kg54.whole l) ↔ x ∈ l := by
  unfold Kg54.whole
  rw [List.mem_map]
  constructor
  · rintro ⟨y, hy, e⟩
    have : y = x := by omega
    rw [← this]; exact hy
  · intro h
    exact ⟨x, h, rfl⟩
theorem mem_toNat {l : List Int} (h : In4 l) {x : Nat} : ((x : Int) ∈ l) ↔ x ∈ l.map Int.toNat := by
  rw [← mem_whole, whole_toNat h]
theorem nodup_whole {l : List Nat} : (Kg54.whole l).Nodup ↔ l.Nodup := by
  unfold Kg54.whole
  constructor
  · intro h
    exact List.Pairwise.of_map (S := fun a b => a ≠ b) _ (fun a b hab e => hab (by rw [e])) h
  · intro h
    exact List.Pairwise.map _ (fun a b hab e => hab (by omega)) h
theorem nodup_toNat {l : List Int} (h : In4 l) : l.Nodup ↔ (l.map Int.toNat).Nodup := by
  rw [← nodup_whole, whole_toNat h]
section
variable {b c : List Nat} {t : Kg54.Turn} {U : UV} {S : SV} {sd : Nat}
structure SIn (S : SV) : Prop where
  hit : S.hit = -1 ∨ (0 ≤ S.hit ∧ S.hit < 4)
  ran : In4 S.ran
  peg : In4 S.peg
  off : In4 S.off
theorem toldI_iff (hb : Cq.BOk b) {l : List Int} (h : In4 l) : toldI (Kg54.whole b) l = true ↔ (l.map Int.toNat).Nodup ∧ ∀ x ∈ l.map Int.toNat, Kg54.inPlay b x = true := by
  unfold toldI
  rw [Bool.and_eq_true, decide_eq_true_eq, Bool.not_eq_true', ← nodup_toNat h, ← setN_nodup]
  refine and_congr (by omega) ?_
  rw [← Bool.not_eq_true, List.any_eq_true]
  constructor
  · intro q x hx
    obtain ⟨y, hy, rfl⟩ := List.mem_map.mp hx
    obtain ⟨h0, h4⟩ := h y hy
    obtain ⟨n, rfl⟩ : ∃ n : Nat, y = n := ⟨y.toNat, by omega⟩
    rw [Int.toNat_natCast]
    cases e : Kg54.inPlay b n with
    | true => rfl
    | false =>
      refine absurd ⟨(n : Int), hy, ?_⟩ q
      rw [out_iff hb (by omega), e]; rfl
  · rintro q ⟨y, hy, e⟩
    obtain ⟨h0, h4⟩ := h y hy
    obtain ⟨n, rfl⟩ : ∃ n : Nat, y = n := ⟨y.toNat, by omega⟩
    rw [out_iff hb (by omega)] at e
    have := q n (List.mem_map.mpr ⟨(n : Int), hy, Int.toNat_natCast n⟩)
    rw [this] at e; cases e
theorem hit_cases (h : SIn S) : (S.hit = -1 ∧ (mkK S).hit = none) ∨ ∃ x : Nat, x < 4 ∧ S.hit = (x : Int) ∧ (mkK S).hit = some x := by
  rcases h.hit with e | e
  · exact .inl ⟨e, by unfold mkK; dsimp only; rw [if_pos (by omega)]⟩
  · exact .inr ⟨S.hit.toNat, by omega, by omega, by unfold mkK; dsimp only; rw [if_neg (by omega)]⟩
theorem can_eq (hb : Cq.BOk b) (ht : Cq.TOk b sd t) (rt : RelT t U) (hs : SIn S) : canI (Kg54.whole b) U S = Kg54.couldBe b t (mkK S) := by
  rw [Bool.eq_iff_iff, Cq.could_iff]
  have hin := ht.inp
  have hb4 := ht.ball
  have m12 : decide (pt (Kg54.whole b) (t.ball : Int) = 12) = true ↔ Kg54.made b t.ball = 12 := by rw [pt_whole, decide_eq_true_eq]; omega
  have lt13 := (Cq.inPlay_lt hin).2
  unfold canI
  rw [rt.ball]
  constructor
  · intro h
    split at h
    · cases h
    · rename_i h1
      split at h
      · cases h
      · rename_i h2
        split at h
        · cases h
        · rename_i h3
          rw [Bool.or_eq_true, decide_eq_true_eq, decide_eq_true_eq] at h1
          rw [Bool.and_eq_true, decide_eq_true_eq] at h2 h3
          rw [Bool.and_eq_true, Bool.and_eq_true, toldI_iff hb hs.ran, toldI_iff hb hs.peg, toldI_iff hb hs.off] at h
          refine ⟨fun x e => ?_, fun e => ?_, h.1.1, h.2.1.1, h.2.2.1, h.1.2, h.2.1.2, h.2.2.2, fun m => h1 (.inr ((mem_toNat hs.ran).mpr m))⟩
          · rcases hit_cases hs with ⟨z1, z2⟩ | ⟨y, hy, z1, z2⟩
            · rw [z2] at e; cases e
            · rw [z2] at e
              cases e
              refine ⟨fun z => h1 (.inl (by rw [z1, z])), ?_⟩
              cases q : Kg54.inPlay b x with
              | true => rfl
              | false => exact absurd ⟨by omega, by rw [z1, out_iff hb hy, q]; rfl⟩ h2
          · have e : S.hoop = 1 := by simpa [mkK] using e
            have : ¬ Kg54.made b t.ball = 12 := fun z => h3 ⟨e, m12.mpr z⟩
            omega
  · intro h
    have n1 : ¬ ((decide (S.hit = (t.ball : Int)) || decide ((t.ball : Int) ∈ S.ran)) = true) := by
      rw [Bool.or_eq_true, decide_eq_true_eq, decide_eq_true_eq]
      rintro (z | z)
      · rcases hit_cases hs with ⟨z1, z2⟩ | ⟨y, hy, z1, z2⟩
        · omega
        · have := (h.hit y z2).1
          omega
      · exact h.own ((mem_toNat hs.ran).mp z)
    have n2 : ¬ ((decide (S.hit ≠ -1) && decide (pt (Kg54.whole b) S.hit = 13)) = true) := by
      rw [Bool.and_eq_true, decide_eq_true_eq]
      rintro ⟨z, z3⟩
      rcases hit_cases hs with ⟨z1, z2⟩ | ⟨y, hy, z1, z2⟩
      · exact z z1
      · rw [z1, out_iff hb hy, (h.hit y z2).2] at z3; cases z3
    have n3 : ¬ ((decide (S.hoop = 1) && decide (pt (Kg54.whole b) (t.ball : Int) = 12)) = true) := by
      rw [Bool.and_eq_true, decide_eq_true_eq]
      rintro ⟨z, z3⟩
      have := h.hoop (by simp [mkK, z])
      have := m12.mp z3
      omega
    rw [if_neg n1, if_neg n2, if_neg n3, Bool.and_eq_true, Bool.and_eq_true, toldI_iff hb hs.ran, toldI_iff hb hs.peg, toldI_iff hb hs.off]
    exact ⟨⟨h.nran, h.ran⟩, ⟨h.npeg, h.peg⟩, ⟨h.noff, h.off⟩⟩
/-! counting -/
theorem set_whole (c : List Nat) (x v : Nat) : (Kg54.whole c).set x (v : Int) = Kg54.whole (c.set x v) := by
  unfold Kg54.whole
  rw [List.map_set]
theorem ranI_whole (c : List Nat) (x : Nat) : ranI (Kg54.whole c) (x : Int) = Kg54.whole (Cq.ranStep c x) := by
  unfold ranI Cq.ranStep Kg54.bump
  rw [pt_whole, Int.toNat_natCast]
  by_cases h : Kg54.made c x < 12
  · rw [if_pos h, if_pos (by rw [decide_eq_true_eq]; omega), ← set_whole]; rfl
  · rw [if_neg h, if_neg (by rw [decide_eq_true_eq]; omega)]
theorem pegI_whole (c : List Nat) (x : Nat) : pegI (Kg54.whole c) (x : Int) = Kg54.whole (Cq.pegStep c x) := by
  unfold pegI Cq.pegStep
  rw [pt_whole, Int.toNat_natCast]
  by_cases h : Kg54.made c x = 12
  · rw [if_pos h, if_pos (by rw [decide_eq_true_eq]; omega), ← set_whole]; rfl
  · rw [if_neg h, if_neg (by rw [decide_eq_true_eq]; omega)]
theorem fold_whole {f : List Int → Int → List Int} {g : List Nat → Nat → List Nat} (hf : ∀ c (x : Nat), f (Kg54.whole c) (x : Int) = Kg54.whole (g c x)) : ∀ {l : List Int} (c : List Nat), In4 l → l.foldl f (Kg54.whole c) = Kg54.whole ((l.map Int.toNat).foldl g c)
  | [], c, _ => rfl
  | x :: l, c, h => by
    have hx := h x List.mem_cons_self
    obtain ⟨n, rfl⟩ : ∃ n : Nat, x = n := ⟨x.toNat, by omega⟩
    rw [List.foldl_cons, hf, List.map_cons, List.foldl_cons, Int.toNat_natCast]
    exact fold_whole hf (g c n) fun y hy => h y (List.mem_cons_of_mem _ hy)
theorem h1I_whole (c : List Nat) (h : Int) (x : Nat) : h1I h (x : Int) (Kg54.whole c) = Kg54.whole (Cq.hoops1 (h == 1) x c) := by
  unfold h1I Cq.hoops1 Kg54.bump
  rw [pt_whole, Int.toNat_natCast]
  by_cases e : h = 1
  · rw [if_pos (by simp [e]), if_pos (by simp [e]), ← set_whole]; rfl
  · rw [if_neg (by simp [e]), if_neg (by simp [e])]
theorem half_iff (rt : RelT t U) : (U.half = 1 ↔ t.half = true) ∧ (U.half = 0 ↔ t.half = false) := by
  rw [rt.half]
  unfold Kg54.truth
  cases t.half <;> simp
theorem cnt_whole (rt : RelT t U) (hs : SIn S) : cntI (Kg54.whole b) U S = Kg54.whole (Cq.cnt t.half (mkK S).fault (mkK S).hoop t.ball (mkK S).ran (mkK S).peg b) := by
  unfold cntI Cq.cnt
  have hc : ((decide (S.fault = 1) || decide (U.half = 1)) = true) = ((mkK S).fault = true ∨ t.half = true) := by
    rw [Bool.or_eq_true, decide_eq_true_eq, decide_eq_true_eq, (half_iff rt).1]
    unfold mkK
    simp
  by_cases h : (mkK S).fault = true ∨ t.half = true
  · rw [if_pos h, if_pos (by rw [hc]; exact h)]
  · rw [if_neg h, if_neg (by rw [hc]; exact h), rt.ball, h1I_whole, fold_whole ranI_whole _ hs.ran]
    unfold pegsI Cq.pegs Cq.hoops2
    rw [pt_whole]
    show (if _ then _ else _) = Kg54.whole (if Kg54.made ((S.ran.map Int.toNat).foldl Cq.ranStep (Cq.hoops1 (S.hoop == 1) t.ball b)) t.ball = 12 then _ else _)
    by_cases q : Kg54.made ((S.ran.map Int.toNat).foldl Cq.ranStep (Cq.hoops1 (S.hoop == 1) t.ball b)) t.ball = 12
    · rw [if_pos q, if_pos (by rw [decide_eq_true_eq]; omega), fold_whole pegI_whole _ hs.peg]; rfl
    · rw [if_neg q, if_neg (by rw [decide_eq_true_eq]; omega)]; rfl
theorem hoop_eq (rt : RelT t U) : hoopC U S = Kg54.ranOwn t (mkK S) := by
  unfold hoopC Kg54.ranOwn
  have e1 : decide (S.hoop = 1) = (mkK S).hoop := by
    unfold mkK; dsimp only
    by_cases h : S.hoop = 1
    · simp [h]
    · rw [decide_eq_false h]; exact (beq_eq_false_iff_ne.mpr h).symm
  have e2 : decide (U.half = 0) = !t.half := by
    rw [Bool.eq_iff_iff, decide_eq_true_eq, (half_iff rt).2]; simp
  rw [e1, e2]
theorem live_eq (hb : Cq.BOk b) (rt : RelT t U) : liveI (Kg54.whole b) U S = Kg54.whole (Kg54.liveAt t (mkK S) b) := by
  unfold liveI Kg54.liveAt
  rw [hoop_eq rt]
  split
  · rw [rt.ball, othI_whole hb]
  · exact rt.live
theorem hitc_eq (hs : SIn S) : decide (S.hit ∈ Kg54.whole (Kg54.liveAt t (mkK S) b)) = Cq.hitC t (mkK S) b := by
  unfold Cq.hitC Kg54.roquet
  rcases hit_cases hs with ⟨z1, z2⟩ | ⟨y, hy, z1, z2⟩
  · rw [z2, z1]
    refine decide_eq_false fun m => ?_
    obtain ⟨n, _, e⟩ := List.mem_map.mp m
    omega
  · rw [z2, z1]
    dsimp only
    by_cases m : y ∈ Kg54.liveAt t (mkK S) b
    · rw [if_pos m, decide_eq_true (mem_whole.mpr m)]; rfl
    · rw [if_neg m, decide_eq_false (fun z => m (mem_whole.mp z))]; rfl
theorem RelT.strk (rt : RelT t U) : RelT { t with strokes := t.strokes + 1 } (strk U) := ⟨rt.ball, rt.half, rt.bes, by show U.strokes + 1 = ((t.strokes + 1 : Nat) : Int); rw [rt.str]; omega, rt.had, rt.mate, rt.live⟩
theorem loses_eq (hc : Cq.BOk c) (hb4 : t.ball < 4) (hn4 : ∀ x, t.next = .croquet x → x < 4) (rt : RelT t U) (hs : SIn S) (h : Bool) : losesI (Kg54.whole c) (strk U) S h = Cq.loses t (mkK S) c h := by
  unfold losesI Cq.loses
  have e0 : hoopC (strk U) S = Kg54.ranOwn t (mkK S) := (show hoopC (strk U) S = hoopC U S from rfl).trans (hoop_eq rt)
  have e1 : (strk U).ball = (t.ball : Int) := rt.ball
  have e2 : (strk U).beside = Cq.bes t.next := rt.bes
  have ef : decide (S.fault = 1) = (mkK S).fault := by
    unfold mkK; dsimp only
    by_cases h : S.fault = 1
    · simp [h]
    · rw [decide_eq_false h]; exact (beq_eq_false_iff_ne.mpr h).symm
  rw [e0, e1, e2, ef, out_iff hc hb4]
  by_cases h1 : (mkK S).fault = true ∨ Kg54.inPlay c t.ball = false
  · rw [if_pos h1, if_pos (by rcases h1 with z | z <;> simp [z])]
  · rw [if_neg h1, if_neg (by intro z; rw [Bool.or_eq_true, Bool.not_eq_true'] at z; exact h1 z)]
    cases hn : t.next with
    | single => rfl
    | croquet x =>
      have hx4 := hn4 x hn
      rw [show Cq.bes (.croquet x) = (x : Int) from rfl, if_neg (by rw [decide_eq_true_eq]; omega), out_iff hc hx4, Bool.not_not]
      have ho : ∀ z : Nat, decide ((z : Int) ∈ S.off) = decide (z ∈ (mkK S).off) := fun z => by
        rw [Bool.eq_iff_iff, decide_eq_true_eq, decide_eq_true_eq]
        exact mem_toNat hs.off
      rw [ho, ho]
      dsimp only
      by_cases h2 : x ∈ (mkK S).off ∧ Kg54.inPlay c x = true
      · rw [if_pos h2, if_pos (by simp [h2.1, h2.2])]
      · rw [if_neg h2, if_neg (by intro z; rw [Bool.and_eq_true, decide_eq_true_eq] at z; exact h2 z)]
theorem earns_eq (rt : RelT t U) (h : Bool) : earnsI (strk U) S h = Cq.earns t (mkK S) h := by
  unfold earnsI Cq.earns
  have e0 : hoopC (strk U) S = Kg54.ranOwn t (mkK S) := (show hoopC (strk U) S = hoopC U S from rfl).trans (hoop_eq rt)
  have e2 : (strk U).beside = Cq.bes t.next := rt.bes
  rw [e0, e2]
theorem next_rel (hc : Cq.BOk c) (rt : RelT t U) (hs : SIn S) (hl4 : ∀ y ∈ Kg54.liveAt t (mkK S) b, y < 4) (l : PySem.Addr) :
    RelT (Cq.nextT t (mkK S) b c) (nextU (Kg54.whole c) (Kg54.whole (Kg54.liveAt t (mkK S) b)) (strk U) S.hit l) := by
  refine ⟨rt.ball, rt.half, ?_, by show U.strokes + 1 = _; rw [rt.str]; rfl, rt.had, rt.mate, ?_⟩
  · show besI _ _ _ = Cq.bes _
    unfold besI Cq.nextT
    dsimp only
    rw [hitc_eq hs]
    rcases hit_cases hs with ⟨z1, z2⟩ | ⟨y, hy, z1, z2⟩
    · have : Cq.hitC t (mkK S) b = false := by
        unfold Cq.hitC Kg54.roquet
        rw [z2]; rfl
      rw [this, z2]; rfl
    · rw [z2, z1, out_iff hc hy, Bool.not_not]
      dsimp only
      by_cases q : Cq.hitC t (mkK S) b = true ∧ Kg54.inPlay c y = true
      · rw [if_pos q, if_pos (by rw [q.1, q.2]; rfl)]; rfl
      · rw [if_neg q, if_neg (by intro z; rw [Bool.and_eq_true] at z; exact q z)]; rfl
  · show nliv _ _ _ = Kg54.whole _
    unfold nliv Cq.nextT
    dsimp only
    unfold Kg54.whole
    rw [List.filter_map]
    congr 1
    refine List.filter_congr fun y hy => ?_
    show (decide ((y : Int) ≠ S.hit) && !decide (pt (Kg54.whole c) (y : Int) = 13)) = (decide ((mkK S).hit ≠ some y) && Kg54.inPlay c y)
    rw [out_iff hc (hl4 y hy), Bool.not_not]
    congr 1
    rcases hit_cases hs with ⟨z1, z2⟩ | ⟨x, hx, z1, z2⟩
    · rw [z1, z2, decide_eq_true (by omega), decide_eq_true (by intro z; cases z)]
    · rw [z1, z2]
      by_cases e : y = x
      · subst e; simp
      · rw [decide_eq_true (by omega), decide_eq_true (by intro z; exact e (Option.some.inj z).symm)]
end
end Hg
set_option Elab.async false
set_option linter.all false
set_option maxRecDepth 100000
set_option maxHeartbeats 2000000
namespace Hg
open PySem PySem.Spec PyProof.Rows L2
section
variable {P : Program} {w : World} {K : PySem.W.Frag} {mg : Str → Option Value} {base : Heap} {a : Adr} {H H1 H2 H3 : Hp} {g t s d R dxR : Addr} {G G1 : GV} {U : UV} {S : SV} {Q : VK} {E : XK} {C dx p x : Addr} {v v' : V} {st st' : Kg54.State} {o o' : GO} {W : DV}
/-! ### what belongs to a game -/
def inG : GO → Addr → Prop
  | none, _ => False
  | some (g, G, u), b => b = g ∨ b = G.p ∨ b = G.h ∨ ∃ x, u = some x ∧ (b = x.1 ∨ b = x.2.l)
def Big : HO → Prop
  | .lst _ => True
  | .ins _ _ fs => 7 ≤ fs.length
  | _ => False
theorem rel_win (Rg : RelG Gm G u) (x : Addr × UV) (hu : u = some x) : G.winner = -1 := by
  rw [Rg.wi, encW_none]
  cases e : Gm.won with
  | none => rfl
  | some w =>
    have := Rg.fin (by rw [e]; intro z; cases z)
    rw [this] at hu; cases hu
theorem inG_big (hO : GOp a H v o) (RS : RelS st o) {b : Addr} (h : inG o b) : ∃ ob, H b = some ob ∧ Big ob := by
  cases o with
  | none => exact h.elim
  | some x =>
    obtain ⟨g, G, u⟩ := x
    obtain ⟨rfl, hG, ho⟩ := hO
    cases st with
    | none => exact RS.elim
    | some Gm =>
      have RS : RelG Gm G u := RS
      rcases h with rfl | rfl | rfl | ⟨⟨t, U⟩, hu, rfl | rfl⟩
      · exact ⟨_, hG.ob, by show 7 ≤ 9; decide⟩
      · exact ⟨_, hG.pt, True.intro⟩
      · exact ⟨_, hG.ht, True.intro⟩
      · have := ho (rel_win RS _ hu)
        rw [hu] at this
        exact ⟨_, this.2.ob, Nat.le_refl 7⟩
      · have := ho (rel_win RS _ hu)
        rw [hu] at this
        exact ⟨_, this.2.lv, True.intro⟩
theorem inG_no (hO : GOp a H v o) (RS : RelS st o) {b : Addr} {ob : HO} (hb : H b = some ob) (n : ¬ Big ob) : ¬ inG o b := fun h => by
  obtain ⟨ob', e, z⟩ := inG_big hO RS h
  rw [hb] at e
  cases e
  exact n z
/-- the calls' list, as it was handed in -/
def SqF (K : PySem.W.Frag) (H : Hp) (c : Addr) (xs : List V) : Prop := (∃ ob, H c = some (.frz ob (.lst xs))) ∨ ∃ (ob : Obj) (its : Array Value) (n : Nat), K.lookup c = some ob ∧ ob.cls = .type "list" ∧ ob.dict = none ∧ ob.data = .seq its n ∧ its.size ≤ sizeLine ∧ Vals xs its.toList
theorem SqF.sq {c : Addr} {xs : List V} (h : SqF K H c xs) : SqL K H c xs := by
  rcases h with ⟨ob, h⟩ | h
  · exact .inl (.inr ⟨ob, h⟩)
  · exact .inr h
theorem SqF.keep {c : Addr} {xs : List V} (h : SqF K H c xs) (k : ∀ ob, H c = some (.frz ob (.lst xs)) → H1 c = some (.frz ob (.lst xs))) : SqF K H1 c xs := by
  rcases h with ⟨ob, h⟩ | h
  · exact .inl ⟨ob, k ob h⟩
  · exact .inr h
/-! ### what a call does -/
structure Ansd (K : PySem.W.Frag) (a : Adr) (H H' : Hp) (R dxR d : Addr) (W : DV) (st : Kg54.State) (o : GO) (c : List (List Int)) (rest : List Int) (l : Addr) : Prop where
  ex : ∃ v' o', H' R = some (.ins a.C_Referee dxR (rF v')) ∧ GOp a H' v' o' ∧ RelS (Kg54Neutral.step st c).1 o' ∧ ∀ b, inG o' b → inG o b ∨ H b = none
  rd : ∃ i', DH K a H' d { W with i := i' } ∧ W.ns.drop i' = rest
  out : H' l = some (.lst ((Kg54Neutral.step st c).2.map V.int))
  fl : H l = none
  few : (Kg54Neutral.step st c).2.length ≤ 100
  kp : ∀ b ob, H b = some ob → ¬ inG o b → b ≠ R → b ≠ d → H' b = some ob
theorem GOp.kp (hO : GOp a H v o) {fs : List (Str × V)} (hd : H d = some (.ins C dx fs)) (hz : fs.length < 7) (k : Kp d H H1) : GOp a H1 v o := by
  cases o with
  | none => exact hO
  | some x =>
    obtain ⟨g, G, u⟩ := x
    obtain ⟨rfl, hG, ho⟩ := hO
    have nl : ∀ {b : Addr} {xs : List V}, H b = some (.lst xs) → H1 b = some (.lst xs) := fun {b xs} h => k _ _ h (ne_of h hd (by intro z; cases z))
    have ni : ∀ {b C' dx' : Addr} {fs' : List (Str × V)}, H b = some (.ins C' dx' fs') → 7 ≤ fs'.length → H1 b = some (.ins C' dx' fs') := fun {b C' dx' fs'} h z => k _ _ h (ne_of h hd (by
      intro q
      have q := congrArg List.length (HO.ins.inj q).2.2
      omega))
    refine ⟨rfl, ⟨ni hG.ob (by show 7 ≤ 9; decide), nl hG.pt, nl hG.ht, hG.xl, hG.ml⟩, fun hw => ?_⟩
    have ho := ho hw
    cases u with
    | none => exact ho
    | some y =>
      obtain ⟨t, U⟩ := y
      exact ⟨ho.1, ni ho.2.ob (Nat.le_refl 7), nl ho.2.lv⟩
/-- the game is as it was, or changed within itself -/
theorem done_of {c : List (List Int)} {rest outs : List Int} {i' : Nat} {l : Addr} (hR : H R = some (.ins a.C_Referee dxR (rF v))) (hO : GOp a H v o) (RS : RelS st o) (hD : DH K a H d W) (hF : SqF K H W.c (W.ns.map V.int)) (k2 : Kp d H H2) (hD2 : DH K a H2 d { W with i := i' }) (hre : W.ns.drop i' = rest)
    (k3 : ∀ b ob, H2 b = some ob → ¬ inG o b → b ≠ R → H3 b = some ob) (hR3 : H3 R = some (.ins a.C_Referee dxR (rF v'))) (hO3 : GOp a H3 v' o') (RS3 : RelS st' o') (new : ∀ b, inG o' b → inG o b ∨ H2 b = none)
    (th : ∀ b ob, H2 b = some ob → H3 b ≠ none) (hl : H3 l = none) (hs : Kg54Neutral.step st c = (st', outs)) (hz : outs.length ≤ 100) : Ansd K a H (upd H3 l (.lst (outs.map V.int))) R dxR d W st o c rest l := by
  have nRd : R ≠ d := ne_of hR hD.ob (by intro z; have z := congrArg List.length (HO.ins.inj z).2.2; cases z)
  have nd : ¬ inG o d := inG_no hO RS hD.ob (by show ¬ 7 ≤ 2; decide)
  have f2 : ∀ b, H2 b = none → H b = none := fun b e => k2.free hD2.ob e
  have f3 : ∀ b, H3 b = none → ¬ inG o b → b ≠ R → H2 b = none := fun b e n1 n2 => by
    cases q : H2 b with
    | none => rfl
    | some ob => rw [k3 b ob q n1 n2] at e; cases e
  have sm : Same H3 (upd H3 l (.lst (outs.map V.int))) := Same.upd hl
  have hd3 := k3 _ _ hD2.ob nd nRd.symm
  have hF2 : SqF K H2 W.c (W.ns.map V.int) := hF.keep fun ob e => k2 _ _ e (ne_of e hD.ob (by intro z; cases z))
  have nR : ¬ inG o R := inG_no hO RS hR (by show ¬ 7 ≤ 1; decide)
  have hO2 : GOp a H2 v o := hO.kp hD.ob (by show 2 < 7; decide) k2
  have hF3 : SqF K H3 W.c (W.ns.map V.int) := hF2.keep fun ob e => k3 _ _ e (inG_no hO2 RS e (fun z => z)) (fun z => by
    have hR2 := k2 _ _ hR nRd
    rw [z, hR2] at e; cases e)
  -- l is new
  have hlH : H l = none := by
    cases q : H l with
    | none => rfl
    | some ob =>
      exfalso
      by_cases n1 : l = d
      · rw [n1, hd3] at hl; cases hl
      · exact th _ _ (k2 _ _ q n1) hl
  refine ⟨⟨v', o', sm _ _ hR3, hO3.same sm, by rw [hs]; exact RS3, fun b hb => (new b hb).imp id (f2 b)⟩, ⟨i', ⟨sm _ _ hd3, sm.seq hF3.sq, hD2.le⟩, hre⟩, by rw [hs]; exact upd_same, hlH, by rw [hs]; exact hz, fun b ob e n1 n2 n3 => sm _ _ (k3 _ _ (k2 _ _ e n3) n1 n2)⟩
end
end Hg
set_option Elab.async false
set_option linter.all false
set_option maxRecDepth 100000
set_option maxHeartbeats 2000000
namespace L2
open PySem PySem.Spec PyProof.Rows
theorem st_retl {σ : St} {H : Hp} {ta : TA} {vs : List V} {D : Ends} (h : Ea ta σ H vs) (hz : vs.length ≤ 1000) (q : ∀ p, H p = none → D.rt (.ref p) (upd H p (.lst vs))) : tRet (tLst ta) D σ H := h _ ⟨Nat.le_of_lt (small1000 hz), q⟩
end L2
namespace Hg
open PySem PySem.Spec PyProof.Rows L2
section
variable {P : Program} {w : World} {K : PySem.W.Frag} {mg : Str → Option Value} {base : Heap} {a : Adr} {H H1 H2 H3 : Hp} {g t s d R dxR : Addr} {G G1 : GV} {U : UV} {S : SV} {Q : VK} {E : XK} {C dx p x : Addr} {v v' : V} {st st' : Kg54.State} {o o' : GO} {W : DV}
theorem rd2 {L r : List Int} {c : List (List Int)} (h : Cq.Rd1 2 L c r) : ∃ x y, L = x :: y :: r ∧ c = [[2, x, y]] := by
  generalize hp : (2 : Int) = p at h
  cases h <;> first | exact ⟨_, _, rfl, rfl⟩ | exact absurd hp (by decide)
theorem rd5 {L r : List Int} {c : List (List Int)} (h : Cq.Rd1 5 L c r) : ∃ x, L = x :: r ∧ c = [[5, x]] := by
  generalize hp : (5 : Int) = p at h
  cases h <;> first | exact ⟨_, rfl, rfl⟩ | exact absurd hp (by decide)
theorem rd4 {L r : List Int} {c : List (List Int)} (h : Cq.Rd1 4 L c r) : L = r ∧ c = [[4]] := by
  generalize hp : (4 : Int) = p at h
  cases h <;> first | exact ⟨rfl, rfl⟩ | exact absurd hp (by decide)
theorem rd6 {L r : List Int} {c : List (List Int)} (h : Cq.Rd1 6 L c r) : L = r ∧ c = [[6]] := by
  generalize hp : (6 : Int) = p at h
  cases h <;> first | exact ⟨rfl, rfl⟩ | exact absurd hp (by decide)
theorem rd7 {L r : List Int} {c : List (List Int)} (h : Cq.Rd1 7 L c r) : L = r ∧ c = [[7]] := by
  generalize hp : (7 : Int) = p at h
  cases h <;> first | exact ⟨rfl, rfl⟩ | exact absurd hp (by decide)
theorem rd8 {L r : List Int} {c : List (List Int)} (h : Cq.Rd1 8 L c r) : L = r ∧ c = [[8]] := by
  generalize hp : (8 : Int) = p at h
  cases h <;> first | exact ⟨rfl, rfl⟩ | exact absurd hp (by decide)
theorem rd9 {L r : List Int} {c : List (List Int)} (h : Cq.Rd1 9 L c r) : L = r ∧ c = [[9]] := by
  generalize hp : (9 : Int) = p at h
  cases h <;> first | exact ⟨rfl, rfl⟩ | exact absurd hp (by decide)
theorem rd1 {L r : List Int} {c : List (List Int)} (h : Cq.Rd1 1 L c r) : ∃ l f x y, L = l :: f :: x :: y :: r ∧ c = [[1, l, f, x, y]] := by
  generalize hp : (1 : Int) = p at h
  cases h <;> first | exact ⟨_, _, _, _, rfl, rfl⟩ | exact absurd hp (by decide)
theorem rd3 {L t : List Int} {c : List (List Int)} (h : Cq.Rd1 3 L c t) : ∃ h p f r g o, L = h :: p :: f :: ((r.length : Int) :: (r ++ ((g.length : Int) :: (g ++ ((o.length : Int) :: (o ++ t)))))) ∧ c = [[3, h, p, f], r, g, o] := by
  generalize hp : (3 : Int) = p at h
  cases h <;> first | exact ⟨_, _, _, _, _, _, rfl, rfl⟩ | exact absurd hp (by decide)
/-- a call's promise -/
def sp_ans (K : PySem.W.Frag) (a : Adr) (p : Int) : Sp := fun vs H Q _ => ∃ (R d dxR : Addr) (v : V) (st : Kg54.State) (o : GO) (W : DV) (c : List (List Int)) (rest : List Int), vs = [.ref R, .ref d] ∧ H R = some (.ins a.C_Referee dxR (rF v)) ∧ GOp a H v o ∧ RelS st o ∧ DH K a H d W ∧ SqF K H W.c (W.ns.map V.int) ∧
  Cq.Rd1 p (W.ns.drop W.i) c rest ∧ Kg54Neutral.asked1 c = true ∧ ∀ H' l, Ansd K a H H' R dxR d W st o c rest l → Q (.ref l) H'
theorem ref_of {c : List (List Int)} {rest : List Int} {r : Int} {i' : Nat} {l : Addr} (hR : H R = some (.ins a.C_Referee dxR (rF v))) (hO : GOp a H v o) (RS : RelS st o) (hD : DH K a H d W) (hF : SqF K H W.c (W.ns.map V.int)) (k2 : Kp d H H2) (hD2 : DH K a H2 d { W with i := i' }) (hre : W.ns.drop i' = rest)
    (hl : H2 l = none) (hs : Kg54Neutral.step st c = (st, [r])) : Ansd K a H (upd H2 l (.lst [.int r])) R dxR d W st o c rest l :=
  done_of (outs := [r]) hR hO RS hD hF k2 hD2 hre (fun b ob e _ _ => e) (k2 _ _ hR (ne_of hR hD.ob (by intro z; have z := congrArg List.length (HO.ins.inj z).2.2; cases z))) (hO.kp hD.ob (by show 2 < 7; decide) k2) RS (fun b h => .inl h) (fun b ob e => by rw [e]; intro z; cases z) hl hs (by show 1 ≤ 100; decide)
theorem handed_tv (G : GV) (o : Int) : (handed G o).tv = .non := by unfold handed; split; rfl; split <;> rfl
theorem R_ne_d (hR : H R = some (.ins a.C_Referee dxR (rF v))) (hD : DH K a H d W) : R ≠ d := ne_of hR hD.ob (by intro z; have z := congrArg List.length (HO.ins.inj z).2.2; cases z)
theorem upd_th {H : Hp} {g : Addr} {ob : HO} : ∀ b o, H b = some o → (upd H g ob) b ≠ none := fun b o e => by
  by_cases n : b = g
  · rw [n, upd_same]; intro z; cases z
  · rw [L2.upd_ne n, e]; intro z; cases z
theorem relS {Gm : Kg54.Game} {g : Addr} {G : GV} {u : Option (Addr × UV)} (h : RelG Gm G u) : RelS (some Gm) (some (g, G, u)) := h
/-! ### pass -/
theorem ok_answer_pass (T : Txt K mg a) : FnOk P w K mg base CX0 5 a.answer_pass a.answer_pass_d ["referee", "reader"] (sp_ans K a 4) := by
  refine T.F_answer_pass.ok sc_answer_pass (fun vs H Q E h => ?_) (fun cdv A outer s H vs Q E hr h => ?_)
  · (first | (obtain ⟨rfl, _⟩ := h; rfl) | (obtain ⟨_, rfl, _⟩ := h; rfl) | (obtain ⟨_, _, rfl, _⟩ := h; rfl) | (obtain ⟨_, _, _, rfl, _⟩ := h; rfl) | (obtain ⟨_, _, _, _, rfl, _⟩ := h; rfl) | (obtain ⟨_, _, _, _, _, rfl, _⟩ := h; rfl) | (obtain ⟨_, _, _, _, _, _, rfl, _⟩ := h; rfl) | (obtain ⟨_, _, _, _, _, _, _, rfl, _⟩ := h; rfl) | (obtain ⟨_, _, _, _, _, _, _, _, rfl, _⟩ := h; rfl) | (obtain ⟨_, _, _, _, _, _, _, _, _, rfl, _⟩ := h; rfl) | (obtain ⟨_, _, _, _, _, _, _, _, _, _, rfl, _⟩ := h; rfl) | (obtain ⟨_, _, _, _, _, _, _, _, _, _, _, rfl, _⟩ := h; rfl) | (obtain ⟨_, _, _, _, _, _, _, _, _, _, _, _, rfl, _⟩ := h; rfl) | (obtain ⟨_, _, _, _, _, _, _, _, _, _, _, _, _, rfl, _⟩ := h; rfl) | (obtain ⟨_, _, _, _, _, _, _, _, _, _, _, _, _, _, rfl, _⟩ := h; rfl) | (obtain ⟨_, _, _, _, _, _, _, _, _, _, _, _, _, _, _, rfl, _⟩ := h; rfl))
  · obtain ⟨R, d, dxR, v, st, o, W, c, rest, rfl, hR, hO, RS, hD, hF, hc, hask, q⟩ := h
    obtain ⟨hre, rfl⟩ := rd4 hc
    refine ⟨_, (pss_cons (ps_set (i := 2) sc_answer_pass.nd rfl (by first | exact Or.inl rfl | exact Or.inr rfl) (pe_fld (pv 0) (by rfl)))
      (pss_cons (ps_set (i := 3) sc_answer_pass.nd rfl (by first | exact Or.inl rfl | exact Or.inr rfl) (pe_call (ok_refusal_between_turns T) (hr.mono (by decide)) (by rfl) T.g_refusal_between_turns T.F_refusal_between_turns.kp T.b_refusal_between_turns .nil pass0 (pa_cons (pv 2) pa_nil)))
      (pss_cons (ps_if (pt_cmpR op_lt (pv 3) pe_int (nomark _)) (pss_one (ps_ret (pe_lst (pa_cons (pv 3) pa_nil)))) pss_nil)
      (pss_cons (ps_expr (pe_call (ok_pass_turn T) (hr.mono (by decide)) (by rfl) T.g_pass_turn T.F_pass_turn.kp T.b_pass_turn .nil pass0 (pa_cons (pv 2) pa_nil)))
      (pss_one (ps_ret (pe_lst (pa_cons (pe_meth0 (pv 2) T.c_Game T.m_Game_state (ok_Game_state T) (hr.mono (by decide)) T.b_Game_state .nil pass0) pa_nil)))))))), ?_⟩
    refine sq_set (ev_fld (ev_var rfl) hR T.c_Referee T.n_Referee_game rfl) ?_
    refine sq_set (ev_call (ea_cons (ev_var rfl) ea_nil) (fun Q q => ⟨v, o, rfl, hO, q⟩)) ?_
    refine sq_if (et_test (ev_op (ev_var rfl) ev_c)) (fun hc1 => ?_) fun hc1 => ?_
    · refine st_retl (ea_cons (ev_var rfl) ea_nil) (by show 1 ≤ 1000; decide) fun l hl => ?_
      rcases pass_ok RS with ⟨_, hs⟩ | ⟨h0, _⟩
      · exact q _ l (ref_of (i' := W.i) hR hO RS hD hF Kp.refl hD hre hl hs)
      · have := of_decide_eq_true hc1
        rw [h0] at this; exact absurd this (by decide)
    · rcases pass_ok RS with ⟨hneg, _⟩ | ⟨h0, g, G, Gm, rfl, rfl, Rg, hw, gw, hs⟩
      · exact absurd hneg (of_decide_eq_false hc1)
      · obtain ⟨rfl, hG, ho⟩ := hO
        have Go := Rg.go hw
        have ok := Rg.ok.ok hw
        refine sq_call (ea_cons (ev_var rfl) ea_nil) ⟨g, G, rfl, hG, ?_⟩
        have hG3 : GH a (upd H g (.ins a.C_Game G.dx (gF (passed G)))) g (passed G) := hG.put (G1 := passed G) (by show _ = upd H g (.ins a.C_Game (handed G 0).dx _); rw [handed_dx]) (handed_p G 0) (handed_h G 0) (handed_xs G 0) (handed_ms G 0)
        have Rg3 : RelG (Gm.pass none) (passed G) none := pass_rel (tt := none) Rg.xs Rg.ms Rg.li hw gw Go.side ok.side Go.time ok.g0 ok.g1 rfl rfl (.inl rfl) (Cq.ok_pass Rg.ok.balls Rg.ok.more hw ok.side ok.time ok.g0 ok.g1 (fun u z => nomatch z))
        have ht3 : (passed G).winner = -1 → TVw a (upd H g (.ins a.C_Game G.dx (gF (passed G)))) (passed G).tv none := fun _ => handed_tv G 0
        refine st_retl (ea_cons (ev_meth (ev_var rfl) hG3.ob rfl ea_nil (fun Q q => use_state hG3 ht3 q)) ea_nil) (by show 1 ≤ 1000; decide) fun l hl => ?_
        rw [stands_rel Rg3]
        refine q _ l (done_of (o' := some (g, passed G, none)) (v' := .ref g) (outs := [(Kg54.stands (Gm.pass none) : Int)]) (i' := W.i) hR ⟨rfl, hG, ho⟩ RS hD hF Kp.refl hD hre (fun b ob e n n' => ?_) ?_ ⟨rfl, hG3, ht3⟩ (relS Rg3) (fun b hb => .inl ?_) upd_th hl hs (by show 1 ≤ 100; decide))
        · rw [L2.upd_ne (fun z => n (.inl z))]; exact e
        · rw [L2.upd_ne (ne_of hR hG.ob (by intro z; have z := congrArg List.length (HO.ins.inj z).2.2; cases z))]; exact hR
        · rcases hb with z | z | z | ⟨x, z, _⟩
          · exact .inl z
          · exact .inr (.inl (z.trans (handed_p G 0)))
          · exact .inr (.inr (.inl (z.trans (handed_h G 0))))
          · cases z
/-! ### wired -/
theorem ok_answer_wired (T : Txt K mg a) : FnOk P w K mg base CX0 4 a.answer_wired a.answer_wired_d ["referee", "reader"] (sp_ans K a 6) := by
  refine T.F_answer_wired.ok sc_answer_wired (fun vs H Q E h => ?_) (fun cdv A outer s H vs Q E hr h => ?_)
  · (first | (obtain ⟨rfl, _⟩ := h; rfl) | (obtain ⟨_, rfl, _⟩ := h; rfl) | (obtain ⟨_, _, rfl, _⟩ := h; rfl) | (obtain ⟨_, _, _, rfl, _⟩ := h; rfl) | (obtain ⟨_, _, _, _, rfl, _⟩ := h; rfl) | (obtain ⟨_, _, _, _, _, rfl, _⟩ := h; rfl) | (obtain ⟨_, _, _, _, _, _, rfl, _⟩ := h; rfl) | (obtain ⟨_, _, _, _, _, _, _, rfl, _⟩ := h; rfl) | (obtain ⟨_, _, _, _, _, _, _, _, rfl, _⟩ := h; rfl) | (obtain ⟨_, _, _, _, _, _, _, _, _, rfl, _⟩ := h; rfl) | (obtain ⟨_, _, _, _, _, _, _, _, _, _, rfl, _⟩ := h; rfl) | (obtain ⟨_, _, _, _, _, _, _, _, _, _, _, rfl, _⟩ := h; rfl) | (obtain ⟨_, _, _, _, _, _, _, _, _, _, _, _, rfl, _⟩ := h; rfl) | (obtain ⟨_, _, _, _, _, _, _, _, _, _, _, _, _, rfl, _⟩ := h; rfl) | (obtain ⟨_, _, _, _, _, _, _, _, _, _, _, _, _, _, rfl, _⟩ := h; rfl) | (obtain ⟨_, _, _, _, _, _, _, _, _, _, _, _, _, _, _, rfl, _⟩ := h; rfl))
  · obtain ⟨R, d, dxR, v, st, o, W, c, rest, rfl, hR, hO, RS, hD, hF, hc, hask, q⟩ := h
    obtain ⟨hre, rfl⟩ := rd6 hc
    refine ⟨_, (pss_cons (ps_set (i := 2) sc_answer_wired.nd rfl (by first | exact Or.inl rfl | exact Or.inr rfl) (pe_fld (pv 0) (by rfl)))
      (pss_cons (ps_set (i := 3) sc_answer_wired.nd rfl (by first | exact Or.inl rfl | exact Or.inr rfl) (pe_call (ok_refusal_between_turns T) (hr.mono (by decide)) (by rfl) T.g_refusal_between_turns T.F_refusal_between_turns.kp T.b_refusal_between_turns .nil pass0 (pa_cons (pv 2) pa_nil)))
      (pss_cons (ps_if (pt_cmpR op_lt (pv 3) pe_int (nomark _)) (pss_one (ps_ret (pe_lst (pa_cons (pv 3) pa_nil)))) pss_nil)
      (pss_cons (ps_expr (pe_call (ok_find_wired T) (hr.mono (by decide)) (by rfl) T.g_find_wired T.F_find_wired.kp T.b_find_wired .nil pass0 (pa_cons (pv 2) pa_nil)))
      (pss_one (ps_ret (pe_lst (pa_cons (pe_fld (pv 2) (by rfl)) pa_nil)))))))), ?_⟩
    refine sq_set (ev_fld (ev_var rfl) hR T.c_Referee T.n_Referee_game rfl) ?_
    refine sq_set (ev_call (ea_cons (ev_var rfl) ea_nil) (fun Q q => ⟨v, o, rfl, hO, q⟩)) ?_
    refine sq_if (et_test (ev_op (ev_var rfl) ev_c)) (fun hc1 => ?_) fun hc1 => ?_
    · refine st_retl (ea_cons (ev_var rfl) ea_nil) (by show 1 ≤ 1000; decide) fun l hl => ?_
      rcases wired_ok RS with ⟨_, hs⟩ | ⟨h0, _⟩
      · exact q _ l (ref_of (i' := W.i) hR hO RS hD hF Kp.refl hD hre hl hs)
      · have := of_decide_eq_true hc1
        rw [h0] at this; exact absurd this (by decide)
    · rcases wired_ok RS with ⟨hneg, _⟩ | ⟨h0, g, G, Gm, rfl, rfl, Rg, hw, gw, hs⟩
      · exact absurd hneg (of_decide_eq_false hc1)
      · obtain ⟨rfl, hG, ho⟩ := hO
        have Go := Rg.go hw
        refine sq_call (ea_cons (ev_var rfl) ea_nil) ⟨g, G, rfl, hG, ?_⟩
        have hG3 : GH a (upd H g (.ins a.C_Game G.dx (gF { G with owed := if 1 > G.owed then 1 else G.owed }))) g { G with owed := if 1 > G.owed then 1 else G.owed } := hG.put rfl rfl rfl rfl rfl
        have eo : (if 1 > G.owed then 1 else G.owed) = ((max Gm.owed 1 : Nat) : Int) := by
          rw [Go.owed]
          split <;> omega
        have Rg3 : RelG { Gm with owed := max Gm.owed 1 } { G with owed := if 1 > G.owed then 1 else G.owed } none := ⟨Rg.xs, Rg.ms, Rg.li, Rg.wi, Rg.la, fun _ => ⟨Go.side, eo, Go.time, Go.turn, Go.last, Go.apart⟩, Cq.ok_wired Rg.ok, Rg.fin⟩
        refine st_retl (ea_cons (ev_fld (ev_var rfl) hG3.ob T.c_Game T.n_Game_owed rfl) ea_nil) (by show 1 ≤ 1000; decide) fun l hl => ?_
        dsimp only
        rw [eo]
        rw [eo] at hG3 Rg3 hl
        refine q _ l (done_of (o' := some (g, { G with owed := ((max Gm.owed 1 : Nat) : Int) }, none)) (v' := .ref g) (outs := [((max Gm.owed 1 : Nat) : Int)]) (i' := W.i) hR ⟨rfl, hG, ho⟩ RS hD hF Kp.refl hD hre (fun b ob e n n' => ?_) ?_ ⟨rfl, hG3, fun e => ho e⟩ (relS Rg3) (fun b hb => .inl hb) upd_th hl hs (by show 1 ≤ 100; decide))
        · rw [L2.upd_ne (fun z => n (.inl z))]; exact e
        · rw [L2.upd_ne (ne_of hR hG.ob (by intro z; have z := congrArg List.length (HO.ins.inj z).2.2; cases z))]; exact hR
/-! ### time -/
theorem TVw.put {tv : V} {ob : HO} : ∀ {u : Option (Addr × UV)}, TVw a H tv u → GH a H g G → TVw a (upd H g ob) tv u
  | none, h, _ => h
  | some (_, _), h, hG => ⟨h.1, h.2.put hG⟩
theorem ok_answer_time (T : Txt K mg a) : FnOk P w K mg base CX0 4 a.answer_time a.answer_time_d ["referee", "reader"] (sp_ans K a 7) := by
  refine T.F_answer_time.ok sc_answer_time (fun vs H Q E h => ?_) (fun cdv A outer s H vs Q E hr h => ?_)
  · (first | (obtain ⟨rfl, _⟩ := h; rfl) | (obtain ⟨_, rfl, _⟩ := h; rfl) | (obtain ⟨_, _, rfl, _⟩ := h; rfl) | (obtain ⟨_, _, _, rfl, _⟩ := h; rfl) | (obtain ⟨_, _, _, _, rfl, _⟩ := h; rfl) | (obtain ⟨_, _, _, _, _, rfl, _⟩ := h; rfl) | (obtain ⟨_, _, _, _, _, _, rfl, _⟩ := h; rfl) | (obtain ⟨_, _, _, _, _, _, _, rfl, _⟩ := h; rfl) | (obtain ⟨_, _, _, _, _, _, _, _, rfl, _⟩ := h; rfl) | (obtain ⟨_, _, _, _, _, _, _, _, _, rfl, _⟩ := h; rfl) | (obtain ⟨_, _, _, _, _, _, _, _, _, _, rfl, _⟩ := h; rfl) | (obtain ⟨_, _, _, _, _, _, _, _, _, _, _, rfl, _⟩ := h; rfl) | (obtain ⟨_, _, _, _, _, _, _, _, _, _, _, _, rfl, _⟩ := h; rfl) | (obtain ⟨_, _, _, _, _, _, _, _, _, _, _, _, _, rfl, _⟩ := h; rfl) | (obtain ⟨_, _, _, _, _, _, _, _, _, _, _, _, _, _, rfl, _⟩ := h; rfl) | (obtain ⟨_, _, _, _, _, _, _, _, _, _, _, _, _, _, _, rfl, _⟩ := h; rfl))
  · obtain ⟨R, d, dxR, v, st, o, W, c, rest, rfl, hR, hO, RS, hD, hF, hc, hask, q⟩ := h
    obtain ⟨hre, rfl⟩ := rd7 hc
    refine ⟨_, (pss_cons (ps_set (i := 2) sc_answer_time.nd rfl (by first | exact Or.inl rfl | exact Or.inr rfl) (pe_fld (pv 0) (by rfl)))
      (pss_cons (ps_set (i := 3) sc_answer_time.nd rfl (by first | exact Or.inl rfl | exact Or.inr rfl) (pe_call (ok_refusal_of_time T) (hr.mono (by decide)) (by rfl) T.g_refusal_of_time T.F_refusal_of_time.kp T.b_refusal_of_time .nil pass0 (pa_cons (pv 2) pa_nil)))
      (pss_cons (ps_if (pt_cmpR op_lt (pv 3) pe_int (nomark _)) (pss_one (ps_ret (pe_lst (pa_cons (pv 3) pa_nil)))) pss_nil)
      (pss_cons (ps_expr (pe_call (ok_call_time T) (hr.mono (by decide)) (by rfl) T.g_call_time T.F_call_time.kp T.b_call_time .nil pass0 (pa_cons (pv 2) pa_nil)))
      (pss_one (ps_ret (pe_lst (pa_cons pe_int pa_nil)))))))), ?_⟩
    refine sq_set (ev_fld (ev_var rfl) hR T.c_Referee T.n_Referee_game rfl) ?_
    refine sq_set (ev_call (ea_cons (ev_var rfl) ea_nil) (fun Q q => ⟨v, o, rfl, hO, q⟩)) ?_
    refine sq_if (et_test (ev_op (ev_var rfl) ev_c)) (fun hc1 => ?_) fun hc1 => ?_
    · refine st_retl (ea_cons (ev_var rfl) ea_nil) (by show 1 ≤ 1000; decide) fun l hl => ?_
      rcases time_ok RS with ⟨_, hs⟩ | ⟨h0, _⟩
      · exact q _ l (ref_of (i' := W.i) hR hO RS hD hF Kp.refl hD hre hl hs)
      · have := of_decide_eq_true hc1
        rw [h0] at this; exact absurd this (by decide)
    · rcases time_ok RS with ⟨hneg, _⟩ | ⟨h0, g, G, u, Gm, rfl, rfl, Rg, hw, gw, hs⟩
      · exact absurd hneg (of_decide_eq_false hc1)
      · obtain ⟨rfl, hG, ho⟩ := hO
        have Go := Rg.go hw
        refine sq_call (ea_cons (ev_var rfl) ea_nil) ⟨g, G, rfl, hG, ?_⟩
        have hG3 : GH a (upd H g (.ins a.C_Game G.dx (gF { G with time := 1 }))) g { G with time := 1 } := hG.put rfl rfl rfl rfl rfl
        have Rg3 : RelG { Gm with time := 1, last := none } { G with time := 1 } u := ⟨Rg.xs, Rg.ms, Rg.li, Rg.wi, Rg.la, fun _ => ⟨Go.side, Go.owed, rfl, Go.turn, (fun z => absurd (show (1 : Nat) = 0 from z) (by decide)), Go.apart⟩, Cq.ok_time Rg.ok, Rg.fin⟩
        refine st_retl (ea_cons ev_c ea_nil) (by show 1 ≤ 1000; decide) fun l hl => ?_
        refine q _ l (done_of (o' := some (g, { G with time := 1 }, u)) (v' := .ref g) (outs := [0]) (i' := W.i) hR ⟨rfl, hG, ho⟩ RS hD hF Kp.refl hD hre (fun b ob e n n' => ?_) ?_ ⟨rfl, hG3, fun e => (ho e).put hG⟩ (relS Rg3) (fun b hb => .inl hb) upd_th hl hs (by show 1 ≤ 100; decide))
        · rw [L2.upd_ne (fun z => n (.inl z))]; exact e
        · rw [L2.upd_ne (ne_of hR hG.ob (by intro z; have z := congrArg List.length (HO.ins.inj z).2.2; cases z))]; exact hR
/-! ### turn -/
theorem othI_len (xs : List Int) (b : Int) : (othI xs b).length ≤ 4 := List.length_filter_le _ _
theorem begun_rel {Gm : Kg54.Game} {xs : List Int} {n : Nat} {hf : Bool} (hb : Cq.BOk Gm.balls) (ex : xs = Kg54.whole Gm.balls) (hn : n < 4) (e1 : U.ball = (n : Int)) (e2 : U.half = (Kg54.truth hf : Int)) (e3 : U.beside = -1) (e4 : U.strokes = 0) (e5 : U.had = pt xs (n : Int)) (e6 : U.mate = pt xs (((n : Int) + 2) % 4)) (e7 : U.live = othI xs (n : Int)) : RelT (Kg54.begun Gm n hf) U := by
  subst ex
  refine ⟨e1, e2, e3, e4, ?_, ?_, ?_⟩
  · rw [e5, pt_whole]; rfl
  · have : ((n : Int) + 2) % 4 = ((Kg54.partner n : Nat) : Int) := by unfold Kg54.partner; omega
    rw [e6, this, pt_whole]; rfl
  · rw [e7, othI_whole hb]; rfl
theorem ok_answer_turn (T : Txt K mg a) : FnOk P w K mg base CX0 6 a.answer_turn a.answer_turn_d ["referee", "reader"] (sp_ans K a 2) := by
  refine T.F_answer_turn.ok sc_answer_turn (fun vs H Q E h => ?_) (fun cdv A outer s H vs Q E hr h => ?_)
  · (first | (obtain ⟨rfl, _⟩ := h; rfl) | (obtain ⟨_, rfl, _⟩ := h; rfl) | (obtain ⟨_, _, rfl, _⟩ := h; rfl) | (obtain ⟨_, _, _, rfl, _⟩ := h; rfl) | (obtain ⟨_, _, _, _, rfl, _⟩ := h; rfl) | (obtain ⟨_, _, _, _, _, rfl, _⟩ := h; rfl) | (obtain ⟨_, _, _, _, _, _, rfl, _⟩ := h; rfl) | (obtain ⟨_, _, _, _, _, _, _, rfl, _⟩ := h; rfl) | (obtain ⟨_, _, _, _, _, _, _, _, rfl, _⟩ := h; rfl) | (obtain ⟨_, _, _, _, _, _, _, _, _, rfl, _⟩ := h; rfl) | (obtain ⟨_, _, _, _, _, _, _, _, _, _, rfl, _⟩ := h; rfl) | (obtain ⟨_, _, _, _, _, _, _, _, _, _, _, rfl, _⟩ := h; rfl) | (obtain ⟨_, _, _, _, _, _, _, _, _, _, _, _, rfl, _⟩ := h; rfl) | (obtain ⟨_, _, _, _, _, _, _, _, _, _, _, _, _, rfl, _⟩ := h; rfl) | (obtain ⟨_, _, _, _, _, _, _, _, _, _, _, _, _, _, rfl, _⟩ := h; rfl) | (obtain ⟨_, _, _, _, _, _, _, _, _, _, _, _, _, _, _, rfl, _⟩ := h; rfl))
  · obtain ⟨R, d, dxR, v, st, o, W, c, rest, rfl, hR, hO, RS, hD, hF, hc, hask, q⟩ := h
    obtain ⟨b, hw, e0, rfl⟩ := rd2 hc
    refine ⟨_, (pss_cons (ps_set (i := 2) sc_answer_turn.nd rfl (by first | exact Or.inl rfl | exact Or.inr rfl) (pe_meth0 (pv 1) T.c_Reader T.m_Reader_number (ok_Reader_number T) (hr.mono (by decide)) T.b_Reader_number .nil pass0))
      (pss_cons (ps_set (i := 3) sc_answer_turn.nd rfl (by first | exact Or.inl rfl | exact Or.inr rfl) (pe_meth0 (pv 1) T.c_Reader T.m_Reader_number (ok_Reader_number T) (hr.mono (by decide)) T.b_Reader_number .nil pass0))
      (pss_cons (ps_set (i := 4) sc_answer_turn.nd rfl (by first | exact Or.inl rfl | exact Or.inr rfl) (pe_call (ok_refusal_of_turn T) (hr.mono (by decide)) (by rfl) T.g_refusal_of_turn T.F_refusal_of_turn.kp T.b_refusal_of_turn .nil pass0 (pa_cons (pe_fld (pv 0) (by rfl)) (pa_cons (pv 2) (pa_cons (pv 3) pa_nil)))))
      (pss_cons (ps_if (pt_cmpR op_lt (pv 4) pe_int (nomark _)) (pss_one (ps_ret (pe_lst (pa_cons (pv 4) pa_nil)))) pss_nil)
      (pss_cons (ps_expr (pe_call (ok_begin_turn T) (hr.mono (by decide)) (by rfl) T.g_begin_turn T.F_begin_turn.kp T.b_begin_turn .nil pass0 (pa_cons (pe_fld (pv 0) (by rfl)) (pa_cons (pv 2) (pa_cons pe_int pa_nil)))))
      (pss_one (ps_ret (pe_lst (pa_cons pe_int pa_nil))))))))), ?_⟩
    have nRd := R_ne_d hR hD
    refine meth_of (ev_var rfl) hD.ob rfl ea_nil ⟨d, W, _, _, rfl, hD, e0, fun H1 hD1 k1 => ?_⟩
    have e1 := (drop_at e0).2
    refine meth_of (ev_var rfl) hD1.ob rfl ea_nil ⟨d, _, _, _, rfl, hD1, e1, fun H2 hD2 k2 => ?_⟩
    have e2 := (drop_at e1).2
    have k := k1.trans k2
    have hR2 := k _ _ hR nRd
    have hO2 := hO.kp hD.ob (by show 2 < 7; decide) k
    refine sq_set (ev_call (ea_cons (ev_fld (ev_var rfl) hR2 T.c_Referee T.n_Referee_game rfl) (ea_cons (ev_var rfl) (ea_cons (ev_var rfl) ea_nil))) (fun Q q => ⟨v, o, b, hw, rfl, hO2, q⟩)) ?_
    refine sq_if (et_test (ev_op (ev_var rfl) ev_c)) (fun hc1 => ?_) fun hc1 => ?_
    · refine st_retl (ea_cons (ev_var rfl) ea_nil) (by show 1 ≤ 1000; decide) fun l hl => ?_
      rcases turn_ok RS b hw with ⟨_, hs⟩ | ⟨h0, _⟩
      · exact q _ l (ref_of hR hO RS hD hF k hD2 e2 hl hs)
      · have := of_decide_eq_true hc1
        rw [h0] at this; exact absurd this (by decide)
    · rcases turn_ok RS b hw with ⟨hneg, _⟩ | ⟨h0, g, G, Gm, rfl, rfl, Rg, hwn, gw, hb, hsd, hip, hs⟩
      · exact absurd hneg (of_decide_eq_false hc1)
      · have hO0 := hO
        obtain ⟨rfl, hG, ho⟩ := hO2
        have Go := Rg.go hwn
        refine sq_call (ea_cons (ev_fld (ev_var rfl) hR2 T.c_Referee T.n_Referee_game rfl) (ea_cons (ev_var rfl) (ea_cons ev_c ea_nil))) (use_begin_turn hG hb fun H3 t U B => ?_)
        obtain ⟨n, rfl⟩ : ∃ n : Nat, b = n := ⟨b.toNat, by omega⟩
        rw [Int.toNat_natCast] at hsd hip hs
        have hn4 : n < 4 := by omega
        have Rg3 : RelG { Gm with turn := some (Kg54.begun Gm n false), last := none, owed := 0 } { G with side := (n : Int) % 2, owed := 0, last := -1, tv := .ref t } (some (t, U)) := by
          refine ⟨Rg.xs, Rg.ms, Rg.li, Rg.wi, .inl rfl, fun _ => ⟨?_, rfl, Go.time, ?_, fun _ => rfl, fun t' U' z => ?_⟩, Cq.ok_turn Rg.ok hwn hsd hip, fun z => absurd hwn z⟩
          · show (n : Int) % 2 = (Gm.side : Int)
            rw [← hsd]; unfold Kg54.sideOf; omega
          · exact begun_rel Rg.ok.balls Rg.xs hn4 B.eb B.eh B.es B.ek B.ed B.em B.el
          · cases z
            refine ⟨fun z => ?_, fun z => ?_, by rw [B.el]; exact othI_len _ _⟩
            · have := hG.pt; rw [← z, B.fl] at this; cases this
            · have := hG.ht; rw [← z, B.fl] at this; cases this
        refine st_retl (ea_cons ev_c ea_nil) (by show 1 ≤ 1000; decide) fun l hl => ?_
        refine q _ l (done_of (o' := some (g, _, some (t, U))) (v' := .ref g) (outs := [0]) hR hO0 RS hD hF k hD2 e2 (fun b ob e n n' => B.kp _ _ e (fun z => n (.inl z))) ?_ ⟨rfl, B.gh, fun _ => ⟨rfl, B.uh⟩⟩ (relS Rg3) (fun b hb => ?_) (fun b ob e => ?_) hl hs (by show 1 ≤ 100; decide))
        · exact B.kp _ _ hR2 (ne_of hR2 hG.ob (by intro z; have z := congrArg List.length (HO.ins.inj z).2.2; cases z))
        · rcases hb with z | z | z | ⟨x, z, z2⟩
          · exact .inl (.inl z)
          · exact .inl (.inr (.inl z))
          · exact .inl (.inr (.inr (.inl z)))
          · cases z
            rcases z2 with z2 | z2
            · rw [z2]; exact .inr B.ft
            · rw [z2]; exact .inr B.fl
        · by_cases z : b = g
          · rw [z, B.gh.ob]; intro z; cases z
          · rw [B.kp _ _ e z]; intro z; cases z
end
end Hg
set_option Elab.async false
set_option linter.all false
set_option maxRecDepth 100000
set_option maxHeartbeats 2000000
namespace Hg
open PySem PySem.Spec PyProof.Rows L2
section
variable {P : Program} {w : World} {K : PySem.W.Frag} {mg : Str → Option Value} {base : Heap} {a : Adr} {H H1 H2 H3 : Hp} {g t s d R dxR : Addr} {G G1 : GV} {U : UV} {S : SV} {Q : VK} {E : XK} {C dx p x : Addr} {v v' : V} {st st' : Kg54.State} {o o' : GO} {W : DV}
theorem lastOk_of (RS : RelS st o) : lastOk o := by
  cases o with
  | none => exact True.intro
  | some x =>
    cases st with
    | none => exact RS.elim
    | some Gm => exact (show RelG Gm x.2.1 x.2.2 from RS).la
theorem no_big_R (hR : H R = some (.ins a.C_Referee dxR (rF v))) (hG : GH a H g G) : R ≠ g := ne_of hR hG.ob (by intro z; have z := congrArg List.length (HO.ins.inj z).2.2; cases z)
/-! ### more -/
theorem ok_answer_more (T : Txt K mg a) : FnOk P w K mg base CX0 7 a.answer_more a.answer_more_d ["referee", "reader"] (sp_ans K a 5) := by
  refine T.F_answer_more.ok sc_answer_more (fun vs H Q E h => ?_) (fun cdv A outer s H vs Q E hr h => ?_)
  · (first | (obtain ⟨rfl, _⟩ := h; rfl) | (obtain ⟨_, rfl, _⟩ := h; rfl) | (obtain ⟨_, _, rfl, _⟩ := h; rfl) | (obtain ⟨_, _, _, rfl, _⟩ := h; rfl) | (obtain ⟨_, _, _, _, rfl, _⟩ := h; rfl) | (obtain ⟨_, _, _, _, _, rfl, _⟩ := h; rfl) | (obtain ⟨_, _, _, _, _, _, rfl, _⟩ := h; rfl) | (obtain ⟨_, _, _, _, _, _, _, rfl, _⟩ := h; rfl) | (obtain ⟨_, _, _, _, _, _, _, _, rfl, _⟩ := h; rfl) | (obtain ⟨_, _, _, _, _, _, _, _, _, rfl, _⟩ := h; rfl) | (obtain ⟨_, _, _, _, _, _, _, _, _, _, rfl, _⟩ := h; rfl) | (obtain ⟨_, _, _, _, _, _, _, _, _, _, _, rfl, _⟩ := h; rfl) | (obtain ⟨_, _, _, _, _, _, _, _, _, _, _, _, rfl, _⟩ := h; rfl) | (obtain ⟨_, _, _, _, _, _, _, _, _, _, _, _, _, rfl, _⟩ := h; rfl) | (obtain ⟨_, _, _, _, _, _, _, _, _, _, _, _, _, _, rfl, _⟩ := h; rfl) | (obtain ⟨_, _, _, _, _, _, _, _, _, _, _, _, _, _, _, rfl, _⟩ := h; rfl))
  · obtain ⟨R, d, dxR, v, st, o, W, c, rest, rfl, hR, hO, RS, hD, hF, hc, hask, q⟩ := h
    obtain ⟨hf, e0, rfl⟩ := rd5 hc
    refine ⟨_, (pss_cons (ps_set (i := 2) sc_answer_more.nd rfl (by first | exact Or.inl rfl | exact Or.inr rfl) (pe_fld (pv 0) (by rfl)))
      (pss_cons (ps_set (i := 3) sc_answer_more.nd rfl (by first | exact Or.inl rfl | exact Or.inr rfl) (pe_meth0 (pv 1) T.c_Reader T.m_Reader_number (ok_Reader_number T) (hr.mono (by decide)) T.b_Reader_number .nil pass0))
      (pss_cons (ps_set (i := 4) sc_answer_more.nd rfl (by first | exact Or.inl rfl | exact Or.inr rfl) (pe_call (ok_refusal_of_more T) (hr.mono (by decide)) (by rfl) T.g_refusal_of_more T.F_refusal_of_more.kp T.b_refusal_of_more .nil pass0 (pa_cons (pv 2) (pa_cons (pv 3) pa_nil))))
      (pss_cons (ps_if (pt_cmpR op_lt (pv 4) pe_int (nomark _)) (pss_one (ps_ret (pe_lst (pa_cons (pv 4) pa_nil)))) pss_nil)
      (pss_cons (ps_expr (pe_call (ok_take_turn_more T) (hr.mono (by decide)) (by rfl) T.g_take_turn_more T.F_take_turn_more.kp T.b_take_turn_more .nil pass0 (pa_cons (pv 2) (pa_cons (pv 3) pa_nil))))
      (pss_one (ps_ret (pe_lst (pa_cons (pe_ix ix_list (pe_fld (pv 2) (by rfl)) (pe_fld (pv 2) (by rfl)) (fun _ _ => rfl)) pa_nil))))))))), ?_⟩
    have nRd := R_ne_d hR hD
    refine sq_set (ev_fld (ev_var rfl) hR T.c_Referee T.n_Referee_game rfl) ?_
    refine meth_of (ev_var rfl) hD.ob rfl ea_nil ⟨d, W, _, _, rfl, hD, e0, fun H1 hD1 k => ?_⟩
    have e1 := (drop_at e0).2
    have hR1 := k _ _ hR nRd
    have hO1 := hO.kp hD.ob (by show 2 < 7; decide) k
    refine sq_set (ev_call (ea_cons (ev_var rfl) (ea_cons (ev_var rfl) ea_nil)) (fun Q q => ⟨v, o, hf, rfl, hO1, lastOk_of RS, q⟩)) ?_
    refine sq_if (et_test (ev_op (ev_var rfl) ev_c)) (fun hc1 => ?_) fun hc1 => ?_
    · refine st_retl (ea_cons (ev_var rfl) ea_nil) (by show 1 ≤ 1000; decide) fun l hl => ?_
      rcases more_ok RS hf with ⟨_, hs⟩ | ⟨h0, _⟩
      · exact q _ l (ref_of hR hO RS hD hF k hD1 e1 hl hs)
      · have := of_decide_eq_true hc1
        rw [h0] at this; exact absurd this (by decide)
    · rcases more_ok RS hf with ⟨hneg, _⟩ | ⟨h0, g, G, u, Gm, tt, rfl, rfl, Rg, hwn, gw, hL, eL, h4, hip, hsd, hh, hcost, hs⟩
      · exact absurd hneg (of_decide_eq_false hc1)
      · have hO0 := hO
        obtain ⟨rfl, hG, ho⟩ := hO1
        have Go := Rg.go hwn
        have ok := Rg.ok.ok hwn
        refine sq_call (ea_cons (ev_var rfl) (ea_cons (ev_var rfl) ea_nil)) ⟨g, G, hf, rfl, hG, by omega, fun H2 t U B => ?_⟩
        have em : G.last % 2 = ((Kg54.other Gm.side : Nat) : Int) := by
          rw [eL, ← hsd]; unfold Kg54.sideOf; omega
        have ho2 : Kg54.other Gm.side < 2 := by unfold Kg54.other; omega
        have ep : pt G.ms (G.last % 2) = ((Gm.more.getD (Kg54.other Gm.side) 0 : Nat) : Int) := by
          rw [em, Rg.ms, pt_whole]; rfl
        have ec : pt G.ms (G.last % 2) - (if hf = 1 then 1 else 2) = ((Gm.more.getD (Kg54.other Gm.side) 0 - (if hf = 1 then 1 else 2) : Nat) : Int) := by
          rw [ep]
          rcases hh with z | z
          · subst z
            have : 2 ≤ Gm.more.getD (Kg54.other Gm.side) 0 := hcost
            show _ - (2 : Int) = ((_ - 2 : Nat) : Int)
            omega
          · subst z
            have : 1 ≤ Gm.more.getD (Kg54.other Gm.side) 0 := hcost
            show _ - (1 : Int) = ((_ - 1 : Nat) : Int)
            omega
        generalize hm : (Gm.more.getD (Kg54.other Gm.side) 0 - (if hf = 1 then 1 else 2)) = m at hs ec
        have ems : G.ms.set (G.last % 2).toNat (pt G.ms (G.last % 2) - (if hf = 1 then 1 else 2)) = Kg54.whole (Gm.more.set (Kg54.other Gm.side) m) := by
          rw [ec, em, Int.toNat_natCast, Rg.ms, set_whole]
        have Rg3 : RelG { Gm with side := Kg54.other Gm.side, more := Gm.more.set (Kg54.other Gm.side) m, turn := some (Kg54.begun Gm tt.ball (hf == 1)), last := none, owed := 0 } { G with side := G.last % 2, owed := 0, last := -1, tv := .ref t, ms := G.ms.set (G.last % 2).toNat (pt G.ms (G.last % 2) - (if hf = 1 then 1 else 2)) } (some (t, U)) := by
          refine ⟨Rg.xs, ems, Rg.li, Rg.wi, .inl rfl, fun _ => ⟨em, rfl, Go.time, ?_, fun _ => rfl, fun t' U' z => ?_⟩, Cq.ok_more Rg.ok hwn hL hip, fun z => absurd hwn z⟩
          · have eh : hf = (Kg54.truth (hf == 1) : Int) := by
              rcases hh with z | z <;> subst z <;> rfl
            exact begun_rel Rg.ok.balls Rg.xs h4 (B.eb.trans eL) (B.eh.trans eh) B.es B.ek (by rw [B.ed, eL]) (by rw [B.em, eL]) (by rw [B.el, eL])
          · cases z
            refine ⟨fun z => ?_, fun z => ?_, by rw [B.el]; exact othI_len _ _⟩
            · have := hG.pt; rw [← z, B.fl] at this; cases this
            · have := hG.ht; rw [← z, B.fl] at this; cases this
        have hGn := B.gh
        refine st_retl (ea_cons (ev_ix (ev_fld (ev_var rfl) hGn.ob T.c_Game T.n_Game_half_turns rfl) (ev_fld (ev_var rfl) hGn.ob T.c_Game T.n_Game_side rfl) hGn.ht (pt_at hGn.ml (by show 0 ≤ G.last % 2 ∧ G.last % 2 < ((2 : Nat) : Int); omega))) ea_nil) (by show 1 ≤ 1000; decide) fun l hl => ?_
        have ev : pt (G.ms.set (G.last % 2).toNat (pt G.ms (G.last % 2) - (if hf = 1 then 1 else 2))) (G.last % 2) = (m : Int) := by
          rw [ems, em, pt_whole]
          unfold Kg54.made
          have hlen : Kg54.other Gm.side < Gm.more.length := by rw [Rg.ok.more]; exact ho2
          simp [List.getD, hlen]
        show Q (.ref l) (upd H2 l (.lst [.int (pt (G.ms.set (G.last % 2).toNat (pt G.ms (G.last % 2) - (if hf = 1 then 1 else 2))) (G.last % 2))]))
        rw [ev]
        refine q _ l (done_of (o' := some (g, _, some (t, U))) (v' := .ref g) (outs := [(m : Int)]) hR hO0 RS hD hF k hD1 e1 (fun b ob e n n' => B.kp _ _ e (fun z => n (.inl z)) (fun z => n (.inr (.inr (.inl z))))) ?_ ⟨rfl, B.gh, fun _ => ⟨rfl, B.uh⟩⟩ (relS Rg3) (fun b hb => ?_) (fun b ob e => ?_) hl hs (by show 1 ≤ 100; decide))
        · exact B.kp _ _ hR1 (no_big_R hR1 hG) (ne_of hR1 hG.ht (by intro z; cases z))
        · rcases hb with z | z | z | ⟨x, z, z2⟩
          · exact .inl (.inl z)
          · exact .inl (.inr (.inl z))
          · exact .inl (.inr (.inr (.inl z)))
          · cases z
            rcases z2 with z2 | z2
            · rw [z2]; exact .inr B.ft
            · rw [z2]; exact .inr B.fl
        · by_cases z : b = g
          · rw [z, B.gh.ob]; intro z; cases z
          · by_cases z' : b = G.h
            · rw [z', show H2 G.h = _ from B.gh.ht]; intro z; cases z
            · rw [B.kp _ _ e z z']; intro z; cases z
/-! ### begin -/
theorem ok_answer_begin (T : Txt K mg a) : FnOk P w K mg base CX0 3 a.answer_begin a.answer_begin_d ["referee", "reader"] (sp_ans K a 1) := by
  refine T.F_answer_begin.ok sc_answer_begin (fun vs H Q E h => ?_) (fun cdv A outer s H vs Q E hr h => ?_)
  · (first | (obtain ⟨rfl, _⟩ := h; rfl) | (obtain ⟨_, rfl, _⟩ := h; rfl) | (obtain ⟨_, _, rfl, _⟩ := h; rfl) | (obtain ⟨_, _, _, rfl, _⟩ := h; rfl) | (obtain ⟨_, _, _, _, rfl, _⟩ := h; rfl) | (obtain ⟨_, _, _, _, _, rfl, _⟩ := h; rfl) | (obtain ⟨_, _, _, _, _, _, rfl, _⟩ := h; rfl) | (obtain ⟨_, _, _, _, _, _, _, rfl, _⟩ := h; rfl) | (obtain ⟨_, _, _, _, _, _, _, _, rfl, _⟩ := h; rfl) | (obtain ⟨_, _, _, _, _, _, _, _, _, rfl, _⟩ := h; rfl) | (obtain ⟨_, _, _, _, _, _, _, _, _, _, rfl, _⟩ := h; rfl) | (obtain ⟨_, _, _, _, _, _, _, _, _, _, _, rfl, _⟩ := h; rfl) | (obtain ⟨_, _, _, _, _, _, _, _, _, _, _, _, rfl, _⟩ := h; rfl) | (obtain ⟨_, _, _, _, _, _, _, _, _, _, _, _, _, rfl, _⟩ := h; rfl) | (obtain ⟨_, _, _, _, _, _, _, _, _, _, _, _, _, _, rfl, _⟩ := h; rfl) | (obtain ⟨_, _, _, _, _, _, _, _, _, _, _, _, _, _, _, rfl, _⟩ := h; rfl))
  · obtain ⟨R, d, dxR, v, st, o, W, c, rest, rfl, hR, hO, RS, hD, hF, hc, hask, q⟩ := h
    obtain ⟨li, fi, na, nb, e0, rfl⟩ := rd1 hc
    refine ⟨_, (pss_cons (ps_set (i := 2) sc_answer_begin.nd rfl (by first | exact Or.inl rfl | exact Or.inr rfl) (pe_meth0 (pv 1) T.c_Reader T.m_Reader_number (ok_Reader_number T) (hr.mono (by decide)) T.b_Reader_number .nil pass0))
      (pss_cons (ps_set (i := 3) sc_answer_begin.nd rfl (by first | exact Or.inl rfl | exact Or.inr rfl) (pe_meth0 (pv 1) T.c_Reader T.m_Reader_number (ok_Reader_number T) (hr.mono (by decide)) T.b_Reader_number .nil pass0))
      (pss_cons (ps_set (i := 4) sc_answer_begin.nd rfl (by first | exact Or.inl rfl | exact Or.inr rfl) (pe_lst (pa_cons (pe_meth0 (pv 1) T.c_Reader T.m_Reader_number (ok_Reader_number T) (hr.mono (by decide)) T.b_Reader_number .nil pass0) (pa_cons (pe_meth0 (pv 1) T.c_Reader T.m_Reader_number (ok_Reader_number T) (hr.mono (by decide)) T.b_Reader_number .nil pass0) pa_nil))))
      (pss_cons (ps_set (i := 5) sc_answer_begin.nd rfl (by first | exact Or.inl rfl | exact Or.inr rfl) (pe_call (ok_refusal_of_begin T) (hr.mono (by decide)) (by rfl) T.g_refusal_of_begin T.F_refusal_of_begin.kp T.b_refusal_of_begin .nil pass0 (pa_cons (pv 2) (pa_cons (pv 3) (pa_cons (pv 4) pa_nil)))))
      (pss_cons (ps_if (pt_cmpR op_lt (pv 5) pe_int (nomark _)) (pss_one (ps_ret (pe_lst (pa_cons (pv 5) pa_nil)))) pss_nil)
      (pss_cons (ps_fld (pv 0) (pe_make T.k_Game (ok_Game_init T) (hr.mono (by decide)) (by rfl) T.g_Game T.b_Game_init .nil pass0 (pa_cons (pv 2) (pa_cons (pv 3) (pa_cons (pv 4) pa_nil)))) rfl)
      (pss_one (ps_ret (pe_lst (pa_cons pe_int pa_nil)))))))))), ?_⟩
    have nRd := R_ne_d hR hD
    refine meth_of (ev_var rfl) hD.ob rfl ea_nil ⟨d, W, _, _, rfl, hD, e0, fun H1 hD1 k1 => ?_⟩
    have e1 := (drop_at e0).2
    refine meth_of (ev_var rfl) hD1.ob rfl ea_nil ⟨d, _, _, _, rfl, hD1, e1, fun H2 hD2 k2 => ?_⟩
    have e2 := (drop_at e1).2
    refine meth_of (ev_var rfl) hD2.ob rfl ea_nil ⟨d, _, _, _, rfl, hD2, e2, fun H3 hD3 k3 => ?_⟩
    have e3 := (drop_at e2).2
    refine meth_of (ev_var rfl) hD3.ob rfl ea_nil ⟨d, _, _, _, rfl, hD3, e3, fun H4 hD4 k4 => ?_⟩
    have e4 := (drop_at e3).2
    have k := ((k1.trans k2).trans k3).trans k4
    refine ⟨by show 2 ≤ sizeLine; decide, fun h hh => ?_⟩
    have s5 : Same H4 (upd H4 h (.lst [.int na, .int nb])) := Same.upd hh
    refine call_of (ea_cons (ev_var rfl) (ea_cons (ev_var rfl) (ea_cons (ev_var rfl) ea_nil))) ⟨li, fi, h, [na, nb], rfl, upd_same, by show 2 ≤ 1000; decide, fun H6 s6 => ?_⟩
    have hR4 := k _ _ hR nRd
    have s46 := s5.trans s6
    have hh6 : H6 h = some (.lst (([na, nb] : List Int).map V.int)) := s6 _ _ upd_same
    dsimp only [gName]
    refine sq_if (et_test (ev_op (ev_var rfl) ev_c)) (fun hc1 => ?_) fun hc1 => ?_
    · refine st_retl (ea_cons (ev_var rfl) ea_nil) (by show 1 ≤ 1000; decide) fun l hl => ?_
      rcases begin_ok st li fi na nb with ⟨_, hs⟩ | ⟨h0, _⟩
      · exact q _ l (ref_of hR hO RS hD hF (k.trans (Kp.same s46)) (hD4.same s46) e4 hl hs)
      · have := of_decide_eq_true hc1
        rw [h0] at this; exact absurd this (by decide)
    · rcases begin_ok st li fi na nb with ⟨hneg, _⟩ | ⟨h0, hli, hfi, hna, hnb, hs⟩
      · exact absurd hneg (of_decide_eq_false hc1)
      · show sFld _ _ _ _ _ _ _
        refine make_of (ea_cons (ev_var rfl) (ea_cons (ev_var rfl) (ea_cons (ev_var rfl) ea_nil))) fun x dx hx hdx nx => ?_
        have hx' : (upd H6 dx (.own x)) x = none := by rw [L2.upd_ne (fun e => nx e.symm)]; exact hx
        have s7 : Same H6 (upd (upd H6 dx (.own x)) x (.ins a.C_Game dx [])) := (Same.upd hdx).trans (Same.upd hx')
        refine ⟨x, dx, h, li, fi, rfl, upd_same, fun p ms hp npx => ⟨rfl, ?_⟩⟩
        have hp6 : H6 p = none := s7.free hp
        -- the heap with the game
        have s8 : Same H6 (upd (upd (upd (upd H6 dx (.own x)) x (.ins a.C_Game dx [])) p (.lst (([0, 0, 0, 0] : List Int).map V.int))) x (.ins a.C_Game dx (gF ⟨dx, p, h, li, fi, 0, 0, .non, -1, -1, [0, 0, 0, 0], ms⟩))) := fun b u e => by
          rw [L2.upd_ne (ne_of_none e hx), L2.upd_ne (ne_of_none e hp6)]
          exact s7 _ _ e
        have hR8 := s8 _ _ (s46 _ _ hR4)
        refine (ev_var rfl) _ ⟨R, _, _, _, rfl, hR8, T.c_Referee, T.n_Referee_game, (by show 1 < 1000; decide), ?_⟩
        have nRx : R ≠ x := ne_of_none (s46 _ _ hR4) hx
        have nRp : R ≠ p := ne_of_none (s46 _ _ hR4) hp6
        have nRh : R ≠ h := ne_of_none hR4 hh
        have nhx : h ≠ x := ne_of_none hh6 hx
        have nhp : h ≠ p := ne_of_none hh6 hp6
        have k8 : ∀ b u, H6 b = some u → b ≠ R → (upd (upd (upd (upd (upd H6 dx (.own x)) x (.ins a.C_Game dx [])) p (.lst (([0, 0, 0, 0] : List Int).map V.int))) x (.ins a.C_Game dx (gF ⟨dx, p, h, li, fi, 0, 0, .non, -1, -1, [0, 0, 0, 0], ms⟩))) R (.ins a.C_Referee dxR (putF ("game" : Str) (.ref x) (rF v)))) b = some u := fun b u e n => by rw [L2.upd_ne n]; exact s8 _ _ e
        have hGn : GH a (upd (upd (upd (upd (upd H6 dx (.own x)) x (.ins a.C_Game dx [])) p (.lst (([0, 0, 0, 0] : List Int).map V.int))) x (.ins a.C_Game dx (gF ⟨dx, p, h, li, fi, 0, 0, .non, -1, -1, [0, 0, 0, 0], ms⟩))) R (.ins a.C_Referee dxR (putF ("game" : Str) (.ref x) (rF v)))) x ⟨dx, p, h, li, fi, 0, 0, .non, -1, -1, [0, 0, 0, 0], [na, nb]⟩ :=
          ⟨by rw [L2.upd_ne nRx.symm]; exact upd_same, by
            show (upd _ R _) p = _
            rw [L2.upd_ne nRp.symm, L2.upd_ne npx]; exact upd_same, k8 _ _ hh6 nRh.symm, rfl, rfl⟩
        have Rg3 : RelG ⟨li == 1, [0, 0, 0, 0], [na.toNat, nb.toNat], fi.toNat, none, none, 0, 0, none⟩ ⟨dx, p, h, li, fi, 0, 0, .non, -1, -1, [0, 0, 0, 0], [na, nb]⟩ none := by
          refine ⟨rfl, ?_, ?_, rfl, .inl rfl, fun _ => ⟨?_, rfl, rfl, True.intro, fun _ => rfl, (fun t U z => nomatch z)⟩, Cq.ok_start (by omega), fun z => absurd rfl z⟩
          · show [na, nb] = [((na.toNat : Nat) : Int), ((nb.toNat : Nat) : Int)]
            rw [Int.toNat_of_nonneg hna.1, Int.toNat_of_nonneg hnb.1]
          · rcases hli with z | z <;> subst z <;> rfl
          · show fi = ((fi.toNat : Nat) : Int)
            omega
        dsimp only
        refine st_retl (ea_cons ev_c ea_nil) (by show 1 ≤ 1000; decide) fun l hl => ?_
        refine q _ l (done_of (o' := some (x, _, none)) (v' := .ref x) (outs := [0]) hR hO RS hD hF k hD4 e4 (fun b ob e n n' => k8 _ _ (s46 _ _ e) n') upd_same ⟨rfl, hGn, fun _ => rfl⟩ (relS Rg3) (fun b hb => .inr ?_) (fun b ob e => ?_) hl hs (by show 1 ≤ 100; decide))
        · rcases hb with z | z | z | ⟨y, z, _⟩
          · rw [z]; exact s46.free hx
          · rw [z]; exact s46.free hp6
          · rw [z]; exact hh
          · cases z
        · by_cases z : b = R
          · rw [z, upd_same]; intro z; cases z
          · rw [k8 _ _ (s46 _ _ e) z]; intro z; cases z
end
end Hg
set_option Elab.async false
set_option linter.all false
set_option maxRecDepth 100000
set_option maxHeartbeats 2000000
namespace Hg
open PySem PySem.Spec PyProof.Rows L2
section
variable {P : Program} {w : World} {K : PySem.W.Frag} {mg : Str → Option Value} {base : Heap} {a : Adr} {H H1 H2 H3 : Hp} {g t s d R dxR : Addr} {G G1 : GV} {U : UV} {S : SV} {Q : VK} {E : XK} {C dx p x : Addr} {v v' : V} {st st' : Kg54.State} {o o' : GO} {W : DV} {Gm : Kg54.Game} {tt : Kg54.Turn}
theorem stroke_ok (RS : RelS st o) (S : SV) : (refS o S < 0 ∧ Kg54Neutral.step st [[3, S.hit, S.hoop, S.fault], S.ran, S.peg, S.off] = (st, [refS o S])) ∨
    (refS o S = 0 ∧ ∃ g G t U Gm tt, o = some (g, G, some (t, U)) ∧ st = some Gm ∧ RelG Gm G (some (t, U)) ∧ Gm.won = none ∧ G.winner = -1 ∧ Gm.turn = some tt ∧ RelT tt U ∧ SIn S ∧ Kg54.couldBe Gm.balls tt (mkK S) = true ∧
      Kg54Neutral.step st [[3, S.hit, S.hoop, S.fault], S.ran, S.peg, S.off] = (some (Gm.struck tt (mkK S)), [(Kg54.stands (Gm.struck tt (mkK S)) : Int), (Kg54.points (Gm.struck tt (mkK S)).balls 0 : Int), (Kg54.points (Gm.struck tt (mkK S)).balls 1 : Int)])) := by
  have es : Kg54Neutral.step st [[3, S.hit, S.hoop, S.fault], S.ran, S.peg, S.off] = ((Kg54.spec st (.stroke S.hit S.hoop S.fault S.ran S.peg S.off)).1, (Kg54.spec st (.stroke S.hit S.hoop S.fault S.ran S.peg S.off)).2.value :: (Kg54.spec st (.stroke S.hit S.hoop S.fault S.ran S.peg S.off)).2.out) := rfl
  rw [es]
  unfold refS Kg54.spec
  dsimp only
  rw [strokeOf_eq]
  cases hi : inrI S with
  | false =>
    left
    rw [if_pos (by decide), if_neg (by decide : ¬ (false = true))]
    exact ⟨by decide, rfl⟩
  | true =>
    rw [if_neg (by decide), if_pos rfl]
    dsimp only
    rcases rel_cases RS with ⟨hn, f⟩ | ⟨hn, g, G, u, Gm, rfl, rfl, Rg, hw2, ew, Go, ok, f⟩
    · left
      rw [iT hn, f]
      exact ⟨by decide, rfl⟩
    · rw [iF hn, f]
      dsimp only
      have ht := Go.turn
      cases hu : u with
      | none =>
        rw [hu] at ht
        cases hq : Gm.turn with
        | none => left; exact ⟨(by show (-3 : Int) < 0; decide), rfl⟩
        | some t => rw [hq] at ht; exact ht.elim
      | some x =>
        subst hu
        obtain ⟨t, U⟩ := x
        cases hq : Gm.turn with
        | none => rw [hq] at ht; exact ht.elim
        | some tt =>
          rw [hq] at ht
          have rt : RelT tt U := ht
          have tk := ok.turn tt hq
          obtain ⟨i0, i1, i2, i3⟩ := inrI_ok hi
          have hs : SIn S := ⟨i0, i1, i2, i3⟩
          dsimp only
          rw [Rg.xs, can_eq Rg.ok.balls tk rt hs]
          cases hcb : Kg54.couldBe Gm.balls tt (mkK S) with
          | false => left; rw [if_neg (by decide), if_pos rfl]; exact ⟨by decide, rfl⟩
          | true =>
            right
            rw [if_pos rfl, if_neg (by decide : ¬ (true = false))]
            exact ⟨rfl, g, G, t, U, Gm, tt, rfl, rfl, Rg, hw2, ew, hq, rt, hs, hcb, rfl⟩
/-! ### the game behind a stroke -/
theorem aft_xs (Rg : RelG Gm G (some (t, U))) (rt : RelT tt U) (hs : SIn S) (hcb : Kg54.couldBe Gm.balls tt (mkK S) = true) : (aft G U S).xs = Kg54.whole (Kg54.after tt (mkK S) Gm.balls) := by
  show cntI G.xs U S = _
  rw [Rg.xs, cnt_whole rt hs, Cq.cnt_eq Rg.ok.balls (Cq.could_iff.mp hcb)]
theorem aft_win (Rg : RelG Gm G (some (t, U))) (hwn : Gm.won = none) (hT : Gm.turn = some tt) (rt : RelT tt U) (hs : SIn S) (hcb : Kg54.couldBe Gm.balls tt (mkK S) = true) :
    (aft G U S).winner = Cq.encW (Kg54.winner (Kg54.after tt (mkK S) Gm.balls) (Kg54.sideOf tt.ball) (decide (Gm.time = 3))) := by
  have ok := Rg.ok.ok hwn
  have Go := Rg.go hwn
  have tk := ok.turn tt hT
  have e := aft_xs Rg rt hs hcb
  show winI (aft G U S).xs G.side G.time = _
  rw [e, Go.side, Go.time, winI_whole _ ok.side, Cq.winN_eq (Cq.after_ok Rg.ok.balls (Cq.could_iff.mp hcb)), tk.side]
theorem over_eq (Rg : RelG Gm G (some (t, U))) (hwn : Gm.won = none) (hT : Gm.turn = some tt) (rt : RelT tt U) (hs : SIn S) (hcb : Kg54.couldBe Gm.balls tt (mkK S) = true) :
    tt.goes (mkK S) Gm.balls = if overI (aft G U S).xs (liveI G.xs U S) (strk U) S = true then none else some (Cq.nextT tt (mkK S) Gm.balls (Kg54.after tt (mkK S) Gm.balls)) := by
  have ok := Rg.ok.ok hwn
  have tk := ok.turn tt hT
  have cb := Cq.could_iff.mp hcb
  have hc := Cq.after_ok Rg.ok.balls cb
  rw [Cq.goes_eq (Cq.after_grown Rg.ok.balls cb)]
  unfold overI
  rw [aft_xs Rg rt hs hcb, Rg.xs, live_eq Rg.ok.balls rt, hitc_eq hs, loses_eq hc tk.ball tk.next rt hs, earns_eq rt]
  by_cases h : Cq.loses tt (mkK S) (Kg54.after tt (mkK S) Gm.balls) (Cq.hitC tt (mkK S) Gm.balls) = true ∨ Cq.earns tt (mkK S) (Cq.hitC tt (mkK S) Gm.balls) = false
  · rw [if_pos h, if_pos (by rcases h with z | z <;> simp [z])]
  · rw [if_neg h, if_neg (by intro z; rw [Bool.or_eq_true, Bool.not_eq_true'] at z; exact h z)]
theorem struckA (Rg : RelG Gm G (some (t, U))) (hwn : Gm.won = none) (hT : Gm.turn = some tt) (rt : RelT tt U) (hs : SIn S) (hcb : Kg54.couldBe Gm.balls tt (mkK S) = true) (hw : (aft G U S).winner ≠ -1) : RelG (Gm.struck tt (mkK S)) (aft G U S) none := by
  have ew := aft_win Rg hwn hT rt hs hcb
  have sok := Cq.ok_struck Rg.ok hwn hT (Cq.could_iff.mp hcb)
  unfold Kg54.Game.struck at sok ⊢
  dsimp only at sok ⊢
  cases e : Kg54.winner (Kg54.after tt (mkK S) Gm.balls) (Kg54.sideOf tt.ball) (decide (Gm.time = 3)) with
  | none => rw [e] at ew; exact absurd ew hw
  | some ww =>
    rw [e] at ew sok
    dsimp only at sok ⊢
    exact ⟨aft_xs Rg rt hs hcb, Rg.ms, Rg.li, ew, Rg.la, (fun z => nomatch z), sok, fun _ => rfl⟩
theorem struckB (Rg : RelG Gm G (some (t, U))) (hwn : Gm.won = none) (hT : Gm.turn = some tt) (rt : RelT tt U) (hs : SIn S) (hcb : Kg54.couldBe Gm.balls tt (mkK S) = true) (hw : (aft G U S).winner = -1) (ho : overI (aft G U S).xs (liveI G.xs U S) (strk U) S = true) :
    RelG (Gm.struck tt (mkK S)) (ended (aft G U S) (strk U)) none := by
  have ew := aft_win Rg hwn hT rt hs hcb
  have og := over_eq Rg hwn hT rt hs hcb
  have sok := Cq.ok_struck Rg.ok hwn hT (Cq.could_iff.mp hcb)
  have ok := Rg.ok.ok hwn
  have Go := Rg.go hwn
  have tk := ok.turn tt hT
  rw [if_pos ho] at og
  unfold Kg54.Game.struck at sok ⊢
  dsimp only at sok ⊢
  cases e : Kg54.winner (Kg54.after tt (mkK S) Gm.balls) (Kg54.sideOf tt.ball) (decide (Gm.time = 3)) with
  | some ww =>
    rw [e, hw] at ew
    have ew : (-1 : Int) = (ww : Int) := ew
    omega
  | none =>
    rw [e] at sok
    dsimp only at sok ⊢
    rw [og] at sok ⊢
    dsimp only at sok ⊢
    obtain ⟨g0, g1⟩ := Cq.winner_none (show Kg54.sideOf tt.ball < 2 by unfold Kg54.sideOf; omega) e
    have ex := aft_xs Rg rt hs hcb
    refine pass_rel (Gm := { Gm with balls := Kg54.after tt (mkK S) Gm.balls }) (tt := some { tt with strokes := tt.strokes + 1 }) ex Rg.ms Rg.li hwn hw Go.side ok.side Go.time g0 g1 ?_ ?_ ?_ sok
    · have e1 : (strk U).ball = (tt.ball : Int) := rt.ball
      have e2 : (strk U).had = (tt.had : Int) := rt.had
      have e3 : (strk U).mate = (tt.mate : Int) := rt.mate
      dsimp only
      rw [Cq.owes_eq, ex, e1, e2, e3, pt_whole, show (aft G U S).lifts = (Kg54.truth Gm.lifts : Int) from Rg.li, owedI_eq]
    · exact rt.ball
    · right
      have e1 : (strk U).ball = (tt.ball : Int) := rt.ball
      have := tk.ball
      rw [e1]
      omega
theorem nliv_len (xs lv : List Int) (h : Int) : (nliv xs lv h).length ≤ lv.length := List.length_filter_le _ _
theorem struckC (Rg : RelG Gm G (some (t, U))) (hwn : Gm.won = none) (hT : Gm.turn = some tt) (rt : RelT tt U) (hs : SIn S) (hcb : Kg54.couldBe Gm.balls tt (mkK S) = true) (hw : (aft G U S).winner = -1) (ho : overI (aft G U S).xs (liveI G.xs U S) (strk U) S = false) {l : Addr} (n1 : l ≠ G.p) (n2 : l ≠ G.h) (hz : (liveI G.xs U S).length ≤ 4) :
    RelG (Gm.struck tt (mkK S)) (aft G U S) (some (t, nextU (aft G U S).xs (liveI G.xs U S) (strk U) S.hit l)) := by
  have ew := aft_win Rg hwn hT rt hs hcb
  have og := over_eq Rg hwn hT rt hs hcb
  have cb := Cq.could_iff.mp hcb
  have sok := Cq.ok_struck Rg.ok hwn hT cb
  have ok := Rg.ok.ok hwn
  have Go := Rg.go hwn
  have tk := ok.turn tt hT
  rw [iF ho] at og
  unfold Kg54.Game.struck at sok ⊢
  dsimp only at sok ⊢
  cases e : Kg54.winner (Kg54.after tt (mkK S) Gm.balls) (Kg54.sideOf tt.ball) (decide (Gm.time = 3)) with
  | some ww =>
    rw [e, hw] at ew
    have ew : (-1 : Int) = (ww : Int) := ew
    omega
  | none =>
    rw [e] at sok
    dsimp only at sok ⊢
    rw [og] at sok ⊢
    dsimp only at sok ⊢
    have ex := aft_xs Rg rt hs hcb
    refine ⟨ex, Rg.ms, Rg.li, by rw [hwn]; exact hw, Rg.la, fun _ => ⟨Go.side, Go.owed, Go.time, ?_, Go.last, fun t' U' z => ?_⟩, sok, fun z => absurd hwn z⟩
    · have := next_rel (b := Gm.balls) (Cq.after_ok Rg.ok.balls cb) rt hs (Cq.liveAt_lt tk) l
      rw [← live_eq Rg.ok.balls rt, ← Rg.xs, ← ex] at this
      exact this
    · cases z
      exact ⟨n1, n2, Nat.le_trans (nliv_len _ _ _) hz⟩
theorem live_in (Rg : RelG Gm G (some (t, U))) (hwn : Gm.won = none) (hT : Gm.turn = some tt) (rt : RelT tt U) : In4 (liveI G.xs U S) ∧ (liveI G.xs U S).length ≤ 4 := by
  have ok := Rg.ok.ok hwn
  have tk := ok.turn tt hT
  have Go := Rg.go hwn
  constructor
  · intro b hb
    rw [Rg.xs, live_eq Rg.ok.balls rt] at hb
    obtain ⟨y, hy, rfl⟩ := List.mem_map.mp hb
    have := Cq.liveAt_lt tk y hy
    omega
  · unfold liveI
    split
    · exact othI_len _ _
    · exact (Go.apart t U rfl).2.2
theorem bes_in (hT : ∀ x, tt.next = .croquet x → x < 4) (rt : RelT tt U) : U.beside = -1 ∨ (0 ≤ U.beside ∧ U.beside < 4) := by
  rw [rt.bes]
  cases e : tt.next with
  | single => exact .inl rfl
  | croquet x =>
    have := hT x e
    right
    show 0 ≤ (x : Int) ∧ (x : Int) < 4
    omega
theorem sq_call_any {sp : Sp} {tl : TA} {vs : List V} {σ : L2.St} {us : TS} {D : Ends} {Pq : Hp → Prop} (h : Ea tl σ H vs) (s : ∀ Q : VK, (∀ H1, Pq H1 → Q .non H1) → sp vs H Q E0) (q : ∀ H1, Pq H1 → us D σ H1) : tSeq (tDrop (tCall sp [] E0 tl)) us D σ H :=
  h _ (by rw [List.append_nil]; exact s _ q)
theorem ballOk_of (RS : RelS st o) : ballOk o := by
  intro g G t U e hw
  subst e
  cases st with
  | none => exact RS.elim
  | some Gm =>
    have Rg : RelG Gm G (some (t, U)) := RS
    have hwn : Gm.won = none := by rw [Rg.wi, encW_none] at hw; exact hw
    have Go := Rg.go hwn
    have ht := Go.turn
    cases hq : Gm.turn with
    | none => rw [hq] at ht; exact ht.elim
    | some tt =>
      rw [hq] at ht
      have rt : RelT tt U := ht
      have := ((Rg.ok.ok hwn).turn tt hq).ball
      rw [rt.ball]
      omega
/-- what play_stroke leaves -/
def Left (a : Adr) (g t : Addr) (G : GV) (Gs : Kg54.Game) (H H' : Hp) : Prop := ∃ G' u', GH a H' g G' ∧ (G'.winner = -1 → TVw a H' G'.tv u') ∧ RelG Gs G' u' ∧ Frm g G.p t H H' ∧ H' t ≠ none ∧ G'.p = G.p ∧ G'.h = G.h ∧ (u' = none ∨ ∃ U', u' = some (t, U') ∧ H U'.l = none)
theorem ok_answer_stroke (T : Txt K mg a) : FnOk P w K mg base CX0 7 a.answer_stroke a.answer_stroke_d ["referee", "reader"] (sp_ans K a 3) := by
  refine T.F_answer_stroke.ok sc_answer_stroke (fun vs H Q E h => ?_) (fun cdv A outer s H vs Q E hr h => ?_)
  · (first | (obtain ⟨rfl, _⟩ := h; rfl) | (obtain ⟨_, rfl, _⟩ := h; rfl) | (obtain ⟨_, _, rfl, _⟩ := h; rfl) | (obtain ⟨_, _, _, rfl, _⟩ := h; rfl) | (obtain ⟨_, _, _, _, rfl, _⟩ := h; rfl) | (obtain ⟨_, _, _, _, _, rfl, _⟩ := h; rfl) | (obtain ⟨_, _, _, _, _, _, rfl, _⟩ := h; rfl) | (obtain ⟨_, _, _, _, _, _, _, rfl, _⟩ := h; rfl) | (obtain ⟨_, _, _, _, _, _, _, _, rfl, _⟩ := h; rfl) | (obtain ⟨_, _, _, _, _, _, _, _, _, rfl, _⟩ := h; rfl) | (obtain ⟨_, _, _, _, _, _, _, _, _, _, rfl, _⟩ := h; rfl) | (obtain ⟨_, _, _, _, _, _, _, _, _, _, _, rfl, _⟩ := h; rfl) | (obtain ⟨_, _, _, _, _, _, _, _, _, _, _, _, rfl, _⟩ := h; rfl) | (obtain ⟨_, _, _, _, _, _, _, _, _, _, _, _, _, rfl, _⟩ := h; rfl) | (obtain ⟨_, _, _, _, _, _, _, _, _, _, _, _, _, _, rfl, _⟩ := h; rfl) | (obtain ⟨_, _, _, _, _, _, _, _, _, _, _, _, _, _, _, rfl, _⟩ := h; rfl))
  · obtain ⟨R, d, dxR, v, st, o, W, c, rest, rfl, hR, hO, RS, hD, hF, hc, hask, q⟩ := h
    obtain ⟨ht, hp, hf, lr, lg, lo, e0, rfl⟩ := rd3 hc
    refine ⟨_, (pss_cons (ps_set (i := 2) sc_answer_stroke.nd rfl (by first | exact Or.inl rfl | exact Or.inr rfl) (pe_fld (pv 0) (by rfl)))
      (pss_cons (ps_set (i := 3) sc_answer_stroke.nd rfl (by first | exact Or.inl rfl | exact Or.inr rfl) (pe_meth0 (pv 1) T.c_Reader T.m_Reader_stroke (ok_Reader_stroke T) (hr.mono (by decide)) T.b_Reader_stroke .nil pass0))
      (pss_cons (ps_set (i := 4) sc_answer_stroke.nd rfl (by first | exact Or.inl rfl | exact Or.inr rfl) (pe_call (ok_refusal_of_stroke T) (hr.mono (by decide)) (by rfl) T.g_refusal_of_stroke T.F_refusal_of_stroke.kp T.b_refusal_of_stroke .nil pass0 (pa_cons (pv 2) (pa_cons (pv 3) pa_nil))))
      (pss_cons (ps_if (pt_cmpR op_lt (pv 4) pe_int (nomark _)) (pss_one (ps_ret (pe_lst (pa_cons (pv 4) pa_nil)))) pss_nil)
      (pss_cons (ps_expr (pe_call (ok_play_stroke T) (hr.mono (by decide)) (by rfl) T.g_play_stroke T.F_play_stroke.kp T.b_play_stroke .nil pass0 (pa_cons (pv 2) (pa_cons (pv 3) pa_nil))))
      (pss_one (ps_ret (pe_lst (pa_cons (pe_meth0 (pv 2) T.c_Game T.m_Game_state (ok_Game_state T) (hr.mono (by decide)) T.b_Game_state .nil pass0) (pa_cons (pe_meth (pv 2) T.c_Game T.m_Game_side_points (ok_Game_side_points T) (hr.mono (by decide)) T.b_Game_side_points .nil pass0 (pa_cons pe_int pa_nil)) (pa_cons (pe_meth (pv 2) T.c_Game T.m_Game_side_points (ok_Game_side_points T) (hr.mono (by decide)) T.b_Game_side_points .nil pass0 (pa_cons pe_int pa_nil)) pa_nil))))))))))), ?_⟩
    have nRd := R_ne_d hR hD
    refine sq_set (ev_fld (ev_var rfl) hR T.c_Referee T.n_Referee_game rfl) ?_
    refine meth_of (ev_var rfl) hD.ob rfl ea_nil ⟨d, W, _, _, _, _, _, _, _, rfl, hD, e0, fun H1 s S i' B => ?_⟩
    obtain ⟨hD1, hre, k1, hS, fs, fr, fg, fo, rfl, rfl, rfl, rfl, rfl, rfl⟩ := B
    have few : Few S := by
      have z : (Kg54Neutral.whole32 S.hit && (Kg54Neutral.whole32 S.hoop && (Kg54Neutral.whole32 S.fault && (Kg54Neutral.row S.ran 8 && (Kg54Neutral.row S.peg 8 && Kg54Neutral.row S.off 8))))) = true := hask
      simp only [Bool.and_eq_true] at z
      obtain ⟨_, _, _, z1, z2, z3⟩ := z
      have z1 := Cq.asked_row z1
      have z2 := Cq.asked_row z2
      have z3 := Cq.asked_row z3
      exact ⟨by omega, by omega, by omega⟩
    have hO1 := hO.kp hD.ob (by show 2 < 7; decide) k1
    refine call_of (ea_cons (ev_var rfl) (ea_cons (ev_var rfl) ea_nil)) ⟨v, o, s, S, rfl, hO1, ballOk_of RS, hS, few, fun H2 s2 => ?_⟩
    have k := k1.trans (Kp.same (d := d) s2)
    have hR2 := k _ _ hR nRd
    have hO2 := hO1.same s2
    have hD2 := hD1.same s2
    have hS2 := hS.same s2
    dsimp only [gName]
    refine sq_if (et_test (ev_op (ev_var rfl) ev_c)) (fun hc1 => ?_) fun hc1 => ?_
    · refine st_retl (ea_cons (ev_var rfl) ea_nil) (by show 1 ≤ 1000; decide) fun l hl => ?_
      rcases stroke_ok RS S with ⟨_, hs⟩ | ⟨h0, _⟩
      · exact q _ l (ref_of hR hO RS hD hF k hD2 hre hl hs)
      · have := of_decide_eq_true hc1
        rw [h0] at this; exact absurd this (by decide)
    · rcases stroke_ok RS S with ⟨hneg, _⟩ | ⟨h0, g, G, t, U, Gm, tt, rfl, rfl, Rg, hwn, gw, hT, rt, hs, hcb, hst⟩
      · exact absurd hneg (of_decide_eq_false hc1)
      · have hO0 := hO
        obtain ⟨rfl, hG0, _⟩ := hO
        obtain ⟨_, hG, ho⟩ := hO2
        obtain ⟨htv, hU⟩ := ho gw
        have ok := Rg.ok.ok hwn
        have Go := Rg.go hwn
        have tk := ok.turn tt hT
        have hb : 0 ≤ U.ball ∧ U.ball < 4 := by rw [rt.ball]; have := tk.ball; omega
        have hp0 := hG0.pt
        have li := live_in (S := S) Rg hwn hT rt
        have hsd : 0 ≤ G.side ∧ G.side < 2 := by rw [Go.side]; have := ok.side; omega
        refine sq_call_any (Pq := Left a g t G (Gm.struck tt (mkK S)) H2) (ea_cons (ev_var rfl) (ea_cons (ev_var rfl) ea_nil)) (fun Q' q' => ⟨g, t, s, G, U, S, rfl, hG, htv, hU, hS2, hb, bes_in tk.next rt, hs.ran, hs.peg, (fun z => by rw [← z, fr] at hp0; cases hp0), (fun z => by rw [← z, fg] at hp0; cases hp0), (fun z => by rw [← z, fo] at hp0; cases hp0), (Go.apart t U rfl).1, li.1, by have := li.2; omega, hsd, ?_, ?_, ?_⟩) fun H3 L => ?_
        · intro H3 hw hG3 fm tn
          exact q' _ ⟨_, none, hG3, fun z => absurd z hw, struckA Rg hwn hT rt hs hcb hw, fm, tn, rfl, rfl, .inl rfl⟩
        · intro H3 hw hov hG3 fm tn
          exact q' _ ⟨_, none, hG3, fun _ => handed_tv _ _, struckB Rg hwn hT rt hs hcb hw hov, fm, tn, handed_p _ _, handed_h _ _, .inl rfl⟩
        · intro H3 l' hw hov hG3 hU3 hl' fm tn
          have m1 : l' ≠ G.p := fun z => by have := hG.pt; rw [← z, hl'] at this; cases this
          have m2 : l' ≠ G.h := fun z => by have := hG.ht; rw [← z, hl'] at this; cases this
          exact q' _ ⟨_, some (t, _), hG3, fun _ => ⟨htv, hU3⟩, struckC Rg hwn hT rt hs hcb hw hov m1 m2 li.2, fm, tn, rfl, rfl, .inr ⟨_, rfl, hl'⟩⟩
        · obtain ⟨G', u', hG3, ho3, Rg3, fm, tn, ep, eh, hu⟩ := L
          refine st_retl (ea_cons (ev_meth (ev_var rfl) hG3.ob rfl ea_nil (fun Q q => use_state hG3 ho3 q)) (ea_cons (ev_meth (ev_var rfl) hG3.ob rfl (ea_cons ev_c ea_nil) (fun Q q => use_side_points (by decide) hG3 q)) (ea_cons (ev_meth (ev_var rfl) hG3.ob rfl (ea_cons ev_c ea_nil) (fun Q q => use_side_points (by decide) hG3 q)) ea_nil))) (by show 3 ≤ 1000; decide) fun l hl => ?_
          have p0 := sdp_whole (Gm.struck tt (mkK S)).balls 0
          have p1 := sdp_whole (Gm.struck tt (mkK S)).balls 1
          have p0 : sdp (Kg54.whole (Gm.struck tt (mkK S)).balls) 0 = _ := p0
          have p1 : sdp (Kg54.whole (Gm.struck tt (mkK S)).balls) 1 = _ := p1
          rw [stands_rel Rg3, Rg3.xs, p0, p1]
          refine q _ l (done_of (o' := some (g, G', u')) (v' := .ref g) (outs := [(Kg54.stands (Gm.struck tt (mkK S)) : Int), (Kg54.points (Gm.struck tt (mkK S)).balls 0 : Int), (Kg54.points (Gm.struck tt (mkK S)).balls 1 : Int)]) hR hO0 RS hD hF k hD2 hre (fun b ob e n n' => fm _ _ e (fun z => n (.inl z)) (fun z => n (.inr (.inl z))) (fun z => n (.inr (.inr (.inr ⟨_, rfl, .inl z⟩))))) ?_ ⟨rfl, hG3, ho3⟩ (relS Rg3) (fun b hb => ?_) (fun b ob e => ?_) hl hst (by show 3 ≤ 100; decide))
          · exact fm _ _ hR2 (ne_of hR2 hG.ob (by intro z; have z := congrArg List.length (HO.ins.inj z).2.2; cases z)) (ne_of hR2 hG.pt (by intro z; cases z)) (ne_of hR2 hU.ob (by intro z; have z := congrArg List.length (HO.ins.inj z).2.2; cases z))
          · rcases hb with z | z | z | ⟨x, z, z2⟩
            · exact .inl (.inl z)
            · exact .inl (.inr (.inl (z.trans ep)))
            · exact .inl (.inr (.inr (.inl (z.trans eh))))
            · rcases hu with hu | ⟨U', hu, hf⟩
              · rw [hu] at z; cases z
              · rw [hu] at z; cases z
                rcases z2 with z2 | z2
                · exact .inl (.inr (.inr (.inr ⟨_, rfl, .inl z2⟩)))
                · rw [z2]; exact .inr hf
          · by_cases z1 : b = g
            · rw [z1, hG3.ob]; intro z; cases z
            · by_cases z2 : b = G.p
              · rw [z2, ← ep, hG3.pt]; intro z; cases z
              · by_cases z3 : b = t
                · rw [z3]; exact tn
                · rw [fm _ _ e z1 z2 z3]; intro z; cases z
end
end Hg
set_option Elab.async false
set_option linter.all false
set_option maxRecDepth 100000
set_option maxHeartbeats 2000000
namespace L2
open PySem PySem.Spec PyProof.Rows
section
variable {K : PySem.W.Frag} {σ : St} {H : Hp}
theorem sq_setl {ta : TA} {vs : List V} {n : Nat} {us : TS} {D : Ends} (h : Ea ta σ H vs) (hz : vs.length ≤ 1000) (q : ∀ p, H p = none → us D (σ.set n (some (.ref p))) (upd H p (.lst vs))) : tSeq (tAsg (tLst ta) (gName n)) us D σ H := h _ ⟨Nat.le_of_lt (small1000 hz), q⟩
theorem catl3_of {ta : TA} {tb tc : TE} {p2 p3 : Addr} {xs ys zs : List V} {Q : VK} (h1 : Ea ta σ H xs) (h2 : ∀ H', Same H H' → Ev tb σ H' (.ref p2)) (e2 : H p2 = some (.lst ys)) (h3 : ∀ H', Same H H' → Ev tc σ H' (.ref p3)) (e3 : H p3 = some (.lst zs))
    (hz : xs.length + ys.length + zs.length ≤ 1000) (q : ∀ H' d, Same H H' → H' d = none → Q (.ref d) (upd H' d (.lst (xs ++ ys ++ zs)))) : tOp rCat (tOp rCat (tLst ta) tb) tc σ H Q := by
  refine h1 _ ⟨Nat.le_of_lt (small1000 (by omega)), fun l1 f1 => ?_⟩
  have s1 : Same H (upd H l1 (.lst xs)) := Same.upd f1
  refine h2 _ s1 _ ⟨l1, p2, _, _, rfl, rfl, upd_same, s1 _ _ e2, Nat.le_of_lt (small1000 (by omega)), fun l2 f2 => ?_⟩
  have s2 : Same (upd H l1 (.lst xs)) (upd (upd H l1 (.lst xs)) l2 (.lst (xs ++ ys))) := Same.upd f2
  refine h3 _ (s1.trans s2) _ ⟨l2, p3, _, _, rfl, rfl, upd_same, (s1.trans s2) _ _ e3, Nat.le_of_lt (small1000 (by rw [List.length_append]; omega)), fun l3 f3 => ?_⟩
  exact q _ l3 (s1.trans s2) f3
end
end L2
namespace Hg
open PySem PySem.Spec PyProof.Rows L2
section
variable {P : Program} {w : World} {K : PySem.W.Frag} {mg : Str → Option Value} {base : Heap} {a : Adr} {H H1 H2 H3 : Hp} {g t s d R dxR : Addr} {G G1 : GV} {U : UV} {S : SV} {Q : VK} {E : XK} {C dx p x : Addr} {v v' : V} {st st' : Kg54.State} {o o' : GO} {W : DV}
/-- nothing was written -/
theorem told_of {c : List (List Int)} {rest outs : List Int} {l : Addr} (hR : H R = some (.ins a.C_Referee dxR (rF v))) (hO : GOp a H v o) (RS : RelS st o) (hD : DH K a H d W) (hF : SqF K H W.c (W.ns.map V.int)) (hre : W.ns.drop W.i = rest) (sm : Same H H3)
    (hl : H3 l = none) (hs : Kg54Neutral.step st c = (st, outs)) (hz : outs.length ≤ 100) : Ansd K a H (upd H3 l (.lst (outs.map V.int))) R dxR d W st o c rest l :=
  done_of (i' := W.i) hR hO RS hD hF Kp.refl hD hre (fun b ob e _ _ => sm _ _ e) (sm _ _ hR) (hO.same sm) RS (fun b h => .inl h) (fun b ob e => by rw [sm _ _ e]; intro z; cases z) hl hs hz
theorem ok_answer_balls (T : Txt K mg a) : FnOk P w K mg base CX0 1 a.answer_balls a.answer_balls_d ["referee", "reader"] (sp_ans K a 9) := by
  refine T.F_answer_balls.ok sc_answer_balls (fun vs H Q E h => ?_) (fun cdv A outer s H vs Q E hr h => ?_)
  · (first | (obtain ⟨rfl, _⟩ := h; rfl) | (obtain ⟨_, rfl, _⟩ := h; rfl) | (obtain ⟨_, _, rfl, _⟩ := h; rfl) | (obtain ⟨_, _, _, rfl, _⟩ := h; rfl) | (obtain ⟨_, _, _, _, rfl, _⟩ := h; rfl) | (obtain ⟨_, _, _, _, _, rfl, _⟩ := h; rfl) | (obtain ⟨_, _, _, _, _, _, rfl, _⟩ := h; rfl) | (obtain ⟨_, _, _, _, _, _, _, rfl, _⟩ := h; rfl) | (obtain ⟨_, _, _, _, _, _, _, _, rfl, _⟩ := h; rfl) | (obtain ⟨_, _, _, _, _, _, _, _, _, rfl, _⟩ := h; rfl) | (obtain ⟨_, _, _, _, _, _, _, _, _, _, rfl, _⟩ := h; rfl) | (obtain ⟨_, _, _, _, _, _, _, _, _, _, _, rfl, _⟩ := h; rfl) | (obtain ⟨_, _, _, _, _, _, _, _, _, _, _, _, rfl, _⟩ := h; rfl) | (obtain ⟨_, _, _, _, _, _, _, _, _, _, _, _, _, rfl, _⟩ := h; rfl) | (obtain ⟨_, _, _, _, _, _, _, _, _, _, _, _, _, _, rfl, _⟩ := h; rfl) | (obtain ⟨_, _, _, _, _, _, _, _, _, _, _, _, _, _, _, rfl, _⟩ := h; rfl))
  · obtain ⟨R, d, dxR, v, st, o, W, c, rest, rfl, hR, hO, RS, hD, hF, hc, hask, q⟩ := h
    obtain ⟨hre, rfl⟩ := rd9 hc
    refine ⟨_, (pss_cons (ps_set (i := 2) sc_answer_balls.nd rfl (by first | exact Or.inl rfl | exact Or.inr rfl) (pe_fld (pv 0) (by rfl)))
      (pss_cons (ps_if (pt_cmpR op_isN (pv 2) pe_non (nomark _)) (pss_one (ps_ret (pe_lst (pa_cons (pe_un un_neg pe_int) pa_nil)))) pss_nil)
      (pss_one (ps_ret (pe_op op_cat (pe_op op_cat (pe_lst (pa_cons (pe_gi (by rfl) T.g_BALLS_TOLD) pa_nil)) (pe_fld (pv 2) (by rfl))) (pe_fld (pv 2) (by rfl))))))), ?_⟩
    refine sq_set (ev_fld (ev_var rfl) hR T.c_Referee T.n_Referee_game rfl) ?_
    cases o with
    | none =>
      cases st with
      | some Gm => exact RS.elim
      | none =>
        have hv : v = .non := hO
        refine sq_if (et_test (ev_isN (ev_var rfl))) (fun hc1 => ?_) fun hc1 => absurd hv (of_decide_eq_false hc1)
        refine st_retl (ea_cons (ev_un ev_c) ea_nil) (by show 1 ≤ 1000; decide) fun l hl => ?_
        exact q _ l (told_of (outs := [-2]) hR hO RS hD hF hre (Same.refl H) hl rfl (by show 1 ≤ 100; decide))
    | some x =>
      obtain ⟨g, G, u⟩ := x
      cases st with
      | none => exact RS.elim
      | some Gm =>
        have Rg : RelG Gm G u := RS
        have hO0 := hO
        obtain ⟨rfl, hG, ho⟩ := hO
        refine sq_if (et_test (ev_isN (ev_var rfl))) (fun hc1 => absurd (of_decide_eq_true hc1) (by intro z; cases z)) fun hc1 => ?_
        show tOp rCat _ _ _ _ _
        refine catl3_of (xs := [.int 4]) (ea_cons ev_c ea_nil) (fun H' s => ev_fld (ev_var rfl) (hG.same s).ob T.c_Game T.n_Game_points rfl) hG.pt (fun H' s => ev_fld (ev_var rfl) (hG.same s).ob T.c_Game T.n_Game_half_turns rfl) hG.ht (by rw [List.length_map, List.length_map, hG.xl, hG.ml]; decide) fun H3 l sm hl => ?_
        have eo : ([V.int 4] ++ G.xs.map V.int ++ G.ms.map V.int) = ((4 :: Kg54.whole (Gm.balls ++ Gm.more)).map V.int) := by
          rw [Rg.xs, Rg.ms]
          unfold Kg54.whole
          simp
        rw [eo]
        refine q _ l (told_of (outs := 4 :: Kg54.whole (Gm.balls ++ Gm.more)) hR hO0 RS hD hF hre sm hl rfl ?_)
        unfold Kg54.whole
        rw [List.length_cons, List.length_map, List.length_append, Rg.ok.balls.len, Rg.ok.more]
        decide
/-! ### now -/
theorem ok_answer_now (T : Txt K mg a) : FnOk P w K mg base CX0 2 a.answer_now a.answer_now_d ["referee", "reader"] (sp_ans K a 8) := by
  refine T.F_answer_now.ok sc_answer_now (fun vs H Q E h => ?_) (fun cdv A outer s H vs Q E hr h => ?_)
  · (first | (obtain ⟨rfl, _⟩ := h; rfl) | (obtain ⟨_, rfl, _⟩ := h; rfl) | (obtain ⟨_, _, rfl, _⟩ := h; rfl) | (obtain ⟨_, _, _, rfl, _⟩ := h; rfl) | (obtain ⟨_, _, _, _, rfl, _⟩ := h; rfl) | (obtain ⟨_, _, _, _, _, rfl, _⟩ := h; rfl) | (obtain ⟨_, _, _, _, _, _, rfl, _⟩ := h; rfl) | (obtain ⟨_, _, _, _, _, _, _, rfl, _⟩ := h; rfl) | (obtain ⟨_, _, _, _, _, _, _, _, rfl, _⟩ := h; rfl) | (obtain ⟨_, _, _, _, _, _, _, _, _, rfl, _⟩ := h; rfl) | (obtain ⟨_, _, _, _, _, _, _, _, _, _, rfl, _⟩ := h; rfl) | (obtain ⟨_, _, _, _, _, _, _, _, _, _, _, rfl, _⟩ := h; rfl) | (obtain ⟨_, _, _, _, _, _, _, _, _, _, _, _, rfl, _⟩ := h; rfl) | (obtain ⟨_, _, _, _, _, _, _, _, _, _, _, _, _, rfl, _⟩ := h; rfl) | (obtain ⟨_, _, _, _, _, _, _, _, _, _, _, _, _, _, rfl, _⟩ := h; rfl) | (obtain ⟨_, _, _, _, _, _, _, _, _, _, _, _, _, _, _, rfl, _⟩ := h; rfl))
  · obtain ⟨R, d, dxR, v, st, o, W, c, rest, rfl, hR, hO, RS, hD, hF, hc, hask, q⟩ := h
    obtain ⟨hre, rfl⟩ := rd8 hc
    refine ⟨_, (pss_cons (ps_set (i := 2) sc_answer_now.nd rfl (by first | exact Or.inl rfl | exact Or.inr rfl) (pe_fld (pv 0) (by rfl)))
      (pss_cons (ps_if (pt_cmpR op_isN (pv 2) pe_non (nomark _)) (pss_one (ps_ret (pe_lst (pa_cons (pe_un un_neg pe_int) pa_nil)))) pss_nil)
      (pss_cons (ps_if (pt_cmpR op_eqI (pe_meth0 (pv 2) T.c_Game T.m_Game_state (ok_Game_state T) (hr.mono (by decide)) T.b_Game_state .nil pass0) (pe_gi (by rfl) T.g_GAME_OVER) (nomark _)) (pss_one (ps_ret (pe_lst (pa_cons (pe_gi (by rfl) T.g_GAME_OVER) (pa_cons (pe_fld (pv 2) (by rfl)) pa_nil))))) pss_nil)
      (pss_cons (ps_set (i := 3) sc_answer_now.nd rfl (by first | exact Or.inl rfl | exact Or.inr rfl) (pe_lst (pa_cons (pe_meth0 (pv 2) T.c_Game T.m_Game_state (ok_Game_state T) (hr.mono (by decide)) T.b_Game_state .nil pass0) (pa_cons (pe_fld (pv 2) (by rfl)) (pa_cons (pe_fld (pv 2) (by rfl)) (pa_cons (pe_fld (pv 2) (by rfl)) pa_nil))))))
      (pss_one (ps_ret (pe_ifExp (pt_cmpR op_isN (pe_fld (pv 2) (by rfl)) pe_non (nomark _)) (pv 3) (pe_op op_cat (pv 3) (pe_call (ok_told_of_turn T) (hr.mono (by decide)) (by rfl) T.g_told_of_turn T.F_told_of_turn.kp T.b_told_of_turn .nil pass0 (pa_cons (pe_fld (pv 2) (by rfl)) pa_nil)))))))))), ?_⟩
    refine sq_set (ev_fld (ev_var rfl) hR T.c_Referee T.n_Referee_game rfl) ?_
    cases o with
    | none =>
      cases st with
      | some Gm => exact RS.elim
      | none =>
        have hv : v = .non := hO
        refine sq_if (et_test (ev_isN (ev_var rfl))) (fun hc1 => ?_) fun hc1 => absurd hv (of_decide_eq_false hc1)
        refine st_retl (ea_cons (ev_un ev_c) ea_nil) (by show 1 ≤ 1000; decide) fun l hl => ?_
        exact q _ l (told_of (outs := [-2]) hR hO RS hD hF hre (Same.refl H) hl rfl (by show 1 ≤ 100; decide))
    | some x =>
      obtain ⟨g, G, u⟩ := x
      cases st with
      | none => exact RS.elim
      | some Gm =>
        have Rg : RelG Gm G u := RS
        have hO0 := hO
        obtain ⟨rfl, hG, ho⟩ := hO
        have es := stands_rel Rg
        have ee : Kg54Neutral.step (some Gm) [[8]] = (some Gm, (Kg54.stands Gm : Int) :: (match Gm.won with
          | some w => [(w : Int)]
          | none => Kg54.whole [Gm.side, Gm.owed, Gm.time] ++ (match Gm.turn with
            | some t => Kg54.showTurn t
            | none => []))) := rfl
        refine sq_if (et_test (ev_isN (ev_var rfl))) (fun hc1 => absurd (of_decide_eq_true hc1) (by intro z; cases z)) fun hc1 => ?_
        refine sq_if (et_test (ev_op (ev_meth (ev_var rfl) hG.ob rfl ea_nil (fun Q q => use_state hG ho q)) ev_c)) (fun hc2 => ?_) fun hc2 => ?_
        · rw [stt_3, decide_eq_true_eq] at hc2
          cases hw : Gm.won with
          | none => exact absurd (by rw [Rg.wi, hw]; rfl) hc2
          | some ww =>
            refine st_retl (ea_cons ev_c (ea_cons (ev_fld (ev_var rfl) hG.ob T.c_Game T.n_Game_winner rfl) ea_nil)) (by show 2 ≤ 1000; decide) fun l hl => ?_
            have e3 : (Kg54.stands Gm : Int) = 3 := by unfold Kg54.stands; rw [hw]; rfl
            rw [Rg.wi, hw]
            refine q _ l (told_of (outs := [3, (ww : Int)]) hR hO0 RS hD hF hre (Same.refl H) hl ?_ (by show 2 ≤ 100; decide))
            rw [ee, e3, hw]
        · rw [stt_3, decide_eq_false_iff_not] at hc2
          have gw : G.winner = -1 := Classical.byContradiction hc2
          have hw : Gm.won = none := by rw [Rg.wi, encW_none] at gw; exact gw
          have Go := Rg.go hw
          have ho := ho gw
          have ht := Go.turn
          refine sq_setl (ea_cons (ev_meth (ev_var rfl) hG.ob rfl ea_nil (fun Q q => use_state hG (fun _ => ho) q)) (ea_cons (ev_fld (ev_var rfl) hG.ob T.c_Game T.n_Game_side rfl) (ea_cons (ev_fld (ev_var rfl) hG.ob T.c_Game T.n_Game_owed rfl) (ea_cons (ev_fld (ev_var rfl) hG.ob T.c_Game T.n_Game_time rfl) ea_nil)))) (by show 4 ≤ 1000; decide) fun l1 f1 => ?_
          rw [es, Go.side, Go.owed, Go.time]
          have s1 : Same H (upd H l1 (.lst [.int (Kg54.stands Gm : Int), .int (Gm.side : Int), .int (Gm.owed : Int), .int (Gm.time : Int)])) := Same.upd f1
          have hG1 := hG.same s1
          cases u with
          | none =>
            have hn : G.tv = .non := ho
            cases hq : Gm.turn with
            | some tt => rw [hq] at ht; exact ht.elim
            | none =>
              refine (et_test (ev_isN ((ev_fld (ev_var rfl) hG1.ob T.c_Game T.n_Game_turn rfl).cast hn))) _ (iteT ((ev_var rfl) _ ?_))
              refine q _ l1 (told_of (outs := [(Kg54.stands Gm : Int), (Gm.side : Int), (Gm.owed : Int), (Gm.time : Int)]) hR hO0 RS hD hF hre (Same.refl H) f1 ?_ (by show 4 ≤ 100; decide))
              rw [ee, hw, hq]
              rfl
          | some y =>
            obtain ⟨t, U⟩ := y
            obtain ⟨htv, hU⟩ := ho
            cases hq : Gm.turn with
            | none => rw [hq] at ht; exact ht.elim
            | some tt =>
              rw [hq] at ht
              have rt : RelT tt U := ht
              have few := (Go.apart t U rfl).2.2
              have hU1 := hU.same s1
              refine (et_test (ev_isN ((ev_fld (ev_var rfl) hG1.ob T.c_Game T.n_Game_turn rfl).cast htv))) _ (iteF ?_)
              refine (ev_var rfl) _ (call_of (ea_cons ((ev_fld (ev_var rfl) hG1.ob T.c_Game T.n_Game_turn rfl).cast htv) ea_nil) ⟨t, U, rfl, hU1, by omega, fun H2 l2 s2 f2 e2 => ?_⟩)
              refine ⟨l1, l2, _, _, rfl, rfl, s2 _ _ upd_same, e2, Nat.le_of_lt (small1000 (by rw [List.length_map]; show 4 + (U.live.length + 4) ≤ 1000; omega)), fun l3 f3 => ?_⟩
              have eo : ([V.int (Kg54.stands Gm : Int), V.int (Gm.side : Int), V.int (Gm.owed : Int), V.int (Gm.time : Int)] ++ (U.ball :: U.beside :: U.half :: U.strokes :: U.live).map V.int) = (((Kg54.stands Gm : Int) :: (Kg54.whole [Gm.side, Gm.owed, Gm.time] ++ Kg54.showTurn tt)).map V.int) := by
                rw [rt.ball, rt.bes, rt.half, rt.str, rt.live]
                unfold Kg54.showTurn
                cases tt.next <;> rfl
              rw [eo]
              refine q _ l3 (told_of (outs := (Kg54.stands Gm : Int) :: (Kg54.whole [Gm.side, Gm.owed, Gm.time] ++ Kg54.showTurn tt)) hR hO0 RS hD hF hre (s1.trans s2) f3 ?_ ?_)
              · rw [ee, hw, hq]
              · have e1 : (((Kg54.stands Gm : Int) :: (Kg54.whole [Gm.side, Gm.owed, Gm.time] ++ Kg54.showTurn tt)).map V.int).length = 4 + (U.live.length + 4) := by
                  rw [← eo, List.length_append, List.length_map]; rfl
                rw [List.length_map] at e1
                rw [e1]
                omega
end
end Hg
set_option Elab.async false
set_option linter.all false
set_option maxRecDepth 100000
set_option maxHeartbeats 2000000
namespace L2
open PySem PySem.Spec PyProof.Rows
section
variable {K : PySem.W.Frag} {σ : St} {H : Hp} {ta tb : TE} {us : TS} {D : Ends} {l b : Addr} {xs zs : List V} {y : V}
theorem sq_app (h : Ev ta σ H (.ref l)) (hl : H l = some (.lst xs)) (hb : Ev tb σ H y) (hz : xs.length < sizeLine) (q : us D σ (upd H l (.lst (xs ++ [y])))) : tSeq (tDrop (tBM K "list" rAppend ta (tCons tb tNil))) us D σ H :=
  h _ ⟨.inl ⟨rfl, _, SqL.of hl⟩, hb _ ⟨l, _, _, rfl, rfl, hl, hz, q⟩⟩
theorem st_ext (h : Ev ta σ H (.ref l)) (hl : H l = some (.lst xs)) (hb : Ev tb σ H (.ref b)) (hb2 : H b = some (.lst zs)) (hz : xs.length + zs.length ≤ sizeLine) (q : D.nx σ (upd H l (.lst (xs ++ zs)))) : tDrop (tBM K "list" rExtend ta (tCons tb tNil)) D σ H :=
  h _ ⟨.inl ⟨rfl, _, SqL.of hl⟩, hb _ ⟨l, b, _, _, rfl, rfl, hl, hb2, hz, q⟩⟩
end
end L2
namespace Hg
open PySem PySem.Spec PyProof.Rows L2
section
variable {P : Program} {w : World} {K : PySem.W.Frag} {mg : Str → Option Value} {base : Heap} {a : Adr} {H H1 H2 H3 : Hp} {g t s d R dxR : Addr} {G G1 : GV} {U : UV} {S : SV} {Q : VK} {E : XK} {C dx p x : Addr} {v v' : V} {st st' : Kg54.State} {o o' : GO} {W : DV}
/-! ### one call -/
theorem Ansd.from_ {c : List (List Int)} {rest : List Int} {l : Addr} {i : Nat} (A : Ansd K a H1 H2 R dxR d { W with i := i } st o c rest l) (k : Kp d H H1) (hD1 : DH K a H1 d { W with i := i }) : Ansd K a H H2 R dxR d W st o c rest l := by
  obtain ⟨⟨v', o', h1, h2, h3, h4⟩, ⟨i', h5, h6⟩, h7, h8, h9, h10⟩ := A
  exact ⟨⟨v', o', h1, h2, h3, fun b hb => (h4 b hb).imp id fun e => k.free hD1.ob e⟩, ⟨i', h5, h6⟩, h7, k.free hD1.ob h8, h9, fun b ob e n1 n2 n3 => h10 b ob (k _ _ e n3) n1 n2 n3⟩
def sp_answer_call (K : PySem.W.Frag) (a : Adr) : Sp := fun vs H Q _ => ∃ (R d dxR : Addr) (v : V) (st : Kg54.State) (o : GO) (W : DV) (p : Int) (L : List Int) (c : List (List Int)) (rest : List Int), vs = [.ref R, .ref d] ∧ H R = some (.ins a.C_Referee dxR (rF v)) ∧ GOp a H v o ∧ RelS st o ∧ DH K a H d W ∧ SqF K H W.c (W.ns.map V.int) ∧
  W.ns.drop W.i = p :: L ∧ Cq.Rd1 p L c rest ∧ Kg54Neutral.asked1 c = true ∧ ∀ H' l, Ansd K a H H' R dxR d W st o c rest l → Q (.ref l) H'
theorem rd_range {p : Int} {L c t} (h : Cq.Rd1 p L c t) : p = 1 ∨ p = 2 ∨ p = 3 ∨ p = 4 ∨ p = 5 ∨ p = 6 ∨ p = 7 ∨ p = 8 ∨ p = 9 := by
  cases h <;> simp
theorem ok_answer_call (T : Txt K mg a) : FnOk P w K mg base CX0 8 a.answer_call a.answer_call_d ["referee", "reader"] (sp_answer_call K a) := by
  refine T.F_answer_call.ok sc_answer_call (fun vs H Q E h => ?_) (fun cdv A outer s H vs Q E hr h => ?_)
  · (first | (obtain ⟨rfl, _⟩ := h; rfl) | (obtain ⟨_, rfl, _⟩ := h; rfl) | (obtain ⟨_, _, rfl, _⟩ := h; rfl) | (obtain ⟨_, _, _, rfl, _⟩ := h; rfl) | (obtain ⟨_, _, _, _, rfl, _⟩ := h; rfl) | (obtain ⟨_, _, _, _, _, rfl, _⟩ := h; rfl) | (obtain ⟨_, _, _, _, _, _, rfl, _⟩ := h; rfl) | (obtain ⟨_, _, _, _, _, _, _, rfl, _⟩ := h; rfl) | (obtain ⟨_, _, _, _, _, _, _, _, rfl, _⟩ := h; rfl) | (obtain ⟨_, _, _, _, _, _, _, _, _, rfl, _⟩ := h; rfl) | (obtain ⟨_, _, _, _, _, _, _, _, _, _, rfl, _⟩ := h; rfl) | (obtain ⟨_, _, _, _, _, _, _, _, _, _, _, rfl, _⟩ := h; rfl) | (obtain ⟨_, _, _, _, _, _, _, _, _, _, _, _, rfl, _⟩ := h; rfl) | (obtain ⟨_, _, _, _, _, _, _, _, _, _, _, _, _, rfl, _⟩ := h; rfl) | (obtain ⟨_, _, _, _, _, _, _, _, _, _, _, _, _, _, rfl, _⟩ := h; rfl) | (obtain ⟨_, _, _, _, _, _, _, _, _, _, _, _, _, _, _, rfl, _⟩ := h; rfl))
  · obtain ⟨R, d, dxR, v, st, o, W, p, L, c, rest, rfl, hR, hO, RS, hD, hF, e0, hc, hask, q⟩ := h
    refine ⟨_, (pss_one (ps_ret (pe_table (by rfl) T.g_CALLS T.t_CALLS (pe_meth0 (pv 1) T.c_Reader T.m_Reader_number (ok_Reader_number T) (hr.mono (by decide)) T.b_Reader_number .nil pass0) (fun _ _ => rfl) (pa_cons (pv 0) (pa_cons (pv 1) pa_nil))))), ?_⟩
    have nRd := R_ne_d hR hD
    refine meth_of (ev_var rfl) hD.ob rfl ea_nil ⟨d, W, _, _, rfl, hD, e0, fun H1 hD1 k => ?_⟩
    have e1 := (drop_at e0).2
    have hR1 := k _ _ hR nRd
    have hO1 := hO.kp hD.ob (by show 2 < 7; decide) k
    have hF1 : SqF K H1 W.c (W.ns.map V.int) := hF.keep fun ob e => k _ _ e (ne_of e hD.ob (by intro z; cases z))
    have hc1 : Cq.Rd1 p (W.ns.drop (W.i + 1)) c rest := by rw [e1]; exact hc
    have go : sp_ans K a p [.ref R, .ref d] H1 Q E0 := ⟨R, d, dxR, v, st, o, { W with i := W.i + 1 }, c, rest, rfl, hR1, hO1, RS, hD1, hF1, hc1, hask, fun H' l A => q H' l (A.from_ k hD1)⟩
    have ea : Ea (tCons (tVar 0) (tCons (tVar 1) tNil)) (L2.start ["referee", "reader"] [V.ref R, V.ref d]) H1 [.ref R, .ref d] := ea_cons (ev_var rfl) (ea_cons (ev_var rfl) ea_nil)
    rcases rd_range hc with rfl | rfl | rfl | rfl | rfl | rfl | rfl | rfl | rfl
    · exact ⟨1, a.answer_begin, sp_ans K a 1, rfl, rfl, ⟨_, _, _, ok_answer_begin T, hr.mono (by decide), T.b_answer_begin, T.F_answer_begin.kp⟩, ea _ go⟩
    · exact ⟨2, a.answer_turn, sp_ans K a 2, rfl, rfl, ⟨_, _, _, ok_answer_turn T, hr.mono (by decide), T.b_answer_turn, T.F_answer_turn.kp⟩, ea _ go⟩
    · exact ⟨3, a.answer_stroke, sp_ans K a 3, rfl, rfl, ⟨_, _, _, ok_answer_stroke T, hr.mono (by decide), T.b_answer_stroke, T.F_answer_stroke.kp⟩, ea _ go⟩
    · exact ⟨4, a.answer_pass, sp_ans K a 4, rfl, rfl, ⟨_, _, _, ok_answer_pass T, hr.mono (by decide), T.b_answer_pass, T.F_answer_pass.kp⟩, ea _ go⟩
    · exact ⟨5, a.answer_more, sp_ans K a 5, rfl, rfl, ⟨_, _, _, ok_answer_more T, hr.mono (by decide), T.b_answer_more, T.F_answer_more.kp⟩, ea _ go⟩
    · exact ⟨6, a.answer_wired, sp_ans K a 6, rfl, rfl, ⟨_, _, _, ok_answer_wired T, hr.mono (by decide), T.b_answer_wired, T.F_answer_wired.kp⟩, ea _ go⟩
    · exact ⟨7, a.answer_time, sp_ans K a 7, rfl, rfl, ⟨_, _, _, ok_answer_time T, hr.mono (by decide), T.b_answer_time, T.F_answer_time.kp⟩, ea _ go⟩
    · exact ⟨8, a.answer_now, sp_ans K a 8, rfl, rfl, ⟨_, _, _, ok_answer_now T, hr.mono (by decide), T.b_answer_now, T.F_answer_now.kp⟩, ea _ go⟩
    · exact ⟨9, a.answer_balls, sp_ans K a 9, rfl, rfl, ⟨_, _, _, ok_answer_balls T, hr.mono (by decide), T.b_answer_balls, T.F_answer_balls.kp⟩, ea _ go⟩
/-! ### the calls, one behind another -/
theorem GOp.upd_ne {A : Addr} {ob : HO} (hO : GOp a H v o) (RS : RelS st o) (n : ¬ inG o A) : GOp a (upd H A ob) v o := by
  cases o with
  | none => exact hO
  | some x =>
    obtain ⟨g, G, u⟩ := x
    obtain ⟨rfl, hG, ho⟩ := hO
    have n1 : g ≠ A := fun z => n (.inl z.symm)
    have n2 : G.p ≠ A := fun z => n (.inr (.inl z.symm))
    have n3 : G.h ≠ A := fun z => n (.inr (.inr (.inl z.symm)))
    refine ⟨rfl, hG.upd_ne n1 n2 n3, fun hw => ?_⟩
    have ho := ho hw
    cases u with
    | none => exact ho
    | some y =>
      obtain ⟨t, U⟩ := y
      exact ⟨ho.1, ho.2.upd_ne (fun z => n (.inr (.inr (.inr ⟨_, rfl, .inl z.symm⟩)))) (fun z => n (.inr (.inr (.inr ⟨_, rfl, .inr z.symm⟩))))⟩
/-- the place of the reader at d -/
def placeAt (H : Hp) (d : Addr) : Nat := match H d with
  | some (.ins _ _ fs) => (match fs.lookup ("place" : Str) with
    | some (.int i) => i.toNat
    | _ => 0)
  | _ => 0
theorem placeAt_of (hD : DH K a H d W) : placeAt H d = W.i := by
  unfold placeAt
  rw [hD.ob]
  show ((W.i : Nat) : Int).toNat = W.i
  exact Int.toNat_natCast _
theorem rdall_inv {l : List Int} {cs : List (List (List Int))} (h : Cq.RdAll l cs) : (l = [] ∧ cs = []) ∨ ∃ p L c t cs', l = p :: L ∧ cs = c :: cs' ∧ Cq.Rd1 p L c t ∧ Cq.RdAll t cs' := by
  cases h with
  | nil => exact .inl ⟨rfl, rfl⟩
  | cons h1 h2 => exact .inr ⟨_, _, _, _, _, rfl, rfl, h1, h2⟩
theorem rd_len {p : Int} {L c t} (h : Cq.Rd1 p L c t) : t.length ≤ L.length := by
  cases h <;> simp <;> omega
structure Loop (K : PySem.W.Frag) (a : Adr) (H : Hp) (R dxR d A : Addr) (W : DV) (all : List Int) : Prop where
  ex : ∃ (v : V) (o : GO) (st : Kg54.State) (cs : List (List (List Int))) (done : List Int), H R = some (.ins a.C_Referee dxR (rF v)) ∧ GOp a H v o ∧ RelS st o ∧ ¬ inG o A ∧ Cq.RdAll (W.ns.drop W.i) cs ∧ (∀ c ∈ cs, Kg54Neutral.asked1 c = true) ∧ H A = some (.lst (done.map V.int)) ∧ done ++ Cq.tell st cs = all ∧ done.length + 101 * cs.length ≤ 30300
  rd : DH K a H d W
  sq : SqF K H W.c (W.ns.map V.int)
def sp_answers (K : PySem.W.Frag) : Sp := fun vs H Q _ => ∃ (c : Addr) (ns : List Int), vs = [.ref c] ∧ SqF K H c (ns.map V.int) ∧ ns.length ≤ 30000 ∧ PyKg54.answers_asked ns = true ∧ ∀ (H' : Hp) (p : Addr), H' p = some (.lst ((PyKg54.answers ns).map V.int)) → Q (.ref p) H'
theorem big_enough {n : Nat} (h : n ≤ 40000) : n < sizeLine := Nat.lt_of_le_of_lt h (by decide)
theorem ok_answers (T : Txt K mg a) : FnOk P w K mg base CX0 9 a.answers a.answers_d ["calls"] (sp_answers K) := by
  refine T.F_answers.ok sc_answers (fun vs H Q E h => ?_) (fun cdv A outer s H vs Q E hr h => ?_)
  · (first | (obtain ⟨rfl, _⟩ := h; rfl) | (obtain ⟨_, rfl, _⟩ := h; rfl) | (obtain ⟨_, _, rfl, _⟩ := h; rfl) | (obtain ⟨_, _, _, rfl, _⟩ := h; rfl) | (obtain ⟨_, _, _, _, rfl, _⟩ := h; rfl) | (obtain ⟨_, _, _, _, _, rfl, _⟩ := h; rfl) | (obtain ⟨_, _, _, _, _, _, rfl, _⟩ := h; rfl) | (obtain ⟨_, _, _, _, _, _, _, rfl, _⟩ := h; rfl) | (obtain ⟨_, _, _, _, _, _, _, _, rfl, _⟩ := h; rfl) | (obtain ⟨_, _, _, _, _, _, _, _, _, rfl, _⟩ := h; rfl) | (obtain ⟨_, _, _, _, _, _, _, _, _, _, rfl, _⟩ := h; rfl) | (obtain ⟨_, _, _, _, _, _, _, _, _, _, _, rfl, _⟩ := h; rfl) | (obtain ⟨_, _, _, _, _, _, _, _, _, _, _, _, rfl, _⟩ := h; rfl) | (obtain ⟨_, _, _, _, _, _, _, _, _, _, _, _, _, rfl, _⟩ := h; rfl) | (obtain ⟨_, _, _, _, _, _, _, _, _, _, _, _, _, _, rfl, _⟩ := h; rfl) | (obtain ⟨_, _, _, _, _, _, _, _, _, _, _, _, _, _, _, rfl, _⟩ := h; rfl))
  · obtain ⟨c, ns, rfl, hF, hlen, hask, q⟩ := h
    obtain ⟨cs, hrd, hcs, has, hans⟩ := Cq.asked_rd hask
    refine ⟨_, (pss_cons (ps_set (i := 1) sc_answers.nd rfl (by first | exact Or.inl rfl | exact Or.inr rfl) (pe_make0 T.k_Referee (ok_Referee_init T) (hr.mono (by decide)) (by rfl) T.g_Referee T.b_Referee_init .nil pass0))
      (pss_cons (ps_set (i := 2) sc_answers.nd rfl (by first | exact Or.inl rfl | exact Or.inr rfl) (pe_make T.k_Reader (ok_Reader_init T) (hr.mono (by decide)) (by rfl) T.g_Reader T.b_Reader_init .nil pass0 (pa_cons (pv 0) pa_nil)))
      (pss_cons (ps_set (i := 3) sc_answers.nd rfl (by first | exact Or.inl rfl | exact Or.inr rfl) (pe_lst pa_nil))
      (pss_cons (ps_while PassesOwn.never (pt_not (pt_val (pe_meth0 (pv 2) T.c_Reader T.m_Reader_at_end (ok_Reader_at_end T) (hr.mono (by decide)) T.b_Reader_at_end .nil pass0))) (pss_cons (ps_set (i := 4) sc_answers.nd rfl (by first | exact Or.inl rfl | exact Or.inr rfl) (pe_call (ok_answer_call T) (hr.mono (by decide)) (by rfl) T.g_answer_call T.F_answer_call.kp T.b_answer_call .nil pass0 (pa_cons (pv 1) (pa_cons (pv 2) pa_nil))))
      (pss_cons (ps_expr (pe_bm PySem.F.plainAttrs_list PySem.F.slot_list_append PySem.F.type_list_append mt_append (pv 3) (pa_cons (pe_callB call_len_seq (by rfl) T.n_len PySem.boot_len (pa_cons (pv 4) pa_nil)) pa_nil)))
      (pss_one (ps_expr (pe_bm PySem.F.plainAttrs_list PySem.F.slot_list_extend PySem.F.type_list_extend mt_extend (pv 3) (pa_cons (pv 4) pa_nil)))))))
      (pss_one (ps_ret (pv 3))))))), ?_⟩
    -- referee = Referee()
    show tAsg _ _ _ _ _
    refine make_of ea_nil fun R dxR hR hdR nR => ?_
    refine ⟨R, dxR, rfl, upd_same, rfl, ?_⟩
    rw [upd_upd]
    have hR' : (upd H dxR (.own R)) R = none := by rw [L2.upd_ne (fun e => nR e.symm)]; exact hR
    have s1 : Same H (upd (upd H dxR (.own R)) R (.ins a.C_Referee dxR (rF .non))) := (Same.upd hdR).trans (Same.upd hR')
    have r1 : (upd (upd H dxR (.own R)) R (.ins a.C_Referee dxR (rF .non))) R = some (.ins a.C_Referee dxR (rF .non)) := upd_same
    generalize upd (upd H dxR (.own R)) R (.ins a.C_Referee dxR (rF .non)) = H1 at s1 r1 ⊢
    -- reader = Reader(calls)
    dsimp only [gName]
    show tAsg _ _ _ _ _
    refine make_of (ea_cons (ev_var rfl) ea_nil) fun d dx hd hdd nd => ?_
    refine ⟨d, dx, c, rfl, upd_same, rfl, ?_⟩
    rw [upd_upd]
    have hd' : (upd H1 dx (.own d)) d = none := by rw [L2.upd_ne (fun e => nd e.symm)]; exact hd
    have s2 : Same H1 (upd (upd H1 dx (.own d)) d (.ins a.C_Reader dx (dF c 0))) := (Same.upd hdd).trans (Same.upd hd')
    have d2 : (upd (upd H1 dx (.own d)) d (.ins a.C_Reader dx (dF c 0))) d = some (.ins a.C_Reader dx (dF c 0)) := upd_same
    generalize upd (upd H1 dx (.own d)) d (.ins a.C_Reader dx (dF c 0)) = H2 at s2 d2 ⊢
    -- answered = []
    dsimp only [gName]
    refine sq_setl ea_nil (by show 0 ≤ 1000; decide) fun Aa hA => ?_
    have s3 : Same H2 (upd H2 Aa (.lst [])) := Same.upd hA
    have a3 : (upd H2 Aa (.lst [])) Aa = some (.lst []) := upd_same
    generalize upd H2 Aa (.lst []) = H3 at s3 a3 ⊢
    have s13 : Same H H3 := (s1.trans s2).trans s3
    have hF3 : SqF K H3 c (ns.map V.int) := hF.keep fun ob e => s13 _ _ e
    have L0 : Loop K a H3 R dxR d Aa ⟨dx, c, 0, ns⟩ (PyKg54.answers ns) := ⟨⟨.non, none, none, cs, [], s3 _ _ (s2 _ _ r1), rfl, True.intro, fun z => z, hrd, has, a3, hans.symm, by show 0 + 101 * cs.length ≤ 30300; omega⟩, ⟨s3 _ _ d2, hF3.sq, Nat.zero_le _⟩, hF3⟩
    refine while_by (fun σ H' => ∃ (va : Option V) (i : Nat), σ = [some (.ref c), some (.ref R), some (.ref d), some (.ref Aa), va] ∧ Loop K a H' R dxR d Aa ⟨dx, c, i, ns⟩ (PyKg54.answers ns)) (fun σ H' => ns.length - placeAt H' d) ⟨none, 0, rfl, L0⟩ ?_ ?_
    · rintro σ H' ⟨va, i, rfl, L⟩
      obtain ⟨⟨v, o, st, cs, done, hR, hO, RS, nA, hrd, has, hA, hall, hz⟩, hD, hF⟩ := L
      refine (et_not (et_b (ev_meth (ev_var rfl) hD.ob rfl ea_nil (fun Q q => ⟨d, _, rfl, hD, q⟩)))) _ ?_
      rcases rdall_inv hrd with ⟨e1, e2⟩ | ⟨p, L, c1, t, cs', e1, rfl, hc, ht⟩
      · -- the end
        subst e2
        have hi : decide ((i : Int) = (ns.length : Int)) = true := by
          have h1 : ns.length ≤ i := List.drop_eq_nil_iff.mp e1
          have h2 : i ≤ ns.length := hD.le
          exact decide_eq_true (by omega)
        dsimp only
        rw [hi]
        refine iteF ((ev_var rfl) _ (q H' Aa ?_))
        have e3 : Cq.tell st [] = [] := rfl
        rw [e3, List.append_nil] at hall
        rw [← hall]
        exact hA
      · have hlt : i < ns.length := by
          have z := congrArg List.length e1
          rw [List.length_drop, List.length_cons] at z
          dsimp only at z
          omega
        have hi : decide ((i : Int) = (ns.length : Int)) = false := decide_eq_false (by omega)
        dsimp only
        rw [hi]
        refine iteT ?_
        refine call_of (ea_cons (ev_var rfl) (ea_cons (ev_var rfl) ea_nil)) ⟨R, d, dxR, v, st, o, _, p, L, c1, t, rfl, hR, hO, RS, hD, hF, e1, hc, has _ List.mem_cons_self, fun H4 l An => ?_⟩
        obtain ⟨⟨v', o', hR4, hO4, RS4, new⟩, ⟨i', hD4, hre⟩, out, fl, few, kp⟩ := An
        have hA4 : H4 Aa = some (.lst (done.map V.int)) := kp _ _ hA nA (ne_of hA hR (by intro z; cases z)) (ne_of hA hD.ob (by intro z; cases z))
        have nAl : l ≠ Aa := fun z => by rw [z, hA] at fl; cases fl
        have nA4 : ¬ inG o' Aa := fun z => by
          rcases new _ z with z | z
          · exact nA z
          · rw [hA] at z; cases z
        have hF4 : SqF K H4 c (ns.map V.int) := hF.keep fun ob e => kp _ _ e (inG_no hO RS e (fun z => z)) (ne_of e hR (by intro z; cases z)) (ne_of e hD.ob (by intro z; cases z))
        rw [List.length_cons] at hz
        generalize hst : Kg54Neutral.step st c1 = res at RS4 out few
        obtain ⟨st', outs⟩ := res
        have few : outs.length ≤ 100 := few
        dsimp only [gName]
        refine sq_app (ev_var rfl) hA4 (ev_cb (v := .int ((outs.map V.int).length : Int)) (ea_cons (ev_var rfl) ea_nil) fun Q q => ⟨l, _, rfl, .inl (SqL.of out), q⟩) (big_enough (by rw [List.length_map]; omega)) ?_
        refine st_ext (ev_var rfl) upd_same (ev_var rfl) (by rw [L2.upd_ne nAl]; exact out) (Nat.le_of_lt (big_enough (by rw [List.length_append, List.length_map, List.length_map]; show done.length + 1 + outs.length ≤ 40000; omega))) ?_
        rw [upd_upd]
        have eX : done.map V.int ++ [V.int ((outs.map V.int).length : Int)] ++ outs.map V.int = (done ++ [(outs.length : Int)] ++ outs).map V.int := by
          rw [List.map_append, List.map_append, List.length_map]; rfl
        have hD5 : DH K a (upd H4 Aa (.lst (done.map V.int ++ [V.int ((outs.map V.int).length : Int)] ++ outs.map V.int))) d ⟨dx, c, i', ns⟩ := ⟨by rw [L2.upd_ne (ne_of hD4.ob hA4 (by intro z; cases z))]; exact hD4.ob, (hF4.keep (H1 := upd H4 Aa (.lst (done.map V.int ++ [V.int ((outs.map V.int).length : Int)] ++ outs.map V.int))) fun ob e => by rw [L2.upd_ne (ne_of e hA4 (by intro z; cases z))]; exact e).sq, hD4.le⟩
        refine ⟨⟨some (.ref l), i', rfl, ⟨⟨v', o', st', cs', done ++ [(outs.length : Int)] ++ outs, ?_, hO4.upd_ne RS4 nA4, RS4, nA4, ?_, fun c2 h2 => has c2 (List.mem_cons_of_mem _ h2), by rw [upd_same, eX], ?_, ?_⟩, hD5, hF4.keep fun ob e => by rw [L2.upd_ne (ne_of e hA4 (by intro z; cases z))]; exact e⟩⟩, ?_⟩
        · rw [L2.upd_ne (ne_of hR4 hA4 (by intro z; cases z))]; exact hR4
        · show Cq.RdAll (ns.drop i') cs'
          have hre : ns.drop i' = t := hre
          rw [hre]; exact ht
        · rw [← hall, Cq.tell_cons, hst, List.append_assoc, List.append_assoc]; rfl
        · rw [List.length_append, List.length_append]
          show done.length + 1 + outs.length + 101 * cs'.length ≤ 30300
          have few : outs.length ≤ 100 := few
          omega
        · show ns.length - placeAt _ d < ns.length - placeAt H' d
          rw [placeAt_of hD5, placeAt_of hD]
          have z1 := congrArg List.length e1
          have z2 : ns.drop i' = t := hre
          have z2 := congrArg List.length z2
          have z3 := rd_len hc
          have z4 : i' ≤ ns.length := hD4.le
          rw [List.length_drop, List.length_cons] at z1
          rw [List.length_drop] at z2
          dsimp only at z1 ⊢
          omega
    · rintro σ H' Q1 Q2 hq ⟨v, hv, p, dx', fs, e, hp, hl, d', W', e', hD, cc, ec, h⟩
      exact ⟨v, hv, p, dx', fs, e, hp, hl, d', W', e', hD, cc, ec, hq _ _ h⟩
end
end Hg
set_option Elab.async false
set_option linter.all false
set_option maxRecDepth 100000
set_option maxHeartbeats 4000000
namespace Hg
open PySem PySem.Spec PyProof.Rows L2
theorem tup_sq {K : PySem.W.Frag} {H : Hp} {p : Addr} {t0 t1 t2 t3 : Tok} (w : K.lookup p = some { cls := .type "tuple", data := .seq #[.int 0 t0, .int 1 t1, .int 2 t2, .int 3 t3] }) : SqT K H p [.int 0, .int 1, .int 2, .int 3] :=
  .inr ⟨_, _, _, w, rfl, rfl, by show 4 ≤ sizeLine; decide, .cons ⟨_, rfl⟩ (.cons ⟨_, rfl⟩ (.cons ⟨_, rfl⟩ (.cons ⟨_, rfl⟩ .nil)))⟩
theorem tab_of {K : PySem.W.Frag} {d f1 f2 f3 f4 f5 f6 f7 f8 f9 : Addr} {t1 t2 t3 t4 t5 t6 t7 t8 t9 : Tok} (w : K.lookup d = some { cls := .type "dict", data := .dict #[{ hash := 1, key := .int 1 t1, val := .ref f1 }, { hash := 2, key := .int 2 t2, val := .ref f2 }, { hash := 3, key := .int 3 t3, val := .ref f3 }, { hash := 4, key := .int 4 t4, val := .ref f4 }, { hash := 5, key := .int 5 t5, val := .ref f5 }, { hash := 6, key := .int 6 t6, val := .ref f6 }, { hash := 7, key := .int 7 t7, val := .ref f7 }, { hash := 8, key := .int 8 t8, val := .ref f8 }, { hash := 9, key := .int 9 t9, val := .ref f9 }] 9 }) :
    Tab K d [(1, f1), (2, f2), (3, f3), (4, f4), (5, f5), (6, f6), (7, f7), (8, f8), (9, f9)] := by
  intro P w' h X
  refine ⟨_, _, _, X _ _ w, ⟨rfl, rfl, rfl⟩, rfl, ?_, ?_, ?_⟩
  · intro e he
    simp only [List.mem_toArray, List.mem_cons, List.not_mem_nil, or_false] at he
    rcases he with rfl | rfl | rfl | rfl | rfl | rfl | rfl | rfl | rfl
    · exact ⟨Sum.inl 1, keyIs_int 1 t1, by show (1 : Int) = hashInt 1; decide⟩
    · exact ⟨Sum.inl 2, keyIs_int 2 t2, by show (2 : Int) = hashInt 2; decide⟩
    · exact ⟨Sum.inl 3, keyIs_int 3 t3, by show (3 : Int) = hashInt 3; decide⟩
    · exact ⟨Sum.inl 4, keyIs_int 4 t4, by show (4 : Int) = hashInt 4; decide⟩
    · exact ⟨Sum.inl 5, keyIs_int 5 t5, by show (5 : Int) = hashInt 5; decide⟩
    · exact ⟨Sum.inl 6, keyIs_int 6 t6, by show (6 : Int) = hashInt 6; decide⟩
    · exact ⟨Sum.inl 7, keyIs_int 7 t7, by show (7 : Int) = hashInt 7; decide⟩
    · exact ⟨Sum.inl 8, keyIs_int 8 t8, by show (8 : Int) = hashInt 8; decide⟩
    · exact ⟨Sum.inl 9, keyIs_int 9 t9, by show (9 : Int) = hashInt 9; decide⟩
  · exact .cons (keyIs_int 1 t1) rfl (.cons (keyIs_int 2 t2) rfl (.cons (keyIs_int 3 t3) rfl (.cons (keyIs_int 4 t4) rfl (.cons (keyIs_int 5 t5) rfl (.cons (keyIs_int 6 t6) rfl (.cons (keyIs_int 7 t7) rfl (.cons (keyIs_int 8 t8) rfl (.cons (keyIs_int 9 t9) rfl .nil))))))))
  · show ([Sum.inl 1, Sum.inl 2, Sum.inl 3, Sum.inl 4, Sum.inl 5, Sum.inl 6, Sum.inl 7, Sum.inl 8, Sum.inl 9] : List Key).Nodup
    decide
theorem all_mk {K : PySem.W.Frag} {h : Heap} {mg : Str → Option Value} {fa : Addr} (X : K.In h) (G : h.Ns mainGlobals mg) (hfa : mg "answers" = some (.ref fa))
    {C_Stroke : Addr}
    {C_Turn : Addr}
    {C_Game : Addr}
    {C_Referee : Addr}
    {C_Reader : Addr}
    {f_Stroke_init : Addr} {od_Stroke_init an_Stroke_init : Option Addr} {sl_Stroke_init : Array (Option Value)} {oc_Stroke_init kV_Stroke_init dc_Stroke_init pm_Stroke_init cd_Stroke_init ct_Stroke_init : Value}
    {f_Turn_init : Addr} {od_Turn_init an_Turn_init : Option Addr} {sl_Turn_init : Array (Option Value)} {oc_Turn_init kV_Turn_init dc_Turn_init pm_Turn_init cd_Turn_init ct_Turn_init : Value}
    {f_Game_init : Addr} {od_Game_init an_Game_init : Option Addr} {sl_Game_init : Array (Option Value)} {oc_Game_init kV_Game_init dc_Game_init pm_Game_init cd_Game_init ct_Game_init : Value}
    {f_Game_is_out : Addr} {od_Game_is_out an_Game_is_out : Option Addr} {sl_Game_is_out : Array (Option Value)} {oc_Game_is_out kV_Game_is_out dc_Game_is_out pm_Game_is_out cd_Game_is_out ct_Game_is_out : Value}
    {f_Game_others_in_play : Addr} {od_Game_others_in_play an_Game_others_in_play : Option Addr} {sl_Game_others_in_play : Array (Option Value)} {oc_Game_others_in_play kV_Game_others_in_play dc_Game_others_in_play pm_Game_others_in_play cd_Game_others_in_play ct_Game_others_in_play : Value}
    {f_Game_side_points : Addr} {od_Game_side_points an_Game_side_points : Option Addr} {sl_Game_side_points : Array (Option Value)} {oc_Game_side_points kV_Game_side_points dc_Game_side_points pm_Game_side_points cd_Game_side_points ct_Game_side_points : Value}
    {f_Game_leader : Addr} {od_Game_leader an_Game_leader : Option Addr} {sl_Game_leader : Array (Option Value)} {oc_Game_leader kV_Game_leader dc_Game_leader pm_Game_leader cd_Game_leader ct_Game_leader : Value}
    {f_Game_state : Addr} {od_Game_state an_Game_state : Option Addr} {sl_Game_state : Array (Option Value)} {oc_Game_state kV_Game_state dc_Game_state pm_Game_state cd_Game_state ct_Game_state : Value}
    {f_side_of : Addr} {od_side_of an_side_of : Option Addr} {sl_side_of : Array (Option Value)} {oc_side_of kV_side_of dc_side_of pm_side_of cd_side_of ct_side_of : Value}
    {f_partner_of : Addr} {od_partner_of an_partner_of : Option Addr} {sl_partner_of : Array (Option Value)} {oc_partner_of kV_partner_of dc_partner_of pm_partner_of cd_partner_of ct_partner_of : Value}
    {f_begin_turn : Addr} {od_begin_turn an_begin_turn : Option Addr} {sl_begin_turn : Array (Option Value)} {oc_begin_turn kV_begin_turn dc_begin_turn pm_begin_turn cd_begin_turn ct_begin_turn : Value}
    {f_hand_over : Addr} {od_hand_over an_hand_over : Option Addr} {sl_hand_over : Array (Option Value)} {oc_hand_over kV_hand_over dc_hand_over pm_hand_over cd_hand_over ct_hand_over : Value}
    {f_pass_turn : Addr} {od_pass_turn an_pass_turn : Option Addr} {sl_pass_turn : Array (Option Value)} {oc_pass_turn kV_pass_turn dc_pass_turn pm_pass_turn cd_pass_turn ct_pass_turn : Value}
    {f_end_turn : Addr} {od_end_turn an_end_turn : Option Addr} {sl_end_turn : Array (Option Value)} {oc_end_turn kV_end_turn dc_end_turn pm_end_turn cd_end_turn ct_end_turn : Value}
    {f_find_wired : Addr} {od_find_wired an_find_wired : Option Addr} {sl_find_wired : Array (Option Value)} {oc_find_wired kV_find_wired dc_find_wired pm_find_wired cd_find_wired ct_find_wired : Value}
    {f_call_time : Addr} {od_call_time an_call_time : Option Addr} {sl_call_time : Array (Option Value)} {oc_call_time kV_call_time dc_call_time pm_call_time cd_call_time ct_call_time : Value}
    {f_owed_for : Addr} {od_owed_for an_owed_for : Option Addr} {sl_owed_for : Array (Option Value)} {oc_owed_for kV_owed_for dc_owed_for pm_owed_for cd_owed_for ct_owed_for : Value}
    {f_price_of : Addr} {od_price_of an_price_of : Option Addr} {sl_price_of : Array (Option Value)} {oc_price_of kV_price_of dc_price_of pm_price_of cd_price_of ct_price_of : Value}
    {f_take_turn_more : Addr} {od_take_turn_more an_take_turn_more : Option Addr} {sl_take_turn_more : Array (Option Value)} {oc_take_turn_more kV_take_turn_more dc_take_turn_more pm_take_turn_more cd_take_turn_more ct_take_turn_more : Value}
    {f_play_stroke : Addr} {od_play_stroke an_play_stroke : Option Addr} {sl_play_stroke : Array (Option Value)} {oc_play_stroke kV_play_stroke dc_play_stroke pm_play_stroke cd_play_stroke ct_play_stroke : Value}
    {f_hoop_counts : Addr} {od_hoop_counts an_hoop_counts : Option Addr} {sl_hoop_counts : Array (Option Value)} {oc_hoop_counts kV_hoop_counts dc_hoop_counts pm_hoop_counts cd_hoop_counts ct_hoop_counts : Value}
    {f_live_as_it_hits : Addr} {od_live_as_it_hits an_live_as_it_hits : Option Addr} {sl_live_as_it_hits : Array (Option Value)} {oc_live_as_it_hits kV_live_as_it_hits dc_live_as_it_hits pm_live_as_it_hits cd_live_as_it_hits ct_live_as_it_hits : Value}
    {f_count_points : Addr} {od_count_points an_count_points : Option Addr} {sl_count_points : Array (Option Value)} {oc_count_points kV_count_points dc_count_points pm_count_points cd_count_points ct_count_points : Value}
    {f_winner_behind_stroke : Addr} {od_winner_behind_stroke an_winner_behind_stroke : Option Addr} {sl_winner_behind_stroke : Array (Option Value)} {oc_winner_behind_stroke kV_winner_behind_stroke dc_winner_behind_stroke pm_winner_behind_stroke cd_winner_behind_stroke ct_winner_behind_stroke : Value}
    {f_prepare_next_stroke : Addr} {od_prepare_next_stroke an_prepare_next_stroke : Option Addr} {sl_prepare_next_stroke : Array (Option Value)} {oc_prepare_next_stroke kV_prepare_next_stroke dc_prepare_next_stroke pm_prepare_next_stroke cd_prepare_next_stroke ct_prepare_next_stroke : Value}
    {f_loses_turn : Addr} {od_loses_turn an_loses_turn : Option Addr} {sl_loses_turn : Array (Option Value)} {oc_loses_turn kV_loses_turn dc_loses_turn pm_loses_turn cd_loses_turn ct_loses_turn : Value}
    {f_earns_stroke : Addr} {od_earns_stroke an_earns_stroke : Option Addr} {sl_earns_stroke : Array (Option Value)} {oc_earns_stroke kV_earns_stroke dc_earns_stroke pm_earns_stroke cd_earns_stroke ct_earns_stroke : Value}
    {f_Referee_init : Addr} {od_Referee_init an_Referee_init : Option Addr} {sl_Referee_init : Array (Option Value)} {oc_Referee_init kV_Referee_init dc_Referee_init pm_Referee_init cd_Referee_init ct_Referee_init : Value}
    {f_Reader_init : Addr} {od_Reader_init an_Reader_init : Option Addr} {sl_Reader_init : Array (Option Value)} {oc_Reader_init kV_Reader_init dc_Reader_init pm_Reader_init cd_Reader_init ct_Reader_init : Value}
    {f_Reader_at_end : Addr} {od_Reader_at_end an_Reader_at_end : Option Addr} {sl_Reader_at_end : Array (Option Value)} {oc_Reader_at_end kV_Reader_at_end dc_Reader_at_end pm_Reader_at_end cd_Reader_at_end ct_Reader_at_end : Value}
    {f_Reader_number : Addr} {od_Reader_number an_Reader_number : Option Addr} {sl_Reader_number : Array (Option Value)} {oc_Reader_number kV_Reader_number dc_Reader_number pm_Reader_number cd_Reader_number ct_Reader_number : Value}
    {f_Reader_row : Addr} {od_Reader_row an_Reader_row : Option Addr} {sl_Reader_row : Array (Option Value)} {oc_Reader_row kV_Reader_row dc_Reader_row pm_Reader_row cd_Reader_row ct_Reader_row : Value}
    {f_Reader_stroke : Addr} {od_Reader_stroke an_Reader_stroke : Option Addr} {sl_Reader_stroke : Array (Option Value)} {oc_Reader_stroke kV_Reader_stroke dc_Reader_stroke pm_Reader_stroke cd_Reader_stroke ct_Reader_stroke : Value}
    {f_no_game_goes_on : Addr} {od_no_game_goes_on an_no_game_goes_on : Option Addr} {sl_no_game_goes_on : Array (Option Value)} {oc_no_game_goes_on kV_no_game_goes_on dc_no_game_goes_on pm_no_game_goes_on cd_no_game_goes_on ct_no_game_goes_on : Value}
    {f_refusal_of_begin : Addr} {od_refusal_of_begin an_refusal_of_begin : Option Addr} {sl_refusal_of_begin : Array (Option Value)} {oc_refusal_of_begin kV_refusal_of_begin dc_refusal_of_begin pm_refusal_of_begin cd_refusal_of_begin ct_refusal_of_begin : Value}
    {f_refusal_of_turn : Addr} {od_refusal_of_turn an_refusal_of_turn : Option Addr} {sl_refusal_of_turn : Array (Option Value)} {oc_refusal_of_turn kV_refusal_of_turn dc_refusal_of_turn pm_refusal_of_turn cd_refusal_of_turn ct_refusal_of_turn : Value}
    {f_refusal_of_stroke : Addr} {od_refusal_of_stroke an_refusal_of_stroke : Option Addr} {sl_refusal_of_stroke : Array (Option Value)} {oc_refusal_of_stroke kV_refusal_of_stroke dc_refusal_of_stroke pm_refusal_of_stroke cd_refusal_of_stroke ct_refusal_of_stroke : Value}
    {f_is_in_range : Addr} {od_is_in_range an_is_in_range : Option Addr} {sl_is_in_range : Array (Option Value)} {oc_is_in_range kV_is_in_range dc_is_in_range pm_is_in_range cd_is_in_range ct_is_in_range : Value}
    {f_can_have_been : Addr} {od_can_have_been an_can_have_been : Option Addr} {sl_can_have_been : Array (Option Value)} {oc_can_have_been kV_can_have_been dc_can_have_been pm_can_have_been cd_can_have_been ct_can_have_been : Value}
    {f_can_be_told : Addr} {od_can_be_told an_can_be_told : Option Addr} {sl_can_be_told : Array (Option Value)} {oc_can_be_told kV_can_be_told dc_can_be_told pm_can_be_told cd_can_be_told ct_can_be_told : Value}
    {f_refusal_between_turns : Addr} {od_refusal_between_turns an_refusal_between_turns : Option Addr} {sl_refusal_between_turns : Array (Option Value)} {oc_refusal_between_turns kV_refusal_between_turns dc_refusal_between_turns pm_refusal_between_turns cd_refusal_between_turns ct_refusal_between_turns : Value}
    {f_refusal_of_time : Addr} {od_refusal_of_time an_refusal_of_time : Option Addr} {sl_refusal_of_time : Array (Option Value)} {oc_refusal_of_time kV_refusal_of_time dc_refusal_of_time pm_refusal_of_time cd_refusal_of_time ct_refusal_of_time : Value}
    {f_refusal_of_more : Addr} {od_refusal_of_more an_refusal_of_more : Option Addr} {sl_refusal_of_more : Array (Option Value)} {oc_refusal_of_more kV_refusal_of_more dc_refusal_of_more pm_refusal_of_more cd_refusal_of_more ct_refusal_of_more : Value}
    {f_answer_begin : Addr} {od_answer_begin an_answer_begin : Option Addr} {sl_answer_begin : Array (Option Value)} {oc_answer_begin kV_answer_begin dc_answer_begin pm_answer_begin cd_answer_begin ct_answer_begin : Value}
    {f_answer_turn : Addr} {od_answer_turn an_answer_turn : Option Addr} {sl_answer_turn : Array (Option Value)} {oc_answer_turn kV_answer_turn dc_answer_turn pm_answer_turn cd_answer_turn ct_answer_turn : Value}
    {f_answer_stroke : Addr} {od_answer_stroke an_answer_stroke : Option Addr} {sl_answer_stroke : Array (Option Value)} {oc_answer_stroke kV_answer_stroke dc_answer_stroke pm_answer_stroke cd_answer_stroke ct_answer_stroke : Value}
    {f_answer_pass : Addr} {od_answer_pass an_answer_pass : Option Addr} {sl_answer_pass : Array (Option Value)} {oc_answer_pass kV_answer_pass dc_answer_pass pm_answer_pass cd_answer_pass ct_answer_pass : Value}
    {f_answer_more : Addr} {od_answer_more an_answer_more : Option Addr} {sl_answer_more : Array (Option Value)} {oc_answer_more kV_answer_more dc_answer_more pm_answer_more cd_answer_more ct_answer_more : Value}
    {f_answer_wired : Addr} {od_answer_wired an_answer_wired : Option Addr} {sl_answer_wired : Array (Option Value)} {oc_answer_wired kV_answer_wired dc_answer_wired pm_answer_wired cd_answer_wired ct_answer_wired : Value}
    {f_answer_time : Addr} {od_answer_time an_answer_time : Option Addr} {sl_answer_time : Array (Option Value)} {oc_answer_time kV_answer_time dc_answer_time pm_answer_time cd_answer_time ct_answer_time : Value}
    {f_answer_now : Addr} {od_answer_now an_answer_now : Option Addr} {sl_answer_now : Array (Option Value)} {oc_answer_now kV_answer_now dc_answer_now pm_answer_now cd_answer_now ct_answer_now : Value}
    {f_told_of_turn : Addr} {od_told_of_turn an_told_of_turn : Option Addr} {sl_told_of_turn : Array (Option Value)} {oc_told_of_turn kV_told_of_turn dc_told_of_turn pm_told_of_turn cd_told_of_turn ct_told_of_turn : Value}
    {f_answer_balls : Addr} {od_answer_balls an_answer_balls : Option Addr} {sl_answer_balls : Array (Option Value)} {oc_answer_balls kV_answer_balls dc_answer_balls pm_answer_balls cd_answer_balls ct_answer_balls : Value}
    {f_answer_call : Addr} {od_answer_call an_answer_call : Option Addr} {sl_answer_call : Array (Option Value)} {oc_answer_call kV_answer_call dc_answer_call pm_answer_call cd_answer_call ct_answer_call : Value}
    {f_answers : Addr} {od_answers an_answers : Option Addr} {sl_answers : Array (Option Value)} {oc_answers kV_answers dc_answers pm_answers cd_answers ct_answers : Value}
    {V_BALLS : Addr} {tb0 tb1 tb2 tb3 : Tok}
    {t_NO_BALL : Tok}
    {t_NO_SIDE : Tok}
    {t_ALL_HOOPS : Tok}
    {t_OUT : Tok}
    {t_FIRST_LIFT : Tok}
    {t_SECOND_LIFT : Tok}
    {t_LIFT : Tok}
    {t_LIFT_TO_A_BALL : Tok}
    {t_BY_ITSELF : Tok}
    {t_BALL_AT_SIDE : Tok}
    {t_TURN_OVER : Tok}
    {t_GAME_OVER : Tok}
    {t_TIME_NOT_CALLED : Tok}
    {t_TIME_CALLED : Tok}
    {t_TIME_LAST_TURN : Tok}
    {t_TIME_TILL_ONE_HAS_MORE : Tok}
    {t_MOST_HALF_TURNS : Tok}
    {t_BALLS_TOLD : Tok}
    {V_CALLS : Addr} {td1 td2 td3 td4 td5 td6 td7 td8 td9 : Tok}
    (aC_Stroke : PySem.W.nsIn K mainGlobals "Stroke" = some (some (.ref C_Stroke)))
    (aC_Turn : PySem.W.nsIn K mainGlobals "Turn" = some (some (.ref C_Turn)))
    (aC_Game : PySem.W.nsIn K mainGlobals "Game" = some (some (.ref C_Game)))
    (aC_Referee : PySem.W.nsIn K mainGlobals "Referee" = some (some (.ref C_Referee)))
    (aC_Reader : PySem.W.nsIn K mainGlobals "Reader" = some (some (.ref C_Reader)))
    (a_Stroke_init : PySem.W.findIn K (.ref C_Stroke) "__init__" = some (some (.ref f_Stroke_init)))
    (i_Stroke_init : PySem.W.isFn K (.ref f_Stroke_init) = true)
    (l_Stroke_init : K.lookup f_Stroke_init = some ⟨oc_Stroke_init, od_Stroke_init, .func (PySem.W.fnOf "__init__" "Stroke.__init__" (defArgs st_Stroke_init) (defBody st_Stroke_init) (defScope st_Stroke_init) .none kV_Stroke_init dc_Stroke_init pm_Stroke_init an_Stroke_init cd_Stroke_init ct_Stroke_init), sl_Stroke_init⟩)
    (c_Stroke_init : PySem.W.codeIn K cd_Stroke_init "Stroke.__init__" = true)
    (k_Stroke_init : PySem.W.keepIn K (.ref f_Stroke_init) = true)
    (a_Turn_init : PySem.W.findIn K (.ref C_Turn) "__init__" = some (some (.ref f_Turn_init)))
    (i_Turn_init : PySem.W.isFn K (.ref f_Turn_init) = true)
    (l_Turn_init : K.lookup f_Turn_init = some ⟨oc_Turn_init, od_Turn_init, .func (PySem.W.fnOf "__init__" "Turn.__init__" (defArgs st_Turn_init) (defBody st_Turn_init) (defScope st_Turn_init) .none kV_Turn_init dc_Turn_init pm_Turn_init an_Turn_init cd_Turn_init ct_Turn_init), sl_Turn_init⟩)
    (c_Turn_init : PySem.W.codeIn K cd_Turn_init "Turn.__init__" = true)
    (k_Turn_init : PySem.W.keepIn K (.ref f_Turn_init) = true)
    (a_Game_init : PySem.W.findIn K (.ref C_Game) "__init__" = some (some (.ref f_Game_init)))
    (i_Game_init : PySem.W.isFn K (.ref f_Game_init) = true)
    (l_Game_init : K.lookup f_Game_init = some ⟨oc_Game_init, od_Game_init, .func (PySem.W.fnOf "__init__" "Game.__init__" (defArgs st_Game_init) (defBody st_Game_init) (defScope st_Game_init) .none kV_Game_init dc_Game_init pm_Game_init an_Game_init cd_Game_init ct_Game_init), sl_Game_init⟩)
    (c_Game_init : PySem.W.codeIn K cd_Game_init "Game.__init__" = true)
    (k_Game_init : PySem.W.keepIn K (.ref f_Game_init) = true)
    (a_Game_is_out : PySem.W.findIn K (.ref C_Game) "is_out" = some (some (.ref f_Game_is_out)))
    (i_Game_is_out : PySem.W.isFn K (.ref f_Game_is_out) = true)
    (l_Game_is_out : K.lookup f_Game_is_out = some ⟨oc_Game_is_out, od_Game_is_out, .func (PySem.W.fnOf "is_out" "Game.is_out" (defArgs st_Game_is_out) (defBody st_Game_is_out) (defScope st_Game_is_out) .none kV_Game_is_out dc_Game_is_out pm_Game_is_out an_Game_is_out cd_Game_is_out ct_Game_is_out), sl_Game_is_out⟩)
    (c_Game_is_out : PySem.W.codeIn K cd_Game_is_out "Game.is_out" = true)
    (k_Game_is_out : PySem.W.keepIn K (.ref f_Game_is_out) = true)
    (a_Game_others_in_play : PySem.W.findIn K (.ref C_Game) "others_in_play" = some (some (.ref f_Game_others_in_play)))
    (i_Game_others_in_play : PySem.W.isFn K (.ref f_Game_others_in_play) = true)
    (l_Game_others_in_play : K.lookup f_Game_others_in_play = some ⟨oc_Game_others_in_play, od_Game_others_in_play, .func (PySem.W.fnOf "others_in_play" "Game.others_in_play" (defArgs st_Game_others_in_play) (defBody st_Game_others_in_play) (defScope st_Game_others_in_play) .none kV_Game_others_in_play dc_Game_others_in_play pm_Game_others_in_play an_Game_others_in_play cd_Game_others_in_play ct_Game_others_in_play), sl_Game_others_in_play⟩)
    (c_Game_others_in_play : PySem.W.codeIn K cd_Game_others_in_play "Game.others_in_play" = true)
    (k_Game_others_in_play : PySem.W.keepIn K (.ref f_Game_others_in_play) = true)
    (a_Game_side_points : PySem.W.findIn K (.ref C_Game) "side_points" = some (some (.ref f_Game_side_points)))
    (i_Game_side_points : PySem.W.isFn K (.ref f_Game_side_points) = true)
    (l_Game_side_points : K.lookup f_Game_side_points = some ⟨oc_Game_side_points, od_Game_side_points, .func (PySem.W.fnOf "side_points" "Game.side_points" (defArgs st_Game_side_points) (defBody st_Game_side_points) (defScope st_Game_side_points) .none kV_Game_side_points dc_Game_side_points pm_Game_side_points an_Game_side_points cd_Game_side_points ct_Game_side_points), sl_Game_side_points⟩)
    (c_Game_side_points : PySem.W.codeIn K cd_Game_side_points "Game.side_points" = true)
    (k_Game_side_points : PySem.W.keepIn K (.ref f_Game_side_points) = true)
    (a_Game_leader : PySem.W.findIn K (.ref C_Game) "leader" = some (some (.ref f_Game_leader)))
    (i_Game_leader : PySem.W.isFn K (.ref f_Game_leader) = true)
    (l_Game_leader : K.lookup f_Game_leader = some ⟨oc_Game_leader, od_Game_leader, .func (PySem.W.fnOf "leader" "Game.leader" (defArgs st_Game_leader) (defBody st_Game_leader) (defScope st_Game_leader) .none kV_Game_leader dc_Game_leader pm_Game_leader an_Game_leader cd_Game_leader ct_Game_leader), sl_Game_leader⟩)
    (c_Game_leader : PySem.W.codeIn K cd_Game_leader "Game.leader" = true)
    (k_Game_leader : PySem.W.keepIn K (.ref f_Game_leader) = true)
    (a_Game_state : PySem.W.findIn K (.ref C_Game) "state" = some (some (.ref f_Game_state)))
    (i_Game_state : PySem.W.isFn K (.ref f_Game_state) = true)
    (l_Game_state : K.lookup f_Game_state = some ⟨oc_Game_state, od_Game_state, .func (PySem.W.fnOf "state" "Game.state" (defArgs st_Game_state) (defBody st_Game_state) (defScope st_Game_state) .none kV_Game_state dc_Game_state pm_Game_state an_Game_state cd_Game_state ct_Game_state), sl_Game_state⟩)
    (c_Game_state : PySem.W.codeIn K cd_Game_state "Game.state" = true)
    (k_Game_state : PySem.W.keepIn K (.ref f_Game_state) = true)
    (a_side_of : PySem.W.nsIn K mainGlobals "side_of" = some (some (.ref f_side_of)))
    (l_side_of : K.lookup f_side_of = some ⟨oc_side_of, od_side_of, .func (PySem.W.fnOf "side_of" "side_of" (defArgs st_side_of) (defBody st_side_of) (defScope st_side_of) .none kV_side_of dc_side_of pm_side_of an_side_of cd_side_of ct_side_of), sl_side_of⟩)
    (c_side_of : PySem.W.codeIn K cd_side_of "side_of" = true)
    (k_side_of : PySem.W.keepIn K (.ref f_side_of) = true)
    (a_partner_of : PySem.W.nsIn K mainGlobals "partner_of" = some (some (.ref f_partner_of)))
    (l_partner_of : K.lookup f_partner_of = some ⟨oc_partner_of, od_partner_of, .func (PySem.W.fnOf "partner_of" "partner_of" (defArgs st_partner_of) (defBody st_partner_of) (defScope st_partner_of) .none kV_partner_of dc_partner_of pm_partner_of an_partner_of cd_partner_of ct_partner_of), sl_partner_of⟩)
    (c_partner_of : PySem.W.codeIn K cd_partner_of "partner_of" = true)
    (k_partner_of : PySem.W.keepIn K (.ref f_partner_of) = true)
    (a_begin_turn : PySem.W.nsIn K mainGlobals "begin_turn" = some (some (.ref f_begin_turn)))
    (l_begin_turn : K.lookup f_begin_turn = some ⟨oc_begin_turn, od_begin_turn, .func (PySem.W.fnOf "begin_turn" "begin_turn" (defArgs st_begin_turn) (defBody st_begin_turn) (defScope st_begin_turn) .none kV_begin_turn dc_begin_turn pm_begin_turn an_begin_turn cd_begin_turn ct_begin_turn), sl_begin_turn⟩)
    (c_begin_turn : PySem.W.codeIn K cd_begin_turn "begin_turn" = true)
    (k_begin_turn : PySem.W.keepIn K (.ref f_begin_turn) = true)
    (a_hand_over : PySem.W.nsIn K mainGlobals "hand_over" = some (some (.ref f_hand_over)))
    (l_hand_over : K.lookup f_hand_over = some ⟨oc_hand_over, od_hand_over, .func (PySem.W.fnOf "hand_over" "hand_over" (defArgs st_hand_over) (defBody st_hand_over) (defScope st_hand_over) .none kV_hand_over dc_hand_over pm_hand_over an_hand_over cd_hand_over ct_hand_over), sl_hand_over⟩)
    (c_hand_over : PySem.W.codeIn K cd_hand_over "hand_over" = true)
    (k_hand_over : PySem.W.keepIn K (.ref f_hand_over) = true)
    (a_pass_turn : PySem.W.nsIn K mainGlobals "pass_turn" = some (some (.ref f_pass_turn)))
    (l_pass_turn : K.lookup f_pass_turn = some ⟨oc_pass_turn, od_pass_turn, .func (PySem.W.fnOf "pass_turn" "pass_turn" (defArgs st_pass_turn) (defBody st_pass_turn) (defScope st_pass_turn) .none kV_pass_turn dc_pass_turn pm_pass_turn an_pass_turn cd_pass_turn ct_pass_turn), sl_pass_turn⟩)
    (c_pass_turn : PySem.W.codeIn K cd_pass_turn "pass_turn" = true)
    (k_pass_turn : PySem.W.keepIn K (.ref f_pass_turn) = true)
    (a_end_turn : PySem.W.nsIn K mainGlobals "end_turn" = some (some (.ref f_end_turn)))
    (l_end_turn : K.lookup f_end_turn = some ⟨oc_end_turn, od_end_turn, .func (PySem.W.fnOf "end_turn" "end_turn" (defArgs st_end_turn) (defBody st_end_turn) (defScope st_end_turn) .none kV_end_turn dc_end_turn pm_end_turn an_end_turn cd_end_turn ct_end_turn), sl_end_turn⟩)
    (c_end_turn : PySem.W.codeIn K cd_end_turn "end_turn" = true)
    (k_end_turn : PySem.W.keepIn K (.ref f_end_turn) = true)
    (a_find_wired : PySem.W.nsIn K mainGlobals "find_wired" = some (some (.ref f_find_wired)))
    (l_find_wired : K.lookup f_find_wired = some ⟨oc_find_wired, od_find_wired, .func (PySem.W.fnOf "find_wired" "find_wired" (defArgs st_find_wired) (defBody st_find_wired) (defScope st_find_wired) .none kV_find_wired dc_find_wired pm_find_wired an_find_wired cd_find_wired ct_find_wired), sl_find_wired⟩)
    (c_find_wired : PySem.W.codeIn K cd_find_wired "find_wired" = true)
    (k_find_wired : PySem.W.keepIn K (.ref f_find_wired) = true)
    (a_call_time : PySem.W.nsIn K mainGlobals "call_time" = some (some (.ref f_call_time)))
    (l_call_time : K.lookup f_call_time = some ⟨oc_call_time, od_call_time, .func (PySem.W.fnOf "call_time" "call_time" (defArgs st_call_time) (defBody st_call_time) (defScope st_call_time) .none kV_call_time dc_call_time pm_call_time an_call_time cd_call_time ct_call_time), sl_call_time⟩)
    (c_call_time : PySem.W.codeIn K cd_call_time "call_time" = true)
    (k_call_time : PySem.W.keepIn K (.ref f_call_time) = true)
    (a_owed_for : PySem.W.nsIn K mainGlobals "owed_for" = some (some (.ref f_owed_for)))
    (l_owed_for : K.lookup f_owed_for = some ⟨oc_owed_for, od_owed_for, .func (PySem.W.fnOf "owed_for" "owed_for" (defArgs st_owed_for) (defBody st_owed_for) (defScope st_owed_for) .none kV_owed_for dc_owed_for pm_owed_for an_owed_for cd_owed_for ct_owed_for), sl_owed_for⟩)
    (c_owed_for : PySem.W.codeIn K cd_owed_for "owed_for" = true)
    (k_owed_for : PySem.W.keepIn K (.ref f_owed_for) = true)
    (a_price_of : PySem.W.nsIn K mainGlobals "price_of" = some (some (.ref f_price_of)))
    (l_price_of : K.lookup f_price_of = some ⟨oc_price_of, od_price_of, .func (PySem.W.fnOf "price_of" "price_of" (defArgs st_price_of) (defBody st_price_of) (defScope st_price_of) .none kV_price_of dc_price_of pm_price_of an_price_of cd_price_of ct_price_of), sl_price_of⟩)
    (c_price_of : PySem.W.codeIn K cd_price_of "price_of" = true)
    (k_price_of : PySem.W.keepIn K (.ref f_price_of) = true)
    (a_take_turn_more : PySem.W.nsIn K mainGlobals "take_turn_more" = some (some (.ref f_take_turn_more)))
    (l_take_turn_more : K.lookup f_take_turn_more = some ⟨oc_take_turn_more, od_take_turn_more, .func (PySem.W.fnOf "take_turn_more" "take_turn_more" (defArgs st_take_turn_more) (defBody st_take_turn_more) (defScope st_take_turn_more) .none kV_take_turn_more dc_take_turn_more pm_take_turn_more an_take_turn_more cd_take_turn_more ct_take_turn_more), sl_take_turn_more⟩)
    (c_take_turn_more : PySem.W.codeIn K cd_take_turn_more "take_turn_more" = true)
    (k_take_turn_more : PySem.W.keepIn K (.ref f_take_turn_more) = true)
    (a_play_stroke : PySem.W.nsIn K mainGlobals "play_stroke" = some (some (.ref f_play_stroke)))
    (l_play_stroke : K.lookup f_play_stroke = some ⟨oc_play_stroke, od_play_stroke, .func (PySem.W.fnOf "play_stroke" "play_stroke" (defArgs st_play_stroke) (defBody st_play_stroke) (defScope st_play_stroke) .none kV_play_stroke dc_play_stroke pm_play_stroke an_play_stroke cd_play_stroke ct_play_stroke), sl_play_stroke⟩)
    (c_play_stroke : PySem.W.codeIn K cd_play_stroke "play_stroke" = true)
    (k_play_stroke : PySem.W.keepIn K (.ref f_play_stroke) = true)
    (a_hoop_counts : PySem.W.nsIn K mainGlobals "hoop_counts" = some (some (.ref f_hoop_counts)))
    (l_hoop_counts : K.lookup f_hoop_counts = some ⟨oc_hoop_counts, od_hoop_counts, .func (PySem.W.fnOf "hoop_counts" "hoop_counts" (defArgs st_hoop_counts) (defBody st_hoop_counts) (defScope st_hoop_counts) .none kV_hoop_counts dc_hoop_counts pm_hoop_counts an_hoop_counts cd_hoop_counts ct_hoop_counts), sl_hoop_counts⟩)
    (c_hoop_counts : PySem.W.codeIn K cd_hoop_counts "hoop_counts" = true)
    (k_hoop_counts : PySem.W.keepIn K (.ref f_hoop_counts) = true)
    (a_live_as_it_hits : PySem.W.nsIn K mainGlobals "live_as_it_hits" = some (some (.ref f_live_as_it_hits)))
    (l_live_as_it_hits : K.lookup f_live_as_it_hits = some ⟨oc_live_as_it_hits, od_live_as_it_hits, .func (PySem.W.fnOf "live_as_it_hits" "live_as_it_hits" (defArgs st_live_as_it_hits) (defBody st_live_as_it_hits) (defScope st_live_as_it_hits) .none kV_live_as_it_hits dc_live_as_it_hits pm_live_as_it_hits an_live_as_it_hits cd_live_as_it_hits ct_live_as_it_hits), sl_live_as_it_hits⟩)
    (c_live_as_it_hits : PySem.W.codeIn K cd_live_as_it_hits "live_as_it_hits" = true)
    (k_live_as_it_hits : PySem.W.keepIn K (.ref f_live_as_it_hits) = true)
    (a_count_points : PySem.W.nsIn K mainGlobals "count_points" = some (some (.ref f_count_points)))
    (l_count_points : K.lookup f_count_points = some ⟨oc_count_points, od_count_points, .func (PySem.W.fnOf "count_points" "count_points" (defArgs st_count_points) (defBody st_count_points) (defScope st_count_points) .none kV_count_points dc_count_points pm_count_points an_count_points cd_count_points ct_count_points), sl_count_points⟩)
    (c_count_points : PySem.W.codeIn K cd_count_points "count_points" = true)
    (k_count_points : PySem.W.keepIn K (.ref f_count_points) = true)
    (a_winner_behind_stroke : PySem.W.nsIn K mainGlobals "winner_behind_stroke" = some (some (.ref f_winner_behind_stroke)))
    (l_winner_behind_stroke : K.lookup f_winner_behind_stroke = some ⟨oc_winner_behind_stroke, od_winner_behind_stroke, .func (PySem.W.fnOf "winner_behind_stroke" "winner_behind_stroke" (defArgs st_winner_behind_stroke) (defBody st_winner_behind_stroke) (defScope st_winner_behind_stroke) .none kV_winner_behind_stroke dc_winner_behind_stroke pm_winner_behind_stroke an_winner_behind_stroke cd_winner_behind_stroke ct_winner_behind_stroke), sl_winner_behind_stroke⟩)
    (c_winner_behind_stroke : PySem.W.codeIn K cd_winner_behind_stroke "winner_behind_stroke" = true)
    (k_winner_behind_stroke : PySem.W.keepIn K (.ref f_winner_behind_stroke) = true)
    (a_prepare_next_stroke : PySem.W.nsIn K mainGlobals "prepare_next_stroke" = some (some (.ref f_prepare_next_stroke)))
    (l_prepare_next_stroke : K.lookup f_prepare_next_stroke = some ⟨oc_prepare_next_stroke, od_prepare_next_stroke, .func (PySem.W.fnOf "prepare_next_stroke" "prepare_next_stroke" (defArgs st_prepare_next_stroke) (defBody st_prepare_next_stroke) (defScope st_prepare_next_stroke) .none kV_prepare_next_stroke dc_prepare_next_stroke pm_prepare_next_stroke an_prepare_next_stroke cd_prepare_next_stroke ct_prepare_next_stroke), sl_prepare_next_stroke⟩)
    (c_prepare_next_stroke : PySem.W.codeIn K cd_prepare_next_stroke "prepare_next_stroke" = true)
    (k_prepare_next_stroke : PySem.W.keepIn K (.ref f_prepare_next_stroke) = true)
    (a_loses_turn : PySem.W.nsIn K mainGlobals "loses_turn" = some (some (.ref f_loses_turn)))
    (l_loses_turn : K.lookup f_loses_turn = some ⟨oc_loses_turn, od_loses_turn, .func (PySem.W.fnOf "loses_turn" "loses_turn" (defArgs st_loses_turn) (defBody st_loses_turn) (defScope st_loses_turn) .none kV_loses_turn dc_loses_turn pm_loses_turn an_loses_turn cd_loses_turn ct_loses_turn), sl_loses_turn⟩)
    (c_loses_turn : PySem.W.codeIn K cd_loses_turn "loses_turn" = true)
    (k_loses_turn : PySem.W.keepIn K (.ref f_loses_turn) = true)
    (a_earns_stroke : PySem.W.nsIn K mainGlobals "earns_stroke" = some (some (.ref f_earns_stroke)))
    (l_earns_stroke : K.lookup f_earns_stroke = some ⟨oc_earns_stroke, od_earns_stroke, .func (PySem.W.fnOf "earns_stroke" "earns_stroke" (defArgs st_earns_stroke) (defBody st_earns_stroke) (defScope st_earns_stroke) .none kV_earns_stroke dc_earns_stroke pm_earns_stroke an_earns_stroke cd_earns_stroke ct_earns_stroke), sl_earns_stroke⟩)
    (c_earns_stroke : PySem.W.codeIn K cd_earns_stroke "earns_stroke" = true)
    (k_earns_stroke : PySem.W.keepIn K (.ref f_earns_stroke) = true)
    (a_Referee_init : PySem.W.findIn K (.ref C_Referee) "__init__" = some (some (.ref f_Referee_init)))
    (i_Referee_init : PySem.W.isFn K (.ref f_Referee_init) = true)
    (l_Referee_init : K.lookup f_Referee_init = some ⟨oc_Referee_init, od_Referee_init, .func (PySem.W.fnOf "__init__" "Referee.__init__" (defArgs st_Referee_init) (defBody st_Referee_init) (defScope st_Referee_init) .none kV_Referee_init dc_Referee_init pm_Referee_init an_Referee_init cd_Referee_init ct_Referee_init), sl_Referee_init⟩)
    (c_Referee_init : PySem.W.codeIn K cd_Referee_init "Referee.__init__" = true)
    (k_Referee_init : PySem.W.keepIn K (.ref f_Referee_init) = true)
    (a_Reader_init : PySem.W.findIn K (.ref C_Reader) "__init__" = some (some (.ref f_Reader_init)))
    (i_Reader_init : PySem.W.isFn K (.ref f_Reader_init) = true)
    (l_Reader_init : K.lookup f_Reader_init = some ⟨oc_Reader_init, od_Reader_init, .func (PySem.W.fnOf "__init__" "Reader.__init__" (defArgs st_Reader_init) (defBody st_Reader_init) (defScope st_Reader_init) .none kV_Reader_init dc_Reader_init pm_Reader_init an_Reader_init cd_Reader_init ct_Reader_init), sl_Reader_init⟩)
    (c_Reader_init : PySem.W.codeIn K cd_Reader_init "Reader.__init__" = true)
    (k_Reader_init : PySem.W.keepIn K (.ref f_Reader_init) = true)
    (a_Reader_at_end : PySem.W.findIn K (.ref C_Reader) "at_end" = some (some (.ref f_Reader_at_end)))
    (i_Reader_at_end : PySem.W.isFn K (.ref f_Reader_at_end) = true)
    (l_Reader_at_end : K.lookup f_Reader_at_end = some ⟨oc_Reader_at_end, od_Reader_at_end, .func (PySem.W.fnOf "at_end" "Reader.at_end" (defArgs st_Reader_at_end) (defBody st_Reader_at_end) (defScope st_Reader_at_end) .none kV_Reader_at_end dc_Reader_at_end pm_Reader_at_end an_Reader_at_end cd_Reader_at_end ct_Reader_at_end), sl_Reader_at_end⟩)
    (c_Reader_at_end : PySem.W.codeIn K cd_Reader_at_end "Reader.at_end" = true)
    (k_Reader_at_end : PySem.W.keepIn K (.ref f_Reader_at_end) = true)
    (a_Reader_number : PySem.W.findIn K (.ref C_Reader) "number" = some (some (.ref f_Reader_number)))
    (i_Reader_number : PySem.W.isFn K (.ref f_Reader_number) = true)
    (l_Reader_number : K.lookup f_Reader_number = some ⟨oc_Reader_number, od_Reader_number, .func (PySem.W.fnOf "number" "Reader.number" (defArgs st_Reader_number) (defBody st_Reader_number) (defScope st_Reader_number) .none kV_Reader_number dc_Reader_number pm_Reader_number an_Reader_number cd_Reader_number ct_Reader_number), sl_Reader_number⟩)
    (c_Reader_number : PySem.W.codeIn K cd_Reader_number "Reader.number" = true)
    (k_Reader_number : PySem.W.keepIn K (.ref f_Reader_number) = true)
    (a_Reader_row : PySem.W.findIn K (.ref C_Reader) "row" = some (some (.ref f_Reader_row)))
    (i_Reader_row : PySem.W.isFn K (.ref f_Reader_row) = true)
    (l_Reader_row : K.lookup f_Reader_row = some ⟨oc_Reader_row, od_Reader_row, .func (PySem.W.fnOf "row" "Reader.row" (defArgs st_Reader_row) (defBody st_Reader_row) (defScope st_Reader_row) .none kV_Reader_row dc_Reader_row pm_Reader_row an_Reader_row cd_Reader_row ct_Reader_row), sl_Reader_row⟩)
    (c_Reader_row : PySem.W.codeIn K cd_Reader_row "Reader.row" = true)
    (k_Reader_row : PySem.W.keepIn K (.ref f_Reader_row) = true)
    (a_Reader_stroke : PySem.W.findIn K (.ref C_Reader) "stroke" = some (some (.ref f_Reader_stroke)))
    (i_Reader_stroke : PySem.W.isFn K (.ref f_Reader_stroke) = true)
    (l_Reader_stroke : K.lookup f_Reader_stroke = some ⟨oc_Reader_stroke, od_Reader_stroke, .func (PySem.W.fnOf "stroke" "Reader.stroke" (defArgs st_Reader_stroke) (defBody st_Reader_stroke) (defScope st_Reader_stroke) .none kV_Reader_stroke dc_Reader_stroke pm_Reader_stroke an_Reader_stroke cd_Reader_stroke ct_Reader_stroke), sl_Reader_stroke⟩)
    (c_Reader_stroke : PySem.W.codeIn K cd_Reader_stroke "Reader.stroke" = true)
    (k_Reader_stroke : PySem.W.keepIn K (.ref f_Reader_stroke) = true)
    (a_no_game_goes_on : PySem.W.nsIn K mainGlobals "no_game_goes_on" = some (some (.ref f_no_game_goes_on)))
    (l_no_game_goes_on : K.lookup f_no_game_goes_on = some ⟨oc_no_game_goes_on, od_no_game_goes_on, .func (PySem.W.fnOf "no_game_goes_on" "no_game_goes_on" (defArgs st_no_game_goes_on) (defBody st_no_game_goes_on) (defScope st_no_game_goes_on) .none kV_no_game_goes_on dc_no_game_goes_on pm_no_game_goes_on an_no_game_goes_on cd_no_game_goes_on ct_no_game_goes_on), sl_no_game_goes_on⟩)
    (c_no_game_goes_on : PySem.W.codeIn K cd_no_game_goes_on "no_game_goes_on" = true)
    (k_no_game_goes_on : PySem.W.keepIn K (.ref f_no_game_goes_on) = true)
    (a_refusal_of_begin : PySem.W.nsIn K mainGlobals "refusal_of_begin" = some (some (.ref f_refusal_of_begin)))
    (l_refusal_of_begin : K.lookup f_refusal_of_begin = some ⟨oc_refusal_of_begin, od_refusal_of_begin, .func (PySem.W.fnOf "refusal_of_begin" "refusal_of_begin" (defArgs st_refusal_of_begin) (defBody st_refusal_of_begin) (defScope st_refusal_of_begin) .none kV_refusal_of_begin dc_refusal_of_begin pm_refusal_of_begin an_refusal_of_begin cd_refusal_of_begin ct_refusal_of_begin), sl_refusal_of_begin⟩)
    (c_refusal_of_begin : PySem.W.codeIn K cd_refusal_of_begin "refusal_of_begin" = true)
    (k_refusal_of_begin : PySem.W.keepIn K (.ref f_refusal_of_begin) = true)
    (a_refusal_of_turn : PySem.W.nsIn K mainGlobals "refusal_of_turn" = some (some (.ref f_refusal_of_turn)))
    (l_refusal_of_turn : K.lookup f_refusal_of_turn = some ⟨oc_refusal_of_turn, od_refusal_of_turn, .func (PySem.W.fnOf "refusal_of_turn" "refusal_of_turn" (defArgs st_refusal_of_turn) (defBody st_refusal_of_turn) (defScope st_refusal_of_turn) .none kV_refusal_of_turn dc_refusal_of_turn pm_refusal_of_turn an_refusal_of_turn cd_refusal_of_turn ct_refusal_of_turn), sl_refusal_of_turn⟩)
    (c_refusal_of_turn : PySem.W.codeIn K cd_refusal_of_turn "refusal_of_turn" = true)
    (k_refusal_of_turn : PySem.W.keepIn K (.ref f_refusal_of_turn) = true)
    (a_refusal_of_stroke : PySem.W.nsIn K mainGlobals "refusal_of_stroke" = some (some (.ref f_refusal_of_stroke)))
    (l_refusal_of_stroke : K.lookup f_refusal_of_stroke = some ⟨oc_refusal_of_stroke, od_refusal_of_stroke, .func (PySem.W.fnOf "refusal_of_stroke" "refusal_of_stroke" (defArgs st_refusal_of_stroke) (defBody st_refusal_of_stroke) (defScope st_refusal_of_stroke) .none kV_refusal_of_stroke dc_refusal_of_stroke pm_refusal_of_stroke an_refusal_of_stroke cd_refusal_of_stroke ct_refusal_of_stroke), sl_refusal_of_stroke⟩)
    (c_refusal_of_stroke : PySem.W.codeIn K cd_refusal_of_stroke "refusal_of_stroke" = true)
    (k_refusal_of_stroke : PySem.W.keepIn K (.ref f_refusal_of_stroke) = true)
    (a_is_in_range : PySem.W.nsIn K mainGlobals "is_in_range" = some (some (.ref f_is_in_range)))
    (l_is_in_range : K.lookup f_is_in_range = some ⟨oc_is_in_range, od_is_in_range, .func (PySem.W.fnOf "is_in_range" "is_in_range" (defArgs st_is_in_range) (defBody st_is_in_range) (defScope st_is_in_range) .none kV_is_in_range dc_is_in_range pm_is_in_range an_is_in_range cd_is_in_range ct_is_in_range), sl_is_in_range⟩)
    (c_is_in_range : PySem.W.codeIn K cd_is_in_range "is_in_range" = true)
    (k_is_in_range : PySem.W.keepIn K (.ref f_is_in_range) = true)
    (a_can_have_been : PySem.W.nsIn K mainGlobals "can_have_been" = some (some (.ref f_can_have_been)))
    (l_can_have_been : K.lookup f_can_have_been = some ⟨oc_can_have_been, od_can_have_been, .func (PySem.W.fnOf "can_have_been" "can_have_been" (defArgs st_can_have_been) (defBody st_can_have_been) (defScope st_can_have_been) .none kV_can_have_been dc_can_have_been pm_can_have_been an_can_have_been cd_can_have_been ct_can_have_been), sl_can_have_been⟩)
    (c_can_have_been : PySem.W.codeIn K cd_can_have_been "can_have_been" = true)
    (k_can_have_been : PySem.W.keepIn K (.ref f_can_have_been) = true)
    (a_can_be_told : PySem.W.nsIn K mainGlobals "can_be_told" = some (some (.ref f_can_be_told)))
    (l_can_be_told : K.lookup f_can_be_told = some ⟨oc_can_be_told, od_can_be_told, .func (PySem.W.fnOf "can_be_told" "can_be_told" (defArgs st_can_be_told) (defBody st_can_be_told) (defScope st_can_be_told) .none kV_can_be_told dc_can_be_told pm_can_be_told an_can_be_told cd_can_be_told ct_can_be_told), sl_can_be_told⟩)
    (c_can_be_told : PySem.W.codeIn K cd_can_be_told "can_be_told" = true)
    (k_can_be_told : PySem.W.keepIn K (.ref f_can_be_told) = true)
    (a_refusal_between_turns : PySem.W.nsIn K mainGlobals "refusal_between_turns" = some (some (.ref f_refusal_between_turns)))
    (l_refusal_between_turns : K.lookup f_refusal_between_turns = some ⟨oc_refusal_between_turns, od_refusal_between_turns, .func (PySem.W.fnOf "refusal_between_turns" "refusal_between_turns" (defArgs st_refusal_between_turns) (defBody st_refusal_between_turns) (defScope st_refusal_between_turns) .none kV_refusal_between_turns dc_refusal_between_turns pm_refusal_between_turns an_refusal_between_turns cd_refusal_between_turns ct_refusal_between_turns), sl_refusal_between_turns⟩)
    (c_refusal_between_turns : PySem.W.codeIn K cd_refusal_between_turns "refusal_between_turns" = true)
    (k_refusal_between_turns : PySem.W.keepIn K (.ref f_refusal_between_turns) = true)
    (a_refusal_of_time : PySem.W.nsIn K mainGlobals "refusal_of_time" = some (some (.ref f_refusal_of_time)))
    (l_refusal_of_time : K.lookup f_refusal_of_time = some ⟨oc_refusal_of_time, od_refusal_of_time, .func (PySem.W.fnOf "refusal_of_time" "refusal_of_time" (defArgs st_refusal_of_time) (defBody st_refusal_of_time) (defScope st_refusal_of_time) .none kV_refusal_of_time dc_refusal_of_time pm_refusal_of_time an_refusal_of_time cd_refusal_of_time ct_refusal_of_time), sl_refusal_of_time⟩)
    (c_refusal_of_time : PySem.W.codeIn K cd_refusal_of_time "refusal_of_time" = true)
    (k_refusal_of_time : PySem.W.keepIn K (.ref f_refusal_of_time) = true)
    (a_refusal_of_more : PySem.W.nsIn K mainGlobals "refusal_of_more" = some (some (.ref f_refusal_of_more)))
    (l_refusal_of_more : K.lookup f_refusal_of_more = some ⟨oc_refusal_of_more, od_refusal_of_more, .func (PySem.W.fnOf "refusal_of_more" "refusal_of_more" (defArgs st_refusal_of_more) (defBody st_refusal_of_more) (defScope st_refusal_of_more) .none kV_refusal_of_more dc_refusal_of_more pm_refusal_of_more an_refusal_of_more cd_refusal_of_more ct_refusal_of_more), sl_refusal_of_more⟩)
    (c_refusal_of_more : PySem.W.codeIn K cd_refusal_of_more "refusal_of_more" = true)
    (k_refusal_of_more : PySem.W.keepIn K (.ref f_refusal_of_more) = true)
    (a_answer_begin : PySem.W.nsIn K mainGlobals "answer_begin" = some (some (.ref f_answer_begin)))
    (l_answer_begin : K.lookup f_answer_begin = some ⟨oc_answer_begin, od_answer_begin, .func (PySem.W.fnOf "answer_begin" "answer_begin" (defArgs st_answer_begin) (defBody st_answer_begin) (defScope st_answer_begin) .none kV_answer_begin dc_answer_begin pm_answer_begin an_answer_begin cd_answer_begin ct_answer_begin), sl_answer_begin⟩)
    (c_answer_begin : PySem.W.codeIn K cd_answer_begin "answer_begin" = true)
    (k_answer_begin : PySem.W.keepIn K (.ref f_answer_begin) = true)
    (a_answer_turn : PySem.W.nsIn K mainGlobals "answer_turn" = some (some (.ref f_answer_turn)))
    (l_answer_turn : K.lookup f_answer_turn = some ⟨oc_answer_turn, od_answer_turn, .func (PySem.W.fnOf "answer_turn" "answer_turn" (defArgs st_answer_turn) (defBody st_answer_turn) (defScope st_answer_turn) .none kV_answer_turn dc_answer_turn pm_answer_turn an_answer_turn cd_answer_turn ct_answer_turn), sl_answer_turn⟩)
    (c_answer_turn : PySem.W.codeIn K cd_answer_turn "answer_turn" = true)
    (k_answer_turn : PySem.W.keepIn K (.ref f_answer_turn) = true)
    (a_answer_stroke : PySem.W.nsIn K mainGlobals "answer_stroke" = some (some (.ref f_answer_stroke)))
    (l_answer_stroke : K.lookup f_answer_stroke = some ⟨oc_answer_stroke, od_answer_stroke, .func (PySem.W.fnOf "answer_stroke" "answer_stroke" (defArgs st_answer_stroke) (defBody st_answer_stroke) (defScope st_answer_stroke) .none kV_answer_stroke dc_answer_stroke pm_answer_stroke an_answer_stroke cd_answer_stroke ct_answer_stroke), sl_answer_stroke⟩)
    (c_answer_stroke : PySem.W.codeIn K cd_answer_stroke "answer_stroke" = true)
    (k_answer_stroke : PySem.W.keepIn K (.ref f_answer_stroke) = true)
    (a_answer_pass : PySem.W.nsIn K mainGlobals "answer_pass" = some (some (.ref f_answer_pass)))
    (l_answer_pass : K.lookup f_answer_pass = some ⟨oc_answer_pass, od_answer_pass, .func (PySem.W.fnOf "answer_pass" "answer_pass" (defArgs st_answer_pass) (defBody st_answer_pass) (defScope st_answer_pass) .none kV_answer_pass dc_answer_pass pm_answer_pass an_answer_pass cd_answer_pass ct_answer_pass), sl_answer_pass⟩)
    (c_answer_pass : PySem.W.codeIn K cd_answer_pass "answer_pass" = true)
    (k_answer_pass : PySem.W.keepIn K (.ref f_answer_pass) = true)
    (a_answer_more : PySem.W.nsIn K mainGlobals "answer_more" = some (some (.ref f_answer_more)))
    (l_answer_more : K.lookup f_answer_more = some ⟨oc_answer_more, od_answer_more, .func (PySem.W.fnOf "answer_more" "answer_more" (defArgs st_answer_more) (defBody st_answer_more) (defScope st_answer_more) .none kV_answer_more dc_answer_more pm_answer_more an_answer_more cd_answer_more ct_answer_more), sl_answer_more⟩)
    (c_answer_more : PySem.W.codeIn K cd_answer_more "answer_more" = true)
    (k_answer_more : PySem.W.keepIn K (.ref f_answer_more) = true)
    (a_answer_wired : PySem.W.nsIn K mainGlobals "answer_wired" = some (some (.ref f_answer_wired)))
    (l_answer_wired : K.lookup f_answer_wired = some ⟨oc_answer_wired, od_answer_wired, .func (PySem.W.fnOf "answer_wired" "answer_wired" (defArgs st_answer_wired) (defBody st_answer_wired) (defScope st_answer_wired) .none kV_answer_wired dc_answer_wired pm_answer_wired an_answer_wired cd_answer_wired ct_answer_wired), sl_answer_wired⟩)
    (c_answer_wired : PySem.W.codeIn K cd_answer_wired "answer_wired" = true)
    (k_answer_wired : PySem.W.keepIn K (.ref f_answer_wired) = true)
    (a_answer_time : PySem.W.nsIn K mainGlobals "answer_time" = some (some (.ref f_answer_time)))
    (l_answer_time : K.lookup f_answer_time = some ⟨oc_answer_time, od_answer_time, .func (PySem.W.fnOf "answer_time" "answer_time" (defArgs st_answer_time) (defBody st_answer_time) (defScope st_answer_time) .none kV_answer_time dc_answer_time pm_answer_time an_answer_time cd_answer_time ct_answer_time), sl_answer_time⟩)
    (c_answer_time : PySem.W.codeIn K cd_answer_time "answer_time" = true)
    (k_answer_time : PySem.W.keepIn K (.ref f_answer_time) = true)
    (a_answer_now : PySem.W.nsIn K mainGlobals "answer_now" = some (some (.ref f_answer_now)))
    (l_answer_now : K.lookup f_answer_now = some ⟨oc_answer_now, od_answer_now, .func (PySem.W.fnOf "answer_now" "answer_now" (defArgs st_answer_now) (defBody st_answer_now) (defScope st_answer_now) .none kV_answer_now dc_answer_now pm_answer_now an_answer_now cd_answer_now ct_answer_now), sl_answer_now⟩)
    (c_answer_now : PySem.W.codeIn K cd_answer_now "answer_now" = true)
    (k_answer_now : PySem.W.keepIn K (.ref f_answer_now) = true)
    (a_told_of_turn : PySem.W.nsIn K mainGlobals "told_of_turn" = some (some (.ref f_told_of_turn)))
    (l_told_of_turn : K.lookup f_told_of_turn = some ⟨oc_told_of_turn, od_told_of_turn, .func (PySem.W.fnOf "told_of_turn" "told_of_turn" (defArgs st_told_of_turn) (defBody st_told_of_turn) (defScope st_told_of_turn) .none kV_told_of_turn dc_told_of_turn pm_told_of_turn an_told_of_turn cd_told_of_turn ct_told_of_turn), sl_told_of_turn⟩)
    (c_told_of_turn : PySem.W.codeIn K cd_told_of_turn "told_of_turn" = true)
    (k_told_of_turn : PySem.W.keepIn K (.ref f_told_of_turn) = true)
    (a_answer_balls : PySem.W.nsIn K mainGlobals "answer_balls" = some (some (.ref f_answer_balls)))
    (l_answer_balls : K.lookup f_answer_balls = some ⟨oc_answer_balls, od_answer_balls, .func (PySem.W.fnOf "answer_balls" "answer_balls" (defArgs st_answer_balls) (defBody st_answer_balls) (defScope st_answer_balls) .none kV_answer_balls dc_answer_balls pm_answer_balls an_answer_balls cd_answer_balls ct_answer_balls), sl_answer_balls⟩)
    (c_answer_balls : PySem.W.codeIn K cd_answer_balls "answer_balls" = true)
    (k_answer_balls : PySem.W.keepIn K (.ref f_answer_balls) = true)
    (a_answer_call : PySem.W.nsIn K mainGlobals "answer_call" = some (some (.ref f_answer_call)))
    (l_answer_call : K.lookup f_answer_call = some ⟨oc_answer_call, od_answer_call, .func (PySem.W.fnOf "answer_call" "answer_call" (defArgs st_answer_call) (defBody st_answer_call) (defScope st_answer_call) .none kV_answer_call dc_answer_call pm_answer_call an_answer_call cd_answer_call ct_answer_call), sl_answer_call⟩)
    (c_answer_call : PySem.W.codeIn K cd_answer_call "answer_call" = true)
    (k_answer_call : PySem.W.keepIn K (.ref f_answer_call) = true)
    (a_answers : PySem.W.nsIn K mainGlobals "answers" = some (some (.ref f_answers)))
    (l_answers : K.lookup f_answers = some ⟨oc_answers, od_answers, .func (PySem.W.fnOf "answers" "answers" (defArgs st_answers) (defBody st_answers) (defScope st_answers) .none kV_answers dc_answers pm_answers an_answers cd_answers ct_answers), sl_answers⟩)
    (c_answers : PySem.W.codeIn K cd_answers "answers" = true)
    (k_answers : PySem.W.keepIn K (.ref f_answers) = true)
    (pg_Stroke : PySem.W.plainGet K C_Stroke Str.empty = true)
    (hd_Stroke : PySem.W.hasDictIn K C_Stroke = true)
    (po_Stroke : PySem.W.plainOver K C_Stroke = true)
    (sa_Stroke : PySem.W.findIn K (.ref C_Stroke) "__setattr__" = some (some (.builtin "object.__setattr__")))
    (mk_Stroke : PySem.W.makesIn K C_Stroke = true)
    (kc_Stroke : PySem.W.keepIn K (.ref C_Stroke) = true)
    (n_Stroke_fault : PySem.W.findIn K (.ref C_Stroke) "fault" = some none)
    (n_Stroke_hit : PySem.W.findIn K (.ref C_Stroke) "hit" = some none)
    (n_Stroke_hoop : PySem.W.findIn K (.ref C_Stroke) "hoop" = some none)
    (n_Stroke_off : PySem.W.findIn K (.ref C_Stroke) "off" = some none)
    (n_Stroke_peg : PySem.W.findIn K (.ref C_Stroke) "peg" = some none)
    (n_Stroke_ran : PySem.W.findIn K (.ref C_Stroke) "ran" = some none)
    (pg_Turn : PySem.W.plainGet K C_Turn Str.empty = true)
    (hd_Turn : PySem.W.hasDictIn K C_Turn = true)
    (po_Turn : PySem.W.plainOver K C_Turn = true)
    (sa_Turn : PySem.W.findIn K (.ref C_Turn) "__setattr__" = some (some (.builtin "object.__setattr__")))
    (mk_Turn : PySem.W.makesIn K C_Turn = true)
    (kc_Turn : PySem.W.keepIn K (.ref C_Turn) = true)
    (n_Turn_ball : PySem.W.findIn K (.ref C_Turn) "ball" = some none)
    (n_Turn_beside : PySem.W.findIn K (.ref C_Turn) "beside" = some none)
    (n_Turn_half : PySem.W.findIn K (.ref C_Turn) "half" = some none)
    (n_Turn_hoops_before : PySem.W.findIn K (.ref C_Turn) "hoops_before" = some none)
    (n_Turn_live : PySem.W.findIn K (.ref C_Turn) "live" = some none)
    (n_Turn_partner_before : PySem.W.findIn K (.ref C_Turn) "partner_before" = some none)
    (n_Turn_strokes : PySem.W.findIn K (.ref C_Turn) "strokes" = some none)
    (pg_Game : PySem.W.plainGet K C_Game Str.empty = true)
    (hd_Game : PySem.W.hasDictIn K C_Game = true)
    (po_Game : PySem.W.plainOver K C_Game = true)
    (sa_Game : PySem.W.findIn K (.ref C_Game) "__setattr__" = some (some (.builtin "object.__setattr__")))
    (mk_Game : PySem.W.makesIn K C_Game = true)
    (kc_Game : PySem.W.keepIn K (.ref C_Game) = true)
    (n_Game_half_turns : PySem.W.findIn K (.ref C_Game) "half_turns" = some none)
    (n_Game_last_ball : PySem.W.findIn K (.ref C_Game) "last_ball" = some none)
    (n_Game_lifts : PySem.W.findIn K (.ref C_Game) "lifts" = some none)
    (n_Game_owed : PySem.W.findIn K (.ref C_Game) "owed" = some none)
    (n_Game_points : PySem.W.findIn K (.ref C_Game) "points" = some none)
    (n_Game_side : PySem.W.findIn K (.ref C_Game) "side" = some none)
    (n_Game_time : PySem.W.findIn K (.ref C_Game) "time" = some none)
    (n_Game_turn : PySem.W.findIn K (.ref C_Game) "turn" = some none)
    (n_Game_winner : PySem.W.findIn K (.ref C_Game) "winner" = some none)
    (pg_Referee : PySem.W.plainGet K C_Referee Str.empty = true)
    (hd_Referee : PySem.W.hasDictIn K C_Referee = true)
    (po_Referee : PySem.W.plainOver K C_Referee = true)
    (sa_Referee : PySem.W.findIn K (.ref C_Referee) "__setattr__" = some (some (.builtin "object.__setattr__")))
    (mk_Referee : PySem.W.makesIn K C_Referee = true)
    (kc_Referee : PySem.W.keepIn K (.ref C_Referee) = true)
    (n_Referee_game : PySem.W.findIn K (.ref C_Referee) "game" = some none)
    (pg_Reader : PySem.W.plainGet K C_Reader Str.empty = true)
    (hd_Reader : PySem.W.hasDictIn K C_Reader = true)
    (po_Reader : PySem.W.plainOver K C_Reader = true)
    (sa_Reader : PySem.W.findIn K (.ref C_Reader) "__setattr__" = some (some (.builtin "object.__setattr__")))
    (mk_Reader : PySem.W.makesIn K C_Reader = true)
    (kc_Reader : PySem.W.keepIn K (.ref C_Reader) = true)
    (n_Reader_calls : PySem.W.findIn K (.ref C_Reader) "calls" = some none)
    (n_Reader_place : PySem.W.findIn K (.ref C_Reader) "place" = some none)
    (v_BALLS : PySem.W.nsIn K mainGlobals "BALLS" = some (some (.ref V_BALLS)))
    (w_BALLS : K.lookup V_BALLS = some { cls := .type "tuple", data := .seq #[.int 0 tb0, .int 1 tb1, .int 2 tb2, .int 3 tb3] })
    (v_NO_BALL : PySem.W.nsIn K mainGlobals "NO_BALL" = some (some (.int (-1) t_NO_BALL)))
    (v_NO_SIDE : PySem.W.nsIn K mainGlobals "NO_SIDE" = some (some (.int (-1) t_NO_SIDE)))
    (v_ALL_HOOPS : PySem.W.nsIn K mainGlobals "ALL_HOOPS" = some (some (.int 12 t_ALL_HOOPS)))
    (v_OUT : PySem.W.nsIn K mainGlobals "OUT" = some (some (.int 13 t_OUT)))
    (v_FIRST_LIFT : PySem.W.nsIn K mainGlobals "FIRST_LIFT" = some (some (.int 7 t_FIRST_LIFT)))
    (v_SECOND_LIFT : PySem.W.nsIn K mainGlobals "SECOND_LIFT" = some (some (.int 10 t_SECOND_LIFT)))
    (v_LIFT : PySem.W.nsIn K mainGlobals "LIFT" = some (some (.int 1 t_LIFT)))
    (v_LIFT_TO_A_BALL : PySem.W.nsIn K mainGlobals "LIFT_TO_A_BALL" = some (some (.int 2 t_LIFT_TO_A_BALL)))
    (v_BY_ITSELF : PySem.W.nsIn K mainGlobals "BY_ITSELF" = some (some (.int 0 t_BY_ITSELF)))
    (v_BALL_AT_SIDE : PySem.W.nsIn K mainGlobals "BALL_AT_SIDE" = some (some (.int 1 t_BALL_AT_SIDE)))
    (v_TURN_OVER : PySem.W.nsIn K mainGlobals "TURN_OVER" = some (some (.int 2 t_TURN_OVER)))
    (v_GAME_OVER : PySem.W.nsIn K mainGlobals "GAME_OVER" = some (some (.int 3 t_GAME_OVER)))
    (v_TIME_NOT_CALLED : PySem.W.nsIn K mainGlobals "TIME_NOT_CALLED" = some (some (.int 0 t_TIME_NOT_CALLED)))
    (v_TIME_CALLED : PySem.W.nsIn K mainGlobals "TIME_CALLED" = some (some (.int 1 t_TIME_CALLED)))
    (v_TIME_LAST_TURN : PySem.W.nsIn K mainGlobals "TIME_LAST_TURN" = some (some (.int 2 t_TIME_LAST_TURN)))
    (v_TIME_TILL_ONE_HAS_MORE : PySem.W.nsIn K mainGlobals "TIME_TILL_ONE_HAS_MORE" = some (some (.int 3 t_TIME_TILL_ONE_HAS_MORE)))
    (v_MOST_HALF_TURNS : PySem.W.nsIn K mainGlobals "MOST_HALF_TURNS" = some (some (.int 40 t_MOST_HALF_TURNS)))
    (v_BALLS_TOLD : PySem.W.nsIn K mainGlobals "BALLS_TOLD" = some (some (.int 4 t_BALLS_TOLD)))
    (v_CALLS : PySem.W.nsIn K mainGlobals "CALLS" = some (some (.ref V_CALLS)))
    (w_CALLS : K.lookup V_CALLS = some { cls := .type "dict", data := .dict #[{ hash := 1, key := .int 1 td1, val := .ref f_answer_begin }, { hash := 2, key := .int 2 td2, val := .ref f_answer_turn }, { hash := 3, key := .int 3 td3, val := .ref f_answer_stroke }, { hash := 4, key := .int 4 td4, val := .ref f_answer_pass }, { hash := 5, key := .int 5 td5, val := .ref f_answer_more }, { hash := 6, key := .int 6 td6, val := .ref f_answer_wired }, { hash := 7, key := .int 7 td7, val := .ref f_answer_time }, { hash := 8, key := .int 8 td8, val := .ref f_answer_now }, { hash := 9, key := .int 9 td9, val := .ref f_answer_balls }] 9 })
    (z_len : PySem.W.nsIn K mainGlobals "len" = some none)
    (z_min : PySem.W.nsIn K mainGlobals "min" = some none)
    (z_max : PySem.W.nsIn K mainGlobals "max" = some none)
    (z_all : PySem.W.nsIn K mainGlobals "all" = some none)
    (z_any : PySem.W.nsIn K mainGlobals "any" = some none)
    (z_set : PySem.W.nsIn K mainGlobals "set" = some none)
    : ∃ a : Adr, Txt K mg a ∧ a.answers = fa := by
  have F_Stroke_init := fun_mk (st := st_Stroke_init) l_Stroke_init c_Stroke_init k_Stroke_init
  have b_Stroke_init := F_Stroke_init.binds (ps := ["self", "hit", "hoop", "fault", "ran", "peg", "off"]) fun _ _ _ _ _ _ us hl => match us, hl with | [_, _, _, _, _, _, _], _ => rfl
  have F_Turn_init := fun_mk (st := st_Turn_init) l_Turn_init c_Turn_init k_Turn_init
  have b_Turn_init := F_Turn_init.binds (ps := ["self", "ball", "half", "game"]) fun _ _ _ _ _ _ us hl => match us, hl with | [_, _, _, _], _ => rfl
  have F_Game_init := fun_mk (st := st_Game_init) l_Game_init c_Game_init k_Game_init
  have b_Game_init := F_Game_init.binds (ps := ["self", "lifts", "first", "half_turns"]) fun _ _ _ _ _ _ us hl => match us, hl with | [_, _, _, _], _ => rfl
  have F_Game_is_out := fun_mk (st := st_Game_is_out) l_Game_is_out c_Game_is_out k_Game_is_out
  have b_Game_is_out := F_Game_is_out.binds (ps := ["self", "ball"]) fun _ _ _ _ _ _ us hl => match us, hl with | [_, _], _ => rfl
  have F_Game_others_in_play := fun_mk (st := st_Game_others_in_play) l_Game_others_in_play c_Game_others_in_play k_Game_others_in_play
  have b_Game_others_in_play := F_Game_others_in_play.binds (ps := ["self", "ball"]) fun _ _ _ _ _ _ us hl => match us, hl with | [_, _], _ => rfl
  have F_Game_side_points := fun_mk (st := st_Game_side_points) l_Game_side_points c_Game_side_points k_Game_side_points
  have b_Game_side_points := F_Game_side_points.binds (ps := ["self", "side"]) fun _ _ _ _ _ _ us hl => match us, hl with | [_, _], _ => rfl
  have F_Game_leader := fun_mk (st := st_Game_leader) l_Game_leader c_Game_leader k_Game_leader
  have b_Game_leader := F_Game_leader.binds (ps := ["self"]) fun _ _ _ _ _ _ us hl => match us, hl with | [_], _ => rfl
  have F_Game_state := fun_mk (st := st_Game_state) l_Game_state c_Game_state k_Game_state
  have b_Game_state := F_Game_state.binds (ps := ["self"]) fun _ _ _ _ _ _ us hl => match us, hl with | [_], _ => rfl
  have F_side_of := fun_mk (st := st_side_of) l_side_of c_side_of k_side_of
  have b_side_of := F_side_of.binds (ps := ["ball"]) fun _ _ _ _ _ _ us hl => match us, hl with | [_], _ => rfl
  have F_partner_of := fun_mk (st := st_partner_of) l_partner_of c_partner_of k_partner_of
  have b_partner_of := F_partner_of.binds (ps := ["ball"]) fun _ _ _ _ _ _ us hl => match us, hl with | [_], _ => rfl
  have F_begin_turn := fun_mk (st := st_begin_turn) l_begin_turn c_begin_turn k_begin_turn
  have b_begin_turn := F_begin_turn.binds (ps := ["game", "ball", "half"]) fun _ _ _ _ _ _ us hl => match us, hl with | [_, _, _], _ => rfl
  have F_hand_over := fun_mk (st := st_hand_over) l_hand_over c_hand_over k_hand_over
  have b_hand_over := F_hand_over.binds (ps := ["game", "owed"]) fun _ _ _ _ _ _ us hl => match us, hl with | [_, _], _ => rfl
  have F_pass_turn := fun_mk (st := st_pass_turn) l_pass_turn c_pass_turn k_pass_turn
  have b_pass_turn := F_pass_turn.binds (ps := ["game"]) fun _ _ _ _ _ _ us hl => match us, hl with | [_], _ => rfl
  have F_end_turn := fun_mk (st := st_end_turn) l_end_turn c_end_turn k_end_turn
  have b_end_turn := F_end_turn.binds (ps := ["game"]) fun _ _ _ _ _ _ us hl => match us, hl with | [_], _ => rfl
  have F_find_wired := fun_mk (st := st_find_wired) l_find_wired c_find_wired k_find_wired
  have b_find_wired := F_find_wired.binds (ps := ["game"]) fun _ _ _ _ _ _ us hl => match us, hl with | [_], _ => rfl
  have F_call_time := fun_mk (st := st_call_time) l_call_time c_call_time k_call_time
  have b_call_time := F_call_time.binds (ps := ["game"]) fun _ _ _ _ _ _ us hl => match us, hl with | [_], _ => rfl
  have F_owed_for := fun_mk (st := st_owed_for) l_owed_for c_owed_for k_owed_for
  have b_owed_for := F_owed_for.binds (ps := ["game", "turn"]) fun _ _ _ _ _ _ us hl => match us, hl with | [_, _], _ => rfl
  have F_price_of := fun_mk (st := st_price_of) l_price_of c_price_of k_price_of
  have b_price_of := F_price_of.binds (ps := ["half"]) fun _ _ _ _ _ _ us hl => match us, hl with | [_], _ => rfl
  have F_take_turn_more := fun_mk (st := st_take_turn_more) l_take_turn_more c_take_turn_more k_take_turn_more
  have b_take_turn_more := F_take_turn_more.binds (ps := ["game", "half"]) fun _ _ _ _ _ _ us hl => match us, hl with | [_, _], _ => rfl
  have F_play_stroke := fun_mk (st := st_play_stroke) l_play_stroke c_play_stroke k_play_stroke
  have b_play_stroke := F_play_stroke.binds (ps := ["game", "stroke"]) fun _ _ _ _ _ _ us hl => match us, hl with | [_, _], _ => rfl
  have F_hoop_counts := fun_mk (st := st_hoop_counts) l_hoop_counts c_hoop_counts k_hoop_counts
  have b_hoop_counts := F_hoop_counts.binds (ps := ["turn", "stroke"]) fun _ _ _ _ _ _ us hl => match us, hl with | [_, _], _ => rfl
  have F_live_as_it_hits := fun_mk (st := st_live_as_it_hits) l_live_as_it_hits c_live_as_it_hits k_live_as_it_hits
  have b_live_as_it_hits := F_live_as_it_hits.binds (ps := ["game", "stroke"]) fun _ _ _ _ _ _ us hl => match us, hl with | [_, _], _ => rfl
  have F_count_points := fun_mk (st := st_count_points) l_count_points c_count_points k_count_points
  have b_count_points := F_count_points.binds (ps := ["game", "stroke"]) fun _ _ _ _ _ _ us hl => match us, hl with | [_, _], _ => rfl
  have F_winner_behind_stroke := fun_mk (st := st_winner_behind_stroke) l_winner_behind_stroke c_winner_behind_stroke k_winner_behind_stroke
  have b_winner_behind_stroke := F_winner_behind_stroke.binds (ps := ["game"]) fun _ _ _ _ _ _ us hl => match us, hl with | [_], _ => rfl
  have F_prepare_next_stroke := fun_mk (st := st_prepare_next_stroke) l_prepare_next_stroke c_prepare_next_stroke k_prepare_next_stroke
  have b_prepare_next_stroke := F_prepare_next_stroke.binds (ps := ["game", "stroke", "live"]) fun _ _ _ _ _ _ us hl => match us, hl with | [_, _, _], _ => rfl
  have F_loses_turn := fun_mk (st := st_loses_turn) l_loses_turn c_loses_turn k_loses_turn
  have b_loses_turn := F_loses_turn.binds (ps := ["game", "stroke", "hit_counts"]) fun _ _ _ _ _ _ us hl => match us, hl with | [_, _, _], _ => rfl
  have F_earns_stroke := fun_mk (st := st_earns_stroke) l_earns_stroke c_earns_stroke k_earns_stroke
  have b_earns_stroke := F_earns_stroke.binds (ps := ["turn", "stroke", "hit_counts"]) fun _ _ _ _ _ _ us hl => match us, hl with | [_, _, _], _ => rfl
  have F_Referee_init := fun_mk (st := st_Referee_init) l_Referee_init c_Referee_init k_Referee_init
  have b_Referee_init := F_Referee_init.binds (ps := ["self"]) fun _ _ _ _ _ _ us hl => match us, hl with | [_], _ => rfl
  have F_Reader_init := fun_mk (st := st_Reader_init) l_Reader_init c_Reader_init k_Reader_init
  have b_Reader_init := F_Reader_init.binds (ps := ["self", "calls"]) fun _ _ _ _ _ _ us hl => match us, hl with | [_, _], _ => rfl
  have F_Reader_at_end := fun_mk (st := st_Reader_at_end) l_Reader_at_end c_Reader_at_end k_Reader_at_end
  have b_Reader_at_end := F_Reader_at_end.binds (ps := ["self"]) fun _ _ _ _ _ _ us hl => match us, hl with | [_], _ => rfl
  have F_Reader_number := fun_mk (st := st_Reader_number) l_Reader_number c_Reader_number k_Reader_number
  have b_Reader_number := F_Reader_number.binds (ps := ["self"]) fun _ _ _ _ _ _ us hl => match us, hl with | [_], _ => rfl
  have F_Reader_row := fun_mk (st := st_Reader_row) l_Reader_row c_Reader_row k_Reader_row
  have b_Reader_row := F_Reader_row.binds (ps := ["self"]) fun _ _ _ _ _ _ us hl => match us, hl with | [_], _ => rfl
  have F_Reader_stroke := fun_mk (st := st_Reader_stroke) l_Reader_stroke c_Reader_stroke k_Reader_stroke
  have b_Reader_stroke := F_Reader_stroke.binds (ps := ["self"]) fun _ _ _ _ _ _ us hl => match us, hl with | [_], _ => rfl
  have F_no_game_goes_on := fun_mk (st := st_no_game_goes_on) l_no_game_goes_on c_no_game_goes_on k_no_game_goes_on
  have b_no_game_goes_on := F_no_game_goes_on.binds (ps := ["game"]) fun _ _ _ _ _ _ us hl => match us, hl with | [_], _ => rfl
  have F_refusal_of_begin := fun_mk (st := st_refusal_of_begin) l_refusal_of_begin c_refusal_of_begin k_refusal_of_begin
  have b_refusal_of_begin := F_refusal_of_begin.binds (ps := ["lifts", "first", "half_turns"]) fun _ _ _ _ _ _ us hl => match us, hl with | [_, _, _], _ => rfl
  have F_refusal_of_turn := fun_mk (st := st_refusal_of_turn) l_refusal_of_turn c_refusal_of_turn k_refusal_of_turn
  have b_refusal_of_turn := F_refusal_of_turn.binds (ps := ["game", "ball", "how"]) fun _ _ _ _ _ _ us hl => match us, hl with | [_, _, _], _ => rfl
  have F_refusal_of_stroke := fun_mk (st := st_refusal_of_stroke) l_refusal_of_stroke c_refusal_of_stroke k_refusal_of_stroke
  have b_refusal_of_stroke := F_refusal_of_stroke.binds (ps := ["game", "stroke"]) fun _ _ _ _ _ _ us hl => match us, hl with | [_, _], _ => rfl
  have F_is_in_range := fun_mk (st := st_is_in_range) l_is_in_range c_is_in_range k_is_in_range
  have b_is_in_range := F_is_in_range.binds (ps := ["stroke"]) fun _ _ _ _ _ _ us hl => match us, hl with | [_], _ => rfl
  have F_can_have_been := fun_mk (st := st_can_have_been) l_can_have_been c_can_have_been k_can_have_been
  have b_can_have_been := F_can_have_been.binds (ps := ["game", "stroke"]) fun _ _ _ _ _ _ us hl => match us, hl with | [_, _], _ => rfl
  have F_can_be_told := fun_mk (st := st_can_be_told) l_can_be_told c_can_be_told k_can_be_told
  have b_can_be_told := F_can_be_told.binds (ps := ["game", "balls"]) fun _ _ _ _ _ _ us hl => match us, hl with | [_, _], _ => rfl
  have F_refusal_between_turns := fun_mk (st := st_refusal_between_turns) l_refusal_between_turns c_refusal_between_turns k_refusal_between_turns
  have b_refusal_between_turns := F_refusal_between_turns.binds (ps := ["game"]) fun _ _ _ _ _ _ us hl => match us, hl with | [_], _ => rfl
  have F_refusal_of_time := fun_mk (st := st_refusal_of_time) l_refusal_of_time c_refusal_of_time k_refusal_of_time
  have b_refusal_of_time := F_refusal_of_time.binds (ps := ["game"]) fun _ _ _ _ _ _ us hl => match us, hl with | [_], _ => rfl
  have F_refusal_of_more := fun_mk (st := st_refusal_of_more) l_refusal_of_more c_refusal_of_more k_refusal_of_more
  have b_refusal_of_more := F_refusal_of_more.binds (ps := ["game", "half"]) fun _ _ _ _ _ _ us hl => match us, hl with | [_, _], _ => rfl
  have F_answer_begin := fun_mk (st := st_answer_begin) l_answer_begin c_answer_begin k_answer_begin
  have b_answer_begin := F_answer_begin.binds (ps := ["referee", "reader"]) fun _ _ _ _ _ _ us hl => match us, hl with | [_, _], _ => rfl
  have F_answer_turn := fun_mk (st := st_answer_turn) l_answer_turn c_answer_turn k_answer_turn
  have b_answer_turn := F_answer_turn.binds (ps := ["referee", "reader"]) fun _ _ _ _ _ _ us hl => match us, hl with | [_, _], _ => rfl
  have F_answer_stroke := fun_mk (st := st_answer_stroke) l_answer_stroke c_answer_stroke k_answer_stroke
  have b_answer_stroke := F_answer_stroke.binds (ps := ["referee", "reader"]) fun _ _ _ _ _ _ us hl => match us, hl with | [_, _], _ => rfl
  have F_answer_pass := fun_mk (st := st_answer_pass) l_answer_pass c_answer_pass k_answer_pass
  have b_answer_pass := F_answer_pass.binds (ps := ["referee", "reader"]) fun _ _ _ _ _ _ us hl => match us, hl with | [_, _], _ => rfl
  have F_answer_more := fun_mk (st := st_answer_more) l_answer_more c_answer_more k_answer_more
  have b_answer_more := F_answer_more.binds (ps := ["referee", "reader"]) fun _ _ _ _ _ _ us hl => match us, hl with | [_, _], _ => rfl
  have F_answer_wired := fun_mk (st := st_answer_wired) l_answer_wired c_answer_wired k_answer_wired
  have b_answer_wired := F_answer_wired.binds (ps := ["referee", "reader"]) fun _ _ _ _ _ _ us hl => match us, hl with | [_, _], _ => rfl
  have F_answer_time := fun_mk (st := st_answer_time) l_answer_time c_answer_time k_answer_time
  have b_answer_time := F_answer_time.binds (ps := ["referee", "reader"]) fun _ _ _ _ _ _ us hl => match us, hl with | [_, _], _ => rfl
  have F_answer_now := fun_mk (st := st_answer_now) l_answer_now c_answer_now k_answer_now
  have b_answer_now := F_answer_now.binds (ps := ["referee", "reader"]) fun _ _ _ _ _ _ us hl => match us, hl with | [_, _], _ => rfl
  have F_told_of_turn := fun_mk (st := st_told_of_turn) l_told_of_turn c_told_of_turn k_told_of_turn
  have b_told_of_turn := F_told_of_turn.binds (ps := ["turn"]) fun _ _ _ _ _ _ us hl => match us, hl with | [_], _ => rfl
  have F_answer_balls := fun_mk (st := st_answer_balls) l_answer_balls c_answer_balls k_answer_balls
  have b_answer_balls := F_answer_balls.binds (ps := ["referee", "reader"]) fun _ _ _ _ _ _ us hl => match us, hl with | [_, _], _ => rfl
  have F_answer_call := fun_mk (st := st_answer_call) l_answer_call c_answer_call k_answer_call
  have b_answer_call := F_answer_call.binds (ps := ["referee", "reader"]) fun _ _ _ _ _ _ us hl => match us, hl with | [_, _], _ => rfl
  have F_answers := fun_mk (st := st_answers) l_answers c_answers k_answers
  have b_answers := F_answers.binds (ps := ["calls"]) fun _ _ _ _ _ _ us hl => match us, hl with | [_], _ => rfl
  have e := hfa.symm.trans (PySem.W.mg_of X G a_answers)
  exact ⟨⟨f_Stroke_init, _, f_Turn_init, _, f_Game_init, _, f_Game_is_out, _, f_Game_others_in_play, _, f_Game_side_points, _, f_Game_leader, _, f_Game_state, _, f_side_of, _, f_partner_of, _, f_begin_turn, _, f_hand_over, _, f_pass_turn, _, f_end_turn, _, f_find_wired, _, f_call_time, _, f_owed_for, _, f_price_of, _, f_take_turn_more, _, f_play_stroke, _, f_hoop_counts, _, f_live_as_it_hits, _, f_count_points, _, f_winner_behind_stroke, _, f_prepare_next_stroke, _, f_loses_turn, _, f_earns_stroke, _, f_Referee_init, _, f_Reader_init, _, f_Reader_at_end, _, f_Reader_number, _, f_Reader_row, _, f_Reader_stroke, _, f_no_game_goes_on, _, f_refusal_of_begin, _, f_refusal_of_turn, _, f_refusal_of_stroke, _, f_is_in_range, _, f_can_have_been, _, f_can_be_told, _, f_refusal_between_turns, _, f_refusal_of_time, _, f_refusal_of_more, _, f_answer_begin, _, f_answer_turn, _, f_answer_stroke, _, f_answer_pass, _, f_answer_more, _, f_answer_wired, _, f_answer_time, _, f_answer_now, _, f_told_of_turn, _, f_answer_balls, _, f_answer_call, _, f_answers, _, C_Stroke, C_Turn, C_Game, C_Referee, C_Reader, V_BALLS, t_NO_BALL, t_NO_SIDE, t_ALL_HOOPS, t_OUT, t_FIRST_LIFT, t_SECOND_LIFT, t_LIFT, t_LIFT_TO_A_BALL, t_BY_ITSELF, t_BALL_AT_SIDE, t_TURN_OVER, t_GAME_OVER, t_TIME_NOT_CALLED, t_TIME_CALLED, t_TIME_LAST_TURN, t_TIME_TILL_ONE_HAS_MORE, t_MOST_HALF_TURNS, t_BALLS_TOLD, V_CALLS⟩, ⟨F_Stroke_init, b_Stroke_init, F_Turn_init, b_Turn_init, F_Game_init, b_Game_init, F_Game_is_out, b_Game_is_out, ⟨a_Game_is_out, i_Game_is_out, k_Game_is_out⟩, F_Game_others_in_play, b_Game_others_in_play, ⟨a_Game_others_in_play, i_Game_others_in_play, k_Game_others_in_play⟩, F_Game_side_points, b_Game_side_points, ⟨a_Game_side_points, i_Game_side_points, k_Game_side_points⟩, F_Game_leader, b_Game_leader, ⟨a_Game_leader, i_Game_leader, k_Game_leader⟩, F_Game_state, b_Game_state, ⟨a_Game_state, i_Game_state, k_Game_state⟩, F_side_of, b_side_of, PySem.W.mg_of X G a_side_of, F_partner_of, b_partner_of, PySem.W.mg_of X G a_partner_of, F_begin_turn, b_begin_turn, PySem.W.mg_of X G a_begin_turn, F_hand_over, b_hand_over, PySem.W.mg_of X G a_hand_over, F_pass_turn, b_pass_turn, PySem.W.mg_of X G a_pass_turn, F_end_turn, b_end_turn, PySem.W.mg_of X G a_end_turn, F_find_wired, b_find_wired, PySem.W.mg_of X G a_find_wired, F_call_time, b_call_time, PySem.W.mg_of X G a_call_time, F_owed_for, b_owed_for, PySem.W.mg_of X G a_owed_for, F_price_of, b_price_of, PySem.W.mg_of X G a_price_of, F_take_turn_more, b_take_turn_more, PySem.W.mg_of X G a_take_turn_more, F_play_stroke, b_play_stroke, PySem.W.mg_of X G a_play_stroke, F_hoop_counts, b_hoop_counts, PySem.W.mg_of X G a_hoop_counts, F_live_as_it_hits, b_live_as_it_hits, PySem.W.mg_of X G a_live_as_it_hits, F_count_points, b_count_points, PySem.W.mg_of X G a_count_points, F_winner_behind_stroke, b_winner_behind_stroke, PySem.W.mg_of X G a_winner_behind_stroke, F_prepare_next_stroke, b_prepare_next_stroke, PySem.W.mg_of X G a_prepare_next_stroke, F_loses_turn, b_loses_turn, PySem.W.mg_of X G a_loses_turn, F_earns_stroke, b_earns_stroke, PySem.W.mg_of X G a_earns_stroke, F_Referee_init, b_Referee_init, F_Reader_init, b_Reader_init, F_Reader_at_end, b_Reader_at_end, ⟨a_Reader_at_end, i_Reader_at_end, k_Reader_at_end⟩, F_Reader_number, b_Reader_number, ⟨a_Reader_number, i_Reader_number, k_Reader_number⟩, F_Reader_row, b_Reader_row, ⟨a_Reader_row, i_Reader_row, k_Reader_row⟩, F_Reader_stroke, b_Reader_stroke, ⟨a_Reader_stroke, i_Reader_stroke, k_Reader_stroke⟩, F_no_game_goes_on, b_no_game_goes_on, PySem.W.mg_of X G a_no_game_goes_on, F_refusal_of_begin, b_refusal_of_begin, PySem.W.mg_of X G a_refusal_of_begin, F_refusal_of_turn, b_refusal_of_turn, PySem.W.mg_of X G a_refusal_of_turn, F_refusal_of_stroke, b_refusal_of_stroke, PySem.W.mg_of X G a_refusal_of_stroke, F_is_in_range, b_is_in_range, PySem.W.mg_of X G a_is_in_range, F_can_have_been, b_can_have_been, PySem.W.mg_of X G a_can_have_been, F_can_be_told, b_can_be_told, PySem.W.mg_of X G a_can_be_told, F_refusal_between_turns, b_refusal_between_turns, PySem.W.mg_of X G a_refusal_between_turns, F_refusal_of_time, b_refusal_of_time, PySem.W.mg_of X G a_refusal_of_time, F_refusal_of_more, b_refusal_of_more, PySem.W.mg_of X G a_refusal_of_more, F_answer_begin, b_answer_begin, PySem.W.mg_of X G a_answer_begin, F_answer_turn, b_answer_turn, PySem.W.mg_of X G a_answer_turn, F_answer_stroke, b_answer_stroke, PySem.W.mg_of X G a_answer_stroke, F_answer_pass, b_answer_pass, PySem.W.mg_of X G a_answer_pass, F_answer_more, b_answer_more, PySem.W.mg_of X G a_answer_more, F_answer_wired, b_answer_wired, PySem.W.mg_of X G a_answer_wired, F_answer_time, b_answer_time, PySem.W.mg_of X G a_answer_time, F_answer_now, b_answer_now, PySem.W.mg_of X G a_answer_now, F_told_of_turn, b_told_of_turn, PySem.W.mg_of X G a_told_of_turn, F_answer_balls, b_answer_balls, PySem.W.mg_of X G a_answer_balls, F_answer_call, b_answer_call, PySem.W.mg_of X G a_answer_call, F_answers, b_answers, PySem.W.mg_of X G a_answers, ⟨pg_Stroke, hd_Stroke, po_Stroke, sa_Stroke⟩, PySem.W.mg_of X G aC_Stroke, ⟨mk_Stroke, a_Stroke_init, i_Stroke_init, kc_Stroke⟩, n_Stroke_fault, n_Stroke_hit, n_Stroke_hoop, n_Stroke_off, n_Stroke_peg, n_Stroke_ran, ⟨pg_Turn, hd_Turn, po_Turn, sa_Turn⟩, PySem.W.mg_of X G aC_Turn, ⟨mk_Turn, a_Turn_init, i_Turn_init, kc_Turn⟩, n_Turn_ball, n_Turn_beside, n_Turn_half, n_Turn_hoops_before, n_Turn_live, n_Turn_partner_before, n_Turn_strokes, ⟨pg_Game, hd_Game, po_Game, sa_Game⟩, PySem.W.mg_of X G aC_Game, ⟨mk_Game, a_Game_init, i_Game_init, kc_Game⟩, n_Game_half_turns, n_Game_last_ball, n_Game_lifts, n_Game_owed, n_Game_points, n_Game_side, n_Game_time, n_Game_turn, n_Game_winner, ⟨pg_Referee, hd_Referee, po_Referee, sa_Referee⟩, PySem.W.mg_of X G aC_Referee, ⟨mk_Referee, a_Referee_init, i_Referee_init, kc_Referee⟩, n_Referee_game, ⟨pg_Reader, hd_Reader, po_Reader, sa_Reader⟩, PySem.W.mg_of X G aC_Reader, ⟨mk_Reader, a_Reader_init, i_Reader_init, kc_Reader⟩, n_Reader_calls, n_Reader_place, PySem.W.mg_of X G v_BALLS, PySem.W.mg_of X G v_NO_BALL, PySem.W.mg_of X G v_NO_SIDE, PySem.W.mg_of X G v_ALL_HOOPS, PySem.W.mg_of X G v_OUT, PySem.W.mg_of X G v_FIRST_LIFT, PySem.W.mg_of X G v_SECOND_LIFT, PySem.W.mg_of X G v_LIFT, PySem.W.mg_of X G v_LIFT_TO_A_BALL, PySem.W.mg_of X G v_BY_ITSELF, PySem.W.mg_of X G v_BALL_AT_SIDE, PySem.W.mg_of X G v_TURN_OVER, PySem.W.mg_of X G v_GAME_OVER, PySem.W.mg_of X G v_TIME_NOT_CALLED, PySem.W.mg_of X G v_TIME_CALLED, PySem.W.mg_of X G v_TIME_LAST_TURN, PySem.W.mg_of X G v_TIME_TILL_ONE_HAS_MORE, PySem.W.mg_of X G v_MOST_HALF_TURNS, PySem.W.mg_of X G v_BALLS_TOLD, PySem.W.mg_of X G v_CALLS, fun H => tup_sq w_BALLS, tab_of w_CALLS, PySem.W.mg_none_of X G z_len, PySem.W.mg_none_of X G z_min, PySem.W.mg_none_of X G z_max, PySem.W.mg_none_of X G z_all, PySem.W.mg_none_of X G z_any, PySem.W.mg_none_of X G z_set⟩, (Value.ref.inj (Option.some.inj e)).symm⟩
theorem Fun.bindsTo {K : PySem.W.Frag} {x qual : Str} {st : Stmt} {f : Addr} {fd : FuncData} {ps : List Str} (F : Fun K x qual st f fd)
    (h : ∀ (kV doc pm : Value) (an : Option Addr) (cdv ct : Value) (us : List Value), us.length = ps.length → bindArgs (PySem.W.fnOf x qual (defArgs st) (defBody st) (defScope st) .none kV doc pm an cdv ct) ⟨us, []⟩ = pure (ps.zip us)) (s : Shared) (us : List Value) (hl : us.length = ps.length) : BindsTo s fd ⟨us, []⟩ (ps.zip us) := by
  obtain ⟨oc, od, kV, doc, pm, an, cdv, ct, osl, rfl, lk, hcd⟩ := F.ex
  exact .of_eq (h kV doc pm an cdv ct us hl)
end Hg
namespace Hg
open PySem PySem.Spec PyProof.Rows L2
theorem sqF_of {K : PySem.W.Frag} {H : Hp} {c : Addr} {xs : List V} (hO : OnlyF H) (h : SqL K H c xs) : SqF K H c xs := by
  rcases h with (h | ⟨ob, h⟩) | h
  · rcases hO c with z | ⟨ob, u, z⟩
    · rw [h] at z; cases z
    · rw [h] at z; cases z
  · exact .inl ⟨ob, h⟩
  · exact .inr h
theorem fin_mk {P : Program} {w : World} {K : PySem.W.Frag} {mg : Str → Option Value} {fa : Addr} (h : ∃ a : Adr, Txt K mg a ∧ a.answers = fa) :
    ∃ fd : FuncData, (∀ (s : Shared) (us : List Value), us.length = (["calls"] : List Str).length → BindsTo s fd ⟨us, []⟩ ((["calls"] : List Str).zip us)) ∧ ∀ base : Heap, K.In base → base.Ns mainGlobals mg → FnOk P w K mg base CX0 9 fa fd ["calls"] (sp_answers K) := by
  obtain ⟨a, T, e⟩ := h
  subst e
  exact ⟨a.answers_d, Fun.bindsTo T.F_answers fun _ _ _ _ _ _ us hl => match us, hl with | [_], _ => rfl, fun base _ _ => ok_answers T⟩
end Hg
/-! Names taken, so that the head lays no copy of the heap and of its trees (heap_1, heap_477, tree_474, tree_415, tree_330, tree_272, tree_249, tree_207): the compiled file would pass 64 MiB by them. -/
def PySem.W.Fast.tw10284148837142942346 : Nat := 0
def PySem.W.Fast.tw15436306009838426977 : Nat := 0
def PySem.W.Fast.tw13252883693720485148 : Nat := 0
def PySem.W.Fast.tw2906405237343471476 : Nat := 0
def PySem.W.Fast.tw3733349029456313233 : Nat := 0
def PySem.W.Fast.tw5206253895688886895 : Nat := 0
def PySem.W.Fast.tw17043695415036352934 : Nat := 0
def PySem.W.Fast.tw6260149322388238325 : Nat := 0
open PySem PySem.W PyProof.Rows
set_option maxRecDepth 100000 in
set_option maxHeartbeats 0 in
theorem PySem.Challenge.cw_hoopgame_s01_answers_holds : PySem.Challenge.rw_hoopgame_s01_answers.Holds := by
  w_on; k_headS; (case hw => exact ⟨[.list [.int 4]], by decide +kernel, by decide +kernel⟩)
  k_fillS
  refine L2.walk_specK (r := PySem.Challenge.rw_hoopgame_s01_answers) (k := 9) (CX := L2.CX0) (ps := ["calls"]) (sp := Hg.sp_answers) (by decide +kernel) rfl rfl ⟨rfl, by decide, by decide⟩ (fun w h Y => PySem.W.kIn_of Y) ?F ?S (fun _ _ _ _ z => z)
  case F =>
    intro w mg fa h Y KX G hmg
    refine Hg.fin_mk ?_
    refine' Hg.all_mk KX G hmg ?aC_Stroke ?aC_Turn ?aC_Game ?aC_Referee ?aC_Reader ?a_Stroke_init ?i_Stroke_init ?l_Stroke_init ?c_Stroke_init ?k_Stroke_init ?a_Turn_init ?i_Turn_init ?l_Turn_init ?c_Turn_init ?k_Turn_init ?a_Game_init ?i_Game_init ?l_Game_init ?c_Game_init ?k_Game_init ?a_Game_is_out ?i_Game_is_out ?l_Game_is_out ?c_Game_is_out ?k_Game_is_out ?a_Game_others_in_play ?i_Game_others_in_play ?l_Game_others_in_play ?c_Game_others_in_play ?k_Game_others_in_play ?a_Game_side_points ?i_Game_side_points ?l_Game_side_points ?c_Game_side_points ?k_Game_side_points ?a_Game_leader ?i_Game_leader ?l_Game_leader ?c_Game_leader ?k_Game_leader ?a_Game_state ?i_Game_state ?l_Game_state ?c_Game_state ?k_Game_state ?a_side_of ?l_side_of ?c_side_of ?k_side_of ?a_partner_of ?l_partner_of ?c_partner_of ?k_partner_of ?a_begin_turn ?l_begin_turn ?c_begin_turn ?k_begin_turn ?a_hand_over ?l_hand_over ?c_hand_over ?k_hand_over ?a_pass_turn ?l_pass_turn ?c_pass_turn ?k_pass_turn ?a_end_turn ?l_end_turn ?c_end_turn ?k_end_turn ?a_find_wired ?l_find_wired ?c_find_wired ?k_find_wired ?a_call_time ?l_call_time ?c_call_time ?k_call_time ?a_owed_for ?l_owed_for ?c_owed_for ?k_owed_for ?a_price_of ?l_price_of ?c_price_of ?k_price_of ?a_take_turn_more ?l_take_turn_more ?c_take_turn_more ?k_take_turn_more ?a_play_stroke ?l_play_stroke ?c_play_stroke ?k_play_stroke ?a_hoop_counts ?l_hoop_counts ?c_hoop_counts ?k_hoop_counts ?a_live_as_it_hits ?l_live_as_it_hits ?c_live_as_it_hits ?k_live_as_it_hits ?a_count_points ?l_count_points ?c_count_points ?k_count_points ?a_winner_behind_stroke ?l_winner_behind_stroke ?c_winner_behind_stroke ?k_winner_behind_stroke ?a_prepare_next_stroke ?l_prepare_next_stroke ?c_prepare_next_stroke ?k_prepare_next_stroke ?a_loses_turn ?l_loses_turn ?c_loses_turn ?k_loses_turn ?a_earns_stroke ?l_earns_stroke ?c_earns_stroke ?k_earns_stroke ?a_Referee_init ?i_Referee_init ?l_Referee_init ?c_Referee_init ?k_Referee_init ?a_Reader_init ?i_Reader_init ?l_Reader_init ?c_Reader_init ?k_Reader_init ?a_Reader_at_end ?i_Reader_at_end ?l_Reader_at_end ?c_Reader_at_end ?k_Reader_at_end ?a_Reader_number ?i_Reader_number ?l_Reader_number ?c_Reader_number ?k_Reader_number ?a_Reader_row ?i_Reader_row ?l_Reader_row ?c_Reader_row ?k_Reader_row ?a_Reader_stroke ?i_Reader_stroke ?l_Reader_stroke ?c_Reader_stroke ?k_Reader_stroke ?a_no_game_goes_on ?l_no_game_goes_on ?c_no_game_goes_on ?k_no_game_goes_on ?a_refusal_of_begin ?l_refusal_of_begin ?c_refusal_of_begin ?k_refusal_of_begin ?a_refusal_of_turn ?l_refusal_of_turn ?c_refusal_of_turn ?k_refusal_of_turn ?a_refusal_of_stroke ?l_refusal_of_stroke ?c_refusal_of_stroke ?k_refusal_of_stroke ?a_is_in_range ?l_is_in_range ?c_is_in_range ?k_is_in_range ?a_can_have_been ?l_can_have_been ?c_can_have_been ?k_can_have_been ?a_can_be_told ?l_can_be_told ?c_can_be_told ?k_can_be_told ?a_refusal_between_turns ?l_refusal_between_turns ?c_refusal_between_turns ?k_refusal_between_turns ?a_refusal_of_time ?l_refusal_of_time ?c_refusal_of_time ?k_refusal_of_time ?a_refusal_of_more ?l_refusal_of_more ?c_refusal_of_more ?k_refusal_of_more ?a_answer_begin ?l_answer_begin ?c_answer_begin ?k_answer_begin ?a_answer_turn ?l_answer_turn ?c_answer_turn ?k_answer_turn ?a_answer_stroke ?l_answer_stroke ?c_answer_stroke ?k_answer_stroke ?a_answer_pass ?l_answer_pass ?c_answer_pass ?k_answer_pass ?a_answer_more ?l_answer_more ?c_answer_more ?k_answer_more ?a_answer_wired ?l_answer_wired ?c_answer_wired ?k_answer_wired ?a_answer_time ?l_answer_time ?c_answer_time ?k_answer_time ?a_answer_now ?l_answer_now ?c_answer_now ?k_answer_now ?a_told_of_turn ?l_told_of_turn ?c_told_of_turn ?k_told_of_turn ?a_answer_balls ?l_answer_balls ?c_answer_balls ?k_answer_balls ?a_answer_call ?l_answer_call ?c_answer_call ?k_answer_call ?a_answers ?l_answers ?c_answers ?k_answers ?pg_Stroke ?hd_Stroke ?po_Stroke ?sa_Stroke ?mk_Stroke ?kc_Stroke ?n_Stroke_fault ?n_Stroke_hit ?n_Stroke_hoop ?n_Stroke_off ?n_Stroke_peg ?n_Stroke_ran ?pg_Turn ?hd_Turn ?po_Turn ?sa_Turn ?mk_Turn ?kc_Turn ?n_Turn_ball ?n_Turn_beside ?n_Turn_half ?n_Turn_hoops_before ?n_Turn_live ?n_Turn_partner_before ?n_Turn_strokes ?pg_Game ?hd_Game ?po_Game ?sa_Game ?mk_Game ?kc_Game ?n_Game_half_turns ?n_Game_last_ball ?n_Game_lifts ?n_Game_owed ?n_Game_points ?n_Game_side ?n_Game_time ?n_Game_turn ?n_Game_winner ?pg_Referee ?hd_Referee ?po_Referee ?sa_Referee ?mk_Referee ?kc_Referee ?n_Referee_game ?pg_Reader ?hd_Reader ?po_Reader ?sa_Reader ?mk_Reader ?kc_Reader ?n_Reader_calls ?n_Reader_place ?v_BALLS ?w_BALLS ?v_NO_BALL ?v_NO_SIDE ?v_ALL_HOOPS ?v_OUT ?v_FIRST_LIFT ?v_SECOND_LIFT ?v_LIFT ?v_LIFT_TO_A_BALL ?v_BY_ITSELF ?v_BALL_AT_SIDE ?v_TURN_OVER ?v_GAME_OVER ?v_TIME_NOT_CALLED ?v_TIME_CALLED ?v_TIME_LAST_TURN ?v_TIME_TILL_ONE_HAS_MORE ?v_MOST_HALF_TURNS ?v_BALLS_TOLD ?v_CALLS ?w_CALLS ?z_len ?z_min ?z_max ?z_all ?z_any ?z_set
    (case aC_Stroke => k_is)
    (case aC_Turn => k_is)
    (case aC_Game => k_is)
    (case aC_Referee => k_is)
    (case aC_Reader => k_is)
    (case a_Stroke_init => k_is)
    (case i_Stroke_init => k_is)
    (case l_Stroke_init => k_is)
    (case c_Stroke_init => k_is)
    (case k_Stroke_init => k_is)
    (case a_Turn_init => k_is)
    (case i_Turn_init => k_is)
    (case l_Turn_init => k_is)
    (case c_Turn_init => k_is)
    (case k_Turn_init => k_is)
    (case a_Game_init => k_is)
    (case i_Game_init => k_is)
    (case l_Game_init => k_is)
    (case c_Game_init => k_is)
    (case k_Game_init => k_is)
    (case a_Game_is_out => k_is)
    (case i_Game_is_out => k_is)
    (case l_Game_is_out => k_is)
    (case c_Game_is_out => k_is)
    (case k_Game_is_out => k_is)
    (case a_Game_others_in_play => k_is)
    (case i_Game_others_in_play => k_is)
    (case l_Game_others_in_play => k_is)
    (case c_Game_others_in_play => k_is)
    (case k_Game_others_in_play => k_is)
    (case a_Game_side_points => k_is)
    (case i_Game_side_points => k_is)
    (case l_Game_side_points => k_is)
    (case c_Game_side_points => k_is)
    (case k_Game_side_points => k_is)
    (case a_Game_leader => k_is)
    (case i_Game_leader => k_is)
    (case l_Game_leader => k_is)
    (case c_Game_leader => k_is)
    (case k_Game_leader => k_is)
    (case a_Game_state => k_is)
    (case i_Game_state => k_is)
    (case l_Game_state => k_is)
    (case c_Game_state => k_is)
    (case k_Game_state => k_is)
    (case a_side_of => k_is)
    (case l_side_of => k_is)
    (case c_side_of => k_is)
    (case k_side_of => k_is)
    (case a_partner_of => k_is)
    (case l_partner_of => k_is)
    (case c_partner_of => k_is)
    (case k_partner_of => k_is)
    (case a_begin_turn => k_is)
    (case l_begin_turn => k_is)
    (case c_begin_turn => k_is)
    (case k_begin_turn => k_is)
    (case a_hand_over => k_is)
    (case l_hand_over => k_is)
    (case c_hand_over => k_is)
    (case k_hand_over => k_is)
    (case a_pass_turn => k_is)
    (case l_pass_turn => k_is)
    (case c_pass_turn => k_is)
    (case k_pass_turn => k_is)
    (case a_end_turn => k_is)
    (case l_end_turn => k_is)
    (case c_end_turn => k_is)
    (case k_end_turn => k_is)
    (case a_find_wired => k_is)
    (case l_find_wired => k_is)
    (case c_find_wired => k_is)
    (case k_find_wired => k_is)
    (case a_call_time => k_is)
    (case l_call_time => k_is)
    (case c_call_time => k_is)
    (case k_call_time => k_is)
    (case a_owed_for => k_is)
    (case l_owed_for => k_is)
    (case c_owed_for => k_is)
    (case k_owed_for => k_is)
    (case a_price_of => k_is)
    (case l_price_of => k_is)
    (case c_price_of => k_is)
    (case k_price_of => k_is)
    (case a_take_turn_more => k_is)
    (case l_take_turn_more => k_is)
    (case c_take_turn_more => k_is)
    (case k_take_turn_more => k_is)
    (case a_play_stroke => k_is)
    (case l_play_stroke => k_is)
    (case c_play_stroke => k_is)
    (case k_play_stroke => k_is)
    (case a_hoop_counts => k_is)
    (case l_hoop_counts => k_is)
    (case c_hoop_counts => k_is)
    (case k_hoop_counts => k_is)
    (case a_live_as_it_hits => k_is)
    (case l_live_as_it_hits => k_is)
    (case c_live_as_it_hits => k_is)
    (case k_live_as_it_hits => k_is)
    (case a_count_points => k_is)
    (case l_count_points => k_is)
    (case c_count_points => k_is)
    (case k_count_points => k_is)
    (case a_winner_behind_stroke => k_is)
    (case l_winner_behind_stroke => k_is)
    (case c_winner_behind_stroke => k_is)
    (case k_winner_behind_stroke => k_is)
    (case a_prepare_next_stroke => k_is)
    (case l_prepare_next_stroke => k_is)
    (case c_prepare_next_stroke => k_is)
    (case k_prepare_next_stroke => k_is)
    (case a_loses_turn => k_is)
    (case l_loses_turn => k_is)
    (case c_loses_turn => k_is)
    (case k_loses_turn => k_is)
    (case a_earns_stroke => k_is)
    (case l_earns_stroke => k_is)
    (case c_earns_stroke => k_is)
    (case k_earns_stroke => k_is)
    (case a_Referee_init => k_is)
    (case i_Referee_init => k_is)
    (case l_Referee_init => k_is)
    (case c_Referee_init => k_is)
    (case k_Referee_init => k_is)
    (case a_Reader_init => k_is)
    (case i_Reader_init => k_is)
    (case l_Reader_init => k_is)
    (case c_Reader_init => k_is)
    (case k_Reader_init => k_is)
    (case a_Reader_at_end => k_is)
    (case i_Reader_at_end => k_is)
    (case l_Reader_at_end => k_is)
    (case c_Reader_at_end => k_is)
    (case k_Reader_at_end => k_is)
    (case a_Reader_number => k_is)
    (case i_Reader_number => k_is)
    (case l_Reader_number => k_is)
    (case c_Reader_number => k_is)
    (case k_Reader_number => k_is)
    (case a_Reader_row => k_is)
    (case i_Reader_row => k_is)
    (case l_Reader_row => k_is)
    (case c_Reader_row => k_is)
    (case k_Reader_row => k_is)
    (case a_Reader_stroke => k_is)
    (case i_Reader_stroke => k_is)
    (case l_Reader_stroke => k_is)
    (case c_Reader_stroke => k_is)
    (case k_Reader_stroke => k_is)
    (case a_no_game_goes_on => k_is)
    (case l_no_game_goes_on => k_is)
    (case c_no_game_goes_on => k_is)
    (case k_no_game_goes_on => k_is)
    (case a_refusal_of_begin => k_is)
    (case l_refusal_of_begin => k_is)
    (case c_refusal_of_begin => k_is)
    (case k_refusal_of_begin => k_is)
    (case a_refusal_of_turn => k_is)
    (case l_refusal_of_turn => k_is)
    (case c_refusal_of_turn => k_is)
    (case k_refusal_of_turn => k_is)
    (case a_refusal_of_stroke => k_is)
    (case l_refusal_of_stroke => k_is)
    (case c_refusal_of_stroke => k_is)
    (case k_refusal_of_stroke => k_is)
    (case a_is_in_range => k_is)
    (case l_is_in_range => k_is)
    (case c_is_in_range => k_is)
    (case k_is_in_range => k_is)
    (case a_can_have_been => k_is)
    (case l_can_have_been => k_is)
    (case c_can_have_been => k_is)
    (case k_can_have_been => k_is)
    (case a_can_be_told => k_is)
    (case l_can_be_told => k_is)
    (case c_can_be_told => k_is)
    (case k_can_be_told => k_is)
    (case a_refusal_between_turns => k_is)
    (case l_refusal_between_turns => k_is)
    (case c_refusal_between_turns => k_is)
    (case k_refusal_between_turns => k_is)
    (case a_refusal_of_time => k_is)
    (case l_refusal_of_time => k_is)
    (case c_refusal_of_time => k_is)
    (case k_refusal_of_time => k_is)
    (case a_refusal_of_more => k_is)
    (case l_refusal_of_more => k_is)
    (case c_refusal_of_more => k_is)
    (case k_refusal_of_more => k_is)
    (case a_answer_begin => k_is)
    (case l_answer_begin => k_is)
    (case c_answer_begin => k_is)
    (case k_answer_begin => k_is)
    (case a_answer_turn => k_is)
    (case l_answer_turn => k_is)
    (case c_answer_turn => k_is)
    (case k_answer_turn => k_is)
    (case a_answer_stroke => k_is)
    (case l_answer_stroke => k_is)
    (case c_answer_stroke => k_is)
    (case k_answer_stroke => k_is)
    (case a_answer_pass => k_is)
    (case l_answer_pass => k_is)
    (case c_answer_pass => k_is)
    (case k_answer_pass => k_is)
    (case a_answer_more => k_is)
    (case l_answer_more => k_is)
    (case c_answer_more => k_is)
    (case k_answer_more => k_is)
    (case a_answer_wired => k_is)
    (case l_answer_wired => k_is)
    (case c_answer_wired => k_is)
    (case k_answer_wired => k_is)
    (case a_answer_time => k_is)
    (case l_answer_time => k_is)
    (case c_answer_time => k_is)
    (case k_answer_time => k_is)
    (case a_answer_now => k_is)
    (case l_answer_now => k_is)
    (case c_answer_now => k_is)
    (case k_answer_now => k_is)
    (case a_told_of_turn => k_is)
    (case l_told_of_turn => k_is)
    (case c_told_of_turn => k_is)
    (case k_told_of_turn => k_is)
    (case a_answer_balls => k_is)
    (case l_answer_balls => k_is)
    (case c_answer_balls => k_is)
    (case k_answer_balls => k_is)
    (case a_answer_call => k_is)
    (case l_answer_call => k_is)
    (case c_answer_call => k_is)
    (case k_answer_call => k_is)
    (case a_answers => k_is)
    (case l_answers => k_is)
    (case c_answers => k_is)
    (case k_answers => k_is)
    (case pg_Stroke => k_is)
    (case hd_Stroke => k_is)
    (case po_Stroke => k_is)
    (case sa_Stroke => k_is)
    (case mk_Stroke => k_is)
    (case kc_Stroke => k_is)
    (case n_Stroke_fault => k_is)
    (case n_Stroke_hit => k_is)
    (case n_Stroke_hoop => k_is)
    (case n_Stroke_off => k_is)
    (case n_Stroke_peg => k_is)
    (case n_Stroke_ran => k_is)
    (case pg_Turn => k_is)
    (case hd_Turn => k_is)
    (case po_Turn => k_is)
    (case sa_Turn => k_is)
    (case mk_Turn => k_is)
    (case kc_Turn => k_is)
    (case n_Turn_ball => k_is)
    (case n_Turn_beside => k_is)
    (case n_Turn_half => k_is)
    (case n_Turn_hoops_before => k_is)
    (case n_Turn_live => k_is)
    (case n_Turn_partner_before => k_is)
    (case n_Turn_strokes => k_is)
    (case pg_Game => k_is)
    (case hd_Game => k_is)
    (case po_Game => k_is)
    (case sa_Game => k_is)
    (case mk_Game => k_is)
    (case kc_Game => k_is)
    (case n_Game_half_turns => k_is)
    (case n_Game_last_ball => k_is)
    (case n_Game_lifts => k_is)
    (case n_Game_owed => k_is)
    (case n_Game_points => k_is)
    (case n_Game_side => k_is)
    (case n_Game_time => k_is)
    (case n_Game_turn => k_is)
    (case n_Game_winner => k_is)
    (case pg_Referee => k_is)
    (case hd_Referee => k_is)
    (case po_Referee => k_is)
    (case sa_Referee => k_is)
    (case mk_Referee => k_is)
    (case kc_Referee => k_is)
    (case n_Referee_game => k_is)
    (case pg_Reader => k_is)
    (case hd_Reader => k_is)
    (case po_Reader => k_is)
    (case sa_Reader => k_is)
    (case mk_Reader => k_is)
    (case kc_Reader => k_is)
    (case n_Reader_calls => k_is)
    (case n_Reader_place => k_is)
    (case v_BALLS => k_is)
    (case w_BALLS => k_is)
    (case v_NO_BALL => k_is)
    (case v_NO_SIDE => k_is)
    (case v_ALL_HOOPS => k_is)
    (case v_OUT => k_is)
    (case v_FIRST_LIFT => k_is)
    (case v_SECOND_LIFT => k_is)
    (case v_LIFT => k_is)
    (case v_LIFT_TO_A_BALL => k_is)
    (case v_BY_ITSELF => k_is)
    (case v_BALL_AT_SIDE => k_is)
    (case v_TURN_OVER => k_is)
    (case v_GAME_OVER => k_is)
    (case v_TIME_NOT_CALLED => k_is)
    (case v_TIME_CALLED => k_is)
    (case v_TIME_LAST_TURN => k_is)
    (case v_TIME_TILL_ONE_HAS_MORE => k_is)
    (case v_MOST_HALF_TURNS => k_is)
    (case v_BALLS_TOLD => k_is)
    (case v_CALLS => k_is)
    (case w_CALLS => k_is)
    (case z_len => k_is)
    (case z_min => k_is)
    (case z_max => k_is)
    (case z_all => k_is)
    (case z_any => k_is)
    (case z_set => k_is)
  case S =>
    intro K H xs a hO hwi hask hx
    cases hx with
    | cons h1 h2 =>
      cases h2
      cases h1 with
      | lst hs ha =>
        have e := L2.ints_dw a.1 _ ha
        subst e
        have q : ((Codec.inLen 0 30000 a.1 && a.1.all (Codec.inInt (-2147483648) 2147483647)) && true) = true := hwi
        rw [Bool.and_eq_true, Bool.and_eq_true] at q
        exact ⟨_, a.1, rfl, Hg.sqF_of hO hs, (Codec.inNat_iff.mp q.1.1).2, hask, fun H' p hp => .lst (L2.SqL.of hp) (L2.dw_ints _)⟩

#print axioms PySem.Challenge.cw_hoopgame_s01_answers_holds
