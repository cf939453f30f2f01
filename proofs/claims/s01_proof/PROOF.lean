import PyProof.Rows.All
import Wide.All
import OpenK.AllK
import Wide.FinOn
import PyProof.EqAt
import PyProof.EqKinds
import PyProof.TupleCall
import KE.BitLaws
import KE.OsGo
import Open.SpecLaws
import KE.OsHead
import PySem.Challenge.RW_outlinetexts_s01_answers
import PyWqande
set_option Elab.async false
set_option linter.all false
set_option maxRecDepth 100000
namespace L2
open PySem PySem.Spec PyProof.Rows
abbrev Key := Sum Int Str
def keyIs : Key → Value → Bool
  | .inl k, v => Value.isInt k v
  | .inr x, v => Value.isStrOf x v
def keyH (w : World) : Key → Int
  | .inl k => hashInt k
  | .inr x => hashStr w x
theorem keyIs_shape : ∀ {k : Key} {v : Value}, keyIs k v = true → (∃ i t, k = Sum.inl i ∧ v = Value.int i t) ∨ (∃ x t, k = Sum.inr x ∧ v = Value.str x t)
  | .inl i, v, h => by
    obtain ⟨t, e⟩ := Value.isInt_shape (k := i) (v := v) h
    exact .inl ⟨i, t, rfl, e⟩
  | .inr x, v, h => by
    obtain ⟨t, e⟩ := Value.isStrOf_shape (x := x) (v := v) h
    exact .inr ⟨x, t, rfl, e⟩
theorem key_ll (a b : Int) : decide ((Sum.inl a : Key) = Sum.inl b) = (a == b) := by
  by_cases e : a = b
  · subst e; simp
  · have h : ¬ (Sum.inl a : Key) = Sum.inl b := fun q => e (Sum.inl.inj q)
    rw [decide_eq_false h]
    exact (beq_eq_false_iff_ne.mpr e).symm
theorem key_rr (a b : Str) : decide ((Sum.inr a : Key) = Sum.inr b) = decide (a = b) := by
  by_cases e : a = b
  · subst e; simp
  · have h : ¬ (Sum.inr a : Key) = Sum.inr b := fun q => e (Sum.inr.inj q)
    rw [decide_eq_false h, decide_eq_false e]
theorem key_lr (a : Int) (b : Str) : decide ((Sum.inl a : Key) = Sum.inr b) = false := decide_eq_false (fun q => nomatch q)
theorem key_rl (a : Str) (b : Int) : decide ((Sum.inr a : Key) = Sum.inl b) = false := decide_eq_false (fun q => nomatch q)
def mixKind (prog : Program) (w : World) : PySem.KeyKind prog w Key where
  is := keyIs
  hash := keyH w
  inj := fun v a b ha hb => by
    rcases keyIs_shape ha with ⟨i, t, rfl, rfl⟩ | ⟨x, t, rfl, rfl⟩
    · rcases keyIs_shape hb with ⟨j, u, rfl, e⟩ | ⟨y, u, rfl, e⟩
      · injection e with e1 _; rw [e1]
      · exact nomatch e
    · rcases keyIs_shape hb with ⟨j, u, rfl, e⟩ | ⟨y, u, rfl, e⟩
      · exact nomatch e
      · injection e with e1 _; rw [e1]
  byValue := fun k v h => by
    rcases keyIs_shape h with ⟨i, t, rfl, rfl⟩ | ⟨x, t, rfl, rfl⟩ <;> rfl
  pyHash := fun hv h => by
    rcases keyIs_shape hv with ⟨i, t, rfl, rfl⟩ | ⟨x, t, rfl, rfl⟩
    · exact wpAny_pyHash_int h
    · exact wpAny_pyHash_str h
  eqBool := fun hu hv h => by
    rcases keyIs_shape hu with ⟨i, t, rfl, rfl⟩ | ⟨x, t, rfl, rfl⟩
    · rcases keyIs_shape hv with ⟨j, u, rfl, rfl⟩ | ⟨y, u, rfl, rfl⟩
      · rw [key_ll] at h; exact wpAny_eqBool_int h
      · rw [key_lr] at h; exact SeqAt.EqAt.int_str i t y u _ _ _ _ h
    · rcases keyIs_shape hv with ⟨j, u, rfl, rfl⟩ | ⟨y, u, rfl, rfl⟩
      · rw [key_rl] at h; exact SeqAt.EqAt.str_int x t j u _ _ _ _ h
      · rw [key_rr] at h; exact wpAny_eqBool_str h
  «strs» := fun k x t v h => by
    rcases keyIs_shape h with ⟨i, u, rfl, e⟩ | ⟨y, u, rfl, e⟩
    · exact nomatch e
    · injection e with e1 _
      subst e1
      cases v <;> rfl
end L2
namespace L2
open PySem PySem.Spec PyProof.Rows
inductive V where
  | non | bl (b : Bool) | int (i : Int) | str (x : Str) | byt (b : Array UInt8) | flt (b : UInt64) | ref (a : Addr) | ty (n : String)
  deriving DecidableEq
def RelV : V → Value → Prop
  | .non, u => u = Value.none
  | .bl b, u => u = Value.bool b
  | .int i, u => ∃ t, u = Value.int i t
  | .str x, u => ∃ t, u = Value.str x t
  | .byt b, u => ∃ t, u = Value.bytes b t
  | .flt b, u => ∃ t, u = Value.float b t
  | .ref a, u => u = Value.ref a
  | .ty n, u => u = Value.type n
abbrev Vals : List V → List Value → Prop := Paired RelV
theorem Vals.length {xs : List V} {us : List Value} (r : Vals xs us) : xs.length = us.length := Paired.length r
theorem Vals.get : ∀ {xs : List V} {us : List Value} {i : Nat} {x : V}, Vals xs us → xs[i]? = some x → ∃ u, us[i]? = some u ∧ RelV x u
  | _, _, _, _, .nil, e => by simp at e
  | _, _, 0, _, .cons r _, e => by simp at e; subst e; exact ⟨_, rfl, r⟩
  | _, _, i + 1, x, .cons _ t, e => by
    obtain ⟨u, h1, h2⟩ := Vals.get (i := i) (x := x) t (by simpa using e)
    exact ⟨u, by simpa using h1, h2⟩
theorem Vals.set {x : V} {u : Value} (r : RelV x u) : ∀ {xs : List V} {us : List Value} (i : Nat), Vals xs us → Vals (xs.set i x) (us.set i u)
  | _, _, _, .nil => .nil
  | _, _, 0, .cons _ t => .cons r t
  | _, _, i + 1, .cons q t => .cons q (Vals.set r i t)
theorem Vals.append : ∀ {xs ys : List V} {us ws : List Value}, Vals xs us → Vals ys ws → Vals (xs ++ ys) (us ++ ws)
  | _, _, _, _, .nil, s => s
  | _, _, _, _, .cons r t, s => .cons r (Vals.append t s)
theorem Vals.take : ∀ {xs : List V} {us : List Value} (n : Nat), Vals xs us → Vals (xs.take n) (us.take n)
  | _, _, 0, _ => .nil
  | _, _, _ + 1, .nil => .nil
  | _, _, n + 1, .cons r t => .cons r (Vals.take n t)
theorem Vals.drop : ∀ {xs : List V} {us : List Value} (n : Nat), Vals xs us → Vals (xs.drop n) (us.drop n)
  | _, _, 0, r => r
  | _, _, _ + 1, .nil => .nil
  | _, _, n + 1, .cons _ t => Vals.drop n t
def RelO : Option V → Option Value → Prop
  | some v, some u => RelV v u
  | none, none => True
  | _, _ => False
def KV {κ : Type} : List (κ × V) → List (κ × Value) → Prop := Paired fun (p : κ × V) (q : κ × Value) => p.1 = q.1 ∧ RelV p.2 q.2
def kV : Key → V
  | .inl i => .int i
  | .inr x => .str x
inductive HO where
  /-- a list -/
  | lst (xs : List V)
  /-- a tuple (never changes) -/
  | tup (xs : List V)
  /-- a dict whose keys are ints and texts; one whose keys are tuples of ints and texts (the empty one is both) -/
  | dK (kvs : List (Key × V)) | dT (kvs : List (List Key × V))
  /-- a set of ints: its members, its size -/
  | set (S : Int → Bool) (n : Nat)
  /-- an instance of the class at C, its dict at dx, its attributes -/
  | ins (C dx : Addr) (fs : List (Str × V))
  /-- the dict of the instance at x -/
  | own (x : Addr)
  /-- the dict of an exception -/
  | xd (fs : List (Str × V))
  /-- a bound method, f of x -/
  | met (f x : Addr)
  /-- a range object lo, lo + 1, .. below hi -/
  | rng (lo hi : Int)
  /-- a thing that is known to the object (the script; a dict while a loop walks it): read, never written while it is so -/
  | frz (o : Obj) (u : HO)
  /-- a code object's table -/
  | tbl (ps : Array Value)
  /-- any other thing, by what is true of its one object (a def of one's own: SetO a S n := HO.ext fun h => ..) -/
  | ext (φ : Heap → Prop)
abbrev Hp := Addr → Option HO
def upd (H : Hp) (a : Addr) (o : HO) : Hp := fun b => if b = a then some o else H b
theorem upd_same {H : Hp} {a : Addr} {o : HO} : upd H a o a = some o := by unfold upd; rw [if_pos rfl]
theorem upd_ne {H : Hp} {a b : Addr} {o : HO} (h : b ≠ a) : upd H a o b = H b := by unfold upd; rw [if_neg h]
theorem upd_upd {H : Hp} {a : Addr} {o u : HO} : upd (upd H a o) a u = upd H a u := by
  funext b; unfold upd; split <;> rfl
theorem ne_of {H : Hp} {a b : Addr} {o u : HO} (h : H a = some o) (h' : H b = some u) (d : o ≠ u) : a ≠ b := by
  intro e; subst e; rw [h] at h'; exact d (Option.some.inj h')
theorem ne_of_none {H : Hp} {a b : Addr} {o : HO} (h : H a = some o) (h' : H b = none) : a ≠ b := by
  intro e; subst e; rw [h] at h'; cases h'
section
variable (P : Program) (w : World)
def ObjOk (H : Hp) (h : Heap) (a : Addr) : HO → Prop
  | .lst xs => xs.length ≤ sizeLine ∧ ∃ (its : List Value) (n : Nat), Vals xs its ∧ h.get? a = some { cls := .type "list", data := .seq its.toArray n }
  | .tup xs => xs.length ≤ sizeLine ∧ ∃ its : List Value, Vals xs its ∧ IsTup h a its.toArray
  | .dK kvs => kvs.length ≤ sizeLine ∧ (a == sysModules) = false ∧ ∃ vs, KV kvs vs ∧ h.DictOf (mixKind P w) a vs
  | .dT kvs => kvs.length ≤ sizeLine ∧ (a == sysModules) = false ∧ ∃ xs : List (List Key × Addr × Value),
      Paired (fun (p : List Key × V) (q : List Key × Addr × Value) => p.1 = q.1 ∧ H q.2.1 = some (.tup (p.1.map kV)) ∧ RelV p.2 q.2.2) kvs xs ∧
      ∃ o es ep, h.get? a = some o ∧ o.ExactDict ∧ o.data = .dict es ep ∧ es.toList = xs.map (entryOfKey (tupleKind (mixKind P w))) ∧ (xs.map (·.1)).Nodup
  | .set S n => h.SetOf (intKind P w) a S n
  | .ins C dx fs => H dx = some (.own a) ∧ fs.length ≤ 1000 ∧ dx ≠ a ∧ h.get? a = some (PySem.W.instObj C dx) ∧
      ∃ mA, h.Ns1 dx mA ∧ (∀ f, RelO (fs.lookup f) (mA f)) ∧ PySem.Within mA (fs.map (·.1))
  | .own _ => ∃ o, h.get? a = some o
  | .xd fs => ∃ mA, h.Ns1 a mA ∧ ∀ f, RelO (fs.lookup f) (mA f)
  | .rng lo hi => ∃ t u v, h.get? a = some { cls := .type "range", data := .fields #[.int lo t, .int hi u, .int 1 v] }
  | .frz o u => h.get? a = some o ∧ ObjOk H h a u
  | .tbl ps => h.get? a = some { cls := .none, data := .fields ps }
  | .met f x => h.get? a = some (PySem.W.methodObj (.ref f) (.ref x))
  | .ext φ => φ h ∧ (∃ o, h.get? a = some o) ∧ ∀ h1 h2 : Heap, φ h1 → (∀ o, h1.get? a = some o → h2.get? a = some o) → φ h2
def HOk (H : Hp) (h : Heap) : Prop := ∀ a o, H a = some o → ObjOk P w H h a o
end
section
variable {P : Program} {w : World} {H H' : Hp} {h h' : Heap} {a : Addr} {o : HO}
theorem ObjOk.lt (x : ObjOk P w H h a o) : a < h.objs.size := by
  cases o with
  | lst xs => obtain ⟨_, _, _, _, e⟩ := x; exact Heap.lt_size e
  | tup xs => obtain ⟨_, _, _, p⟩ := x; exact p.lt
  | dK kvs => obtain ⟨_, _, _, _, o, _, _, e, _⟩ := x; exact Heap.lt_size e
  | dT kvs => obtain ⟨_, _, _, _, o, _, _, e, _⟩ := x; exact Heap.lt_size e
  | set S n => obtain ⟨o, _, _, _, e, _⟩ := x; exact Heap.lt_size e
  | ins C dx fs => obtain ⟨_, _, _, e, _⟩ := x; exact Heap.lt_size e
  | own y => obtain ⟨_, e⟩ := x; exact Heap.lt_size e
  | xd fs => obtain ⟨_, ⟨_, _, _, e, _⟩, _⟩ := x; exact Heap.lt_size e
  | rng lo hi => obtain ⟨_, _, _, e⟩ := x; exact Heap.lt_size e
  | frz ob u => obtain ⟨e, _⟩ := x; exact Heap.lt_size e
  | tbl ps => exact Heap.lt_size (show h.get? a = some _ from x)
  | met f y => exact Heap.lt_size (show h.get? a = some _ from x)
  | ext φ => obtain ⟨_, ⟨_, e⟩, _⟩ := x; exact Heap.lt_size e
theorem Paired.mapP {α β : Type} {F G : α → β → Prop} : ∀ {l₁ : List α} {l₂ : List β}, Paired F l₁ l₂ → (∀ a b, F a b → G a b) → Paired G l₁ l₂
  | _, _, .nil, _ => .nil
  | _, _, .cons r t, f => .cons (f _ _ r) (Paired.mapP t f)
theorem ObjOk.stay (x : ObjOk P w H h a o) (k : ∀ b u, (b = a ∨ H b = some (.own a)) → h.get? b = some u → h'.get? b = some u)
    (ho : ∀ b, H b = some (.own a) → H' b = some (.own a)) (ht : ∀ b xs, H b = some (.tup xs) → H' b = some (.tup xs)) : ObjOk P w H' h' a o := by
  induction o with
  | lst xs => obtain ⟨z, its, n, r, e⟩ := x; exact ⟨z, its, n, r, k _ _ (.inl rfl) e⟩
  | tup xs => obtain ⟨z, its, r, ob, e, c⟩ := x; exact ⟨z, its, r, ob, k _ _ (.inl rfl) e, c⟩
  | dK kvs => obtain ⟨z, y, vs, r, ob, es, ep, e, c⟩ := x; exact ⟨z, y, vs, r, ob, es, ep, k _ _ (.inl rfl) e, c⟩
  | dT kvs =>
    obtain ⟨z, y, xs, r, ob, es, ep, e, c⟩ := x
    exact ⟨z, y, xs, Paired.mapP r fun p q z => ⟨z.1, ht _ _ z.2.1, z.2.2⟩, ob, es, ep, k _ _ (.inl rfl) e, c⟩
  | set S n => obtain ⟨ob, es, ep, t, e, c⟩ := x; exact ⟨ob, es, ep, t, k _ _ (.inl rfl) e, c⟩
  | ins C dx fs =>
    obtain ⟨d, z, ne, e, mA, ⟨od, es, ep, e2, c⟩, r⟩ := x
    exact ⟨ho _ d, z, ne, k _ _ (.inl rfl) e, mA, ⟨od, es, ep, k _ _ (.inr d) e2, c⟩, r⟩
  | own y => obtain ⟨ob, e⟩ := x; exact ⟨ob, k _ _ (.inl rfl) e⟩
  | xd fs => obtain ⟨mA, ⟨od, es, ep, e, c⟩, r⟩ := x; exact ⟨mA, ⟨od, es, ep, k _ _ (.inl rfl) e, c⟩, r⟩
  | rng lo hi => obtain ⟨t, u, v, e⟩ := x; exact ⟨t, u, v, k _ _ (.inl rfl) e⟩
  | frz ob u ih => obtain ⟨e, q⟩ := x; exact ⟨k _ _ (.inl rfl) e, ih q⟩
  | tbl ps =>
    have e : h.get? a = some { cls := .none, data := .fields ps } := x
    show h'.get? a = some { cls := .none, data := .fields ps }
    exact k a _ (.inl rfl) e
  | met f y =>
    have e : h.get? a = some (PySem.W.methodObj (.ref f) (.ref y)) := x
    show h'.get? a = some (PySem.W.methodObj (.ref f) (.ref y))
    exact k a _ (.inl rfl) e
  | ext φ => obtain ⟨p, ⟨o, e⟩, st⟩ := x; exact ⟨st _ _ p fun o q => k _ _ (.inl rfl) q, ⟨o, k _ _ (.inl rfl) e⟩, st⟩
theorem HOk.lt (x : HOk P w H h) (e : H a = some o) : a < h.objs.size := (x a o e).lt
theorem HOk.fresh (x : HOk P w H h) (e : h.objs.size ≤ a) : H a = none := by
  cases q : H a with
  | none => rfl
  | some u => exact absurd (Nat.lt_of_lt_of_le (x.lt q) e) (Nat.lt_irrefl _)
theorem HOk.kept (x : HOk P w H h) (k : ∀ b u, h.get? b = some u → h'.get? b = some u) : HOk P w H h' := fun a o e =>
  (x a o e).stay (fun b u _ q => k b u q) (fun _ q => q) fun _ _ q => q
theorem HOk.laid (x : HOk P w H h) (k : ∀ b u, h.get? b = some u → h'.get? b = some u) (hp : h.objs.size ≤ a) (new : ObjOk P w (upd H a o) h' a o) : HOk P w (upd H a o) h' := fun b u e => by
  have hn := x.fresh hp
  by_cases hb : b = a
  · subst hb; rw [upd_same] at e; cases e; exact new
  · rw [upd_ne hb] at e
    exact (x b u e).stay (fun c v _ q => k c v q) (fun c q => by rw [upd_ne (ne_of_none q hn)]; exact q) fun c xs q => by rw [upd_ne (ne_of_none q hn)]; exact q
end
def Rd (H : Hp) (a : Addr) (u : HO) : Prop := H a = some u ∨ ∃ o, H a = some (.frz o u)
theorem Rd.ok {P : Program} {w : World} {H : Hp} {h : Heap} {a : Addr} {u : HO} (r : Rd H a u) (x : HOk P w H h) : ObjOk P w H h a u := by
  rcases r with r | ⟨o, r⟩
  · exact x a u r
  · obtain ⟨_, q⟩ := x a _ r
    exact q
def Mut : Option HO → Prop
  | some (.lst _) => True
  | some (.dK _) => True
  | some (.dT _) => True
  | some (.set _ _) => True
  | some (.ins _ _ _) => True
  | some (.ext _) => True
  | _ => False
section
variable {P : Program} {w : World} {H : Hp} {h h' : Heap} {x e : Addr} {o' : HO}
theorem HOk.write (ok : HOk P w H h) (mu : Mut (H x)) (he : e = x ∨ H e = some (.own x)) (k : ∀ b u, b ≠ e → h.get? b = some u → h'.get? b = some u) (heo : ∃ u, h'.get? e = some u)
    (new : ObjOk P w (upd H x o') h' x o') : HOk P w (upd H x o') h' := fun b u q => by
  have nown : ∀ c y, H c = some (.own y) → c ≠ x := fun c y r z => by subst z; rw [r] at mu; exact mu
  have ntup : ∀ c xs, H c = some (.tup xs) → c ≠ x := fun c xs r z => by subst z; rw [r] at mu; exact mu
  by_cases hb : b = x
  · subst hb; rw [upd_same] at q; cases q; exact new
  · rw [upd_ne hb] at q
    by_cases hbe : b = e
    · have q' : H b = some (.own x) := by
        rcases he with z | z
        · exact absurd (hbe.trans z) hb
        · rw [hbe]; exact z
      rw [q] at q'; cases q'
      obtain ⟨v, hv⟩ := heo
      exact ⟨v, by rw [hbe]; exact hv⟩
    · refine (ok b u q).stay (fun c v hc r => k c v ?_ r) (fun c r => by rw [upd_ne (nown c b r)]; exact r) fun c xs r => by rw [upd_ne (ntup c xs r)]; exact r
      rcases hc with rfl | hc
      · exact hbe
      · rintro rfl
        rcases he with z | z
        · exact nown c b hc z
        · rw [hc] at z; cases z; exact hb rfl
end
structure Un (fs ex : List Addr) (H H' : Hp) (h h' : Heap) : Prop where
  keep : ∀ b o, h.get? b = some o → H b = none → b ∉ fs → b ∉ ex → h'.get? b = some o
  slot : ∀ b o, h.get? b = some o → H b = none → b ∈ fs → b ∉ ex → ∃ sl, h'.get? b = some { o with slots := sl }
  free : ∀ b o, h.get? b = some o → H b = none → b ∉ ex → H' b = none
  there : ∀ b o, h.get? b = some o → b ∉ ex → ∃ o', h'.get? b = some o'
  tups : ∀ b xs, H b = some (.tup xs) → H' b = some (.tup xs)
  frzs : ∀ b o u, H b = some (.frz o u) → H' b = some (.frz o u)
  tbls : ∀ b ps, H b = some (.tbl ps) → ∃ more, H' b = some (.tbl (ps ++ more))
section
variable {fs fs' ex ex' : List Addr} {H H1 H2 : Hp} {h h1 h2 h' : Heap} {a x e : Addr} {o : HO}
theorem Un.any (u : Un fs ex H H1 h h1) {b : Addr} {ob : Obj} (q : h.get? b = some ob) (n : H b = none) (hx : b ∉ ex) : ∃ sl, h1.get? b = some { ob with slots := sl } := by
  by_cases hb : b ∈ fs
  · exact u.slot b ob q n hb hx
  · exact ⟨ob.slots, u.keep b ob q n hb hx⟩
theorem Un.kept (k : ∀ b u, h.get? b = some u → h'.get? b = some u) : Un fs ex H H h h' :=
  ⟨fun b ob q _ _ _ => k b ob q, fun b ob q _ _ _ => ⟨ob.slots, k b ob q⟩, fun _ _ _ n _ => n, fun b ob q _ => ⟨ob, k b ob q⟩, fun _ _ q => q, fun _ _ _ q => q, fun _ ps q => ⟨#[], by rw [q]; simp⟩⟩
theorem Un.refl : Un fs ex H H h h := Un.kept fun _ _ q => q
theorem Un.laid (k : ∀ b u, h.get? b = some u → h'.get? b = some u) (hp : h.objs.size ≤ a) (hn : H a = none) : Un fs ex H (upd H a o) h h' where
  keep := fun b u q _ _ _ => k b u q
  slot := fun b u q _ _ _ => ⟨u.slots, k b u q⟩
  free := fun b u q n _ => by rw [upd_ne (Nat.ne_of_lt (Nat.lt_of_lt_of_le (Heap.lt_size q) hp))]; exact n
  there := fun b u q _ => ⟨u, k b u q⟩
  tups := fun b xs q => by rw [upd_ne (ne_of_none q hn)]; exact q
  frzs := fun b u xs q => by rw [upd_ne (ne_of_none q hn)]; exact q
  tbls := fun b ps q => ⟨#[], by rw [upd_ne (ne_of_none q hn), q]; simp⟩
theorem Un.write (mu : Mut (H x)) (he : e = x ∨ H e = some (.own x)) (k : ∀ b u, b ≠ e → h.get? b = some u → h'.get? b = some u) (heo : ∃ u, h'.get? e = some u) : Un fs ex H (upd H x o) h h' := by
  have hx : ∀ b, H b = none → b ≠ x := fun b n z => by subst z; rw [n] at mu; exact mu
  have hb : ∀ b, H b = none → b ≠ e := fun b n z => by
    subst z
    rcases he with r | r
    · exact hx b n r
    · rw [n] at r; cases r
  have hm : ∀ b u, H b = some u → ¬ Mut (some u) → b ≠ x := fun b u q nm z => by subst z; rw [q] at mu; exact nm mu
  refine ⟨fun b u q n _ _ => k b u (hb b n) q, fun b u q n _ _ => ⟨u.slots, k b u (hb b n) q⟩, fun b u q n _ => by rw [upd_ne (hx b n)]; exact n, fun b u q _ => ?_,
    fun b xs q => by rw [upd_ne (hm b _ q fun z => z)]; exact q, fun b u xs q => by rw [upd_ne (hm b _ q fun z => z)]; exact q, fun b ps q => ⟨#[], by rw [upd_ne (hm b _ q fun z => z), q]; simp⟩⟩
  by_cases hbe : b = e
  · subst hbe; exact heo
  · exact ⟨u, k b u hbe q⟩
end
def trk (h : Heap) (H : Hp) : List Addr := (List.range h.objs.size).filter fun a => (H a).isSome
def hidT (h : Heap) (H : Hp) : Heap := PySem.W.hideAll h (trk h H)
theorem hidT_size (h : Heap) (H : Hp) : (hidT h H).objs.size = h.objs.size := PySem.W.hideAll_size _ _
theorem hidT_get {h : Heap} {H : Hp} {b : Addr} {o : Obj} (e : h.get? b = some o) (n : H b = none) : (hidT h H).get? b = some o :=
  PySem.W.hideAll_get _ e fun hm => by
    have q : (H b).isSome = true := (List.mem_filter.mp hm).2
    rw [n] at q; simp at q
theorem of_hidT {h : Heap} {H : Hp} {b : Addr} {o : Obj} (e : (hidT h H).get? b = some o) : h.get? b = some o ∧ H b = none := by
  have e' : h.get? b = some o := PySem.W.of_hideAll (trk h H) e
  refine ⟨e', ?_⟩
  cases q : H b with
  | none => rfl
  | some x =>
    have hm : b ∈ trk h H := List.mem_filter.mpr ⟨List.mem_range.mpr (Heap.lt_size e'), by simp [q]⟩
    have z : (hidT h H).get? b = none := PySem.W.hideAll_none (trk h H) hm
    rw [z] at e; cases e
def allNews (g h : Heap) (L : Addr) : List (Addr × Obj) := (List.range h.objs.size).filterMap fun a => if a = L ∨ (g.get? a).isSome = true then none else (h.get? a).map fun o => (a, o)
def rest (g h : Heap) (L d : Addr) : List (Addr × Obj) := (allNews g h L).filter fun p => decide (p.1 ≠ d)
end L2
namespace L2
open PySem PySem.Spec PyProof.Rows
structure Mod (K : PySem.W.Frag) (mg : Str → Option Value) (base : Heap) : Prop where
  kin : K.In base
  glob : base.Ns mainGlobals mg
  blt : ∃ mb, base.Ns builtinsNs mb ∧ ∀ x : Str, x ≠ "__name__" → mb x = bootBuiltins x
  nolimit : base.NoLimit
/-- the context: a def's body (or a comprehension's block) running. base: fixed through the whole law; s₀, H₀: the entry; outer: the frames whose slots others may change (a def's callers); stack: all frames that run;
   ex: iterators that were made ahead of the entry and are walked here (a comprehension's); fn: the names whose cells were made at the entry (a def: all; a comprehension's block: its own); calm: not within an except suite; pn: pins that every state bears; xe: what is wanted of an exception that leaves the code -/
structure Cx where
  prog : Program
  w : World
  K : PySem.W.Frag
  mg : Str → Option Value
  base : Heap
  A : Around
  N : List Str
  s_0 : Shared
  H_0 : Hp
  env : Env
  outer : List Env
  stack : List Env
  ex : List Addr
  fn : Str → Bool
  calm : Bool
  pn : List (Addr × Obj)
  xe : Value → Shared → Prop
def frs (l : List Env) : List Addr := l.filterMap (·.frame)
abbrev Cx.fs (X : Cx) : List Addr := frs X.outer
def Vis (sc : Scope) (x : Str) : Prop := sc.names.lookup x = some .local ∨ sc.names.lookup x = some .cell ∨ sc.names.lookup x = some .free
def Loc (sc : Scope) (x : Str) : Prop := sc.names.lookup x = some .local ∨ sc.names.lookup x = some .cell
def Look (env : Env) (h : Heap) (m : Str → Option Value) (x : Str) (u : Value) : Prop :=
  (env.kindOf x = some .local ∧ m x = some u) ∨ ((env.kindOf x = some .cell ∨ env.kindOf x = some .free) ∧ ∃ c, env.cells.lookup x = some c ∧ h.IsCell c (some u))
structure Cx.Ok (X : Cx) : Prop where
  mod : Mod X.K X.mg X.base
  kind : X.env.scope.kind = .function
  glob : X.env.globals = mainGlobals
  blt : X.env.builtins = builtinsNs
  above : X.s_0.heap.objs.size ≤ X.env.locals
  inj : ∀ x y c, X.env.cells.lookup x = some c → X.env.cells.lookup y = some c → x = y
  has : ∀ x, (X.env.kindOf x = some .cell ∨ X.env.kindOf x = some .free) → ∃ c, X.env.cells.lookup x = some c
  cab : ∀ x c, X.fn x = true → X.env.cells.lookup x = some c → X.s_0.heap.objs.size ≤ c
  hd : X.calm = true → X.A.handled = none
  frames : X.A.frames = some X.stack
  stk : X.stack = X.outer ∨ (X.stack = X.env :: X.outer ∧ X.env.frame = some X.env.locals)
  exf : ∀ b ∈ X.ex, b ≠ X.env.locals ∧ ∀ x c, X.env.cells.lookup x = some c → c ≠ b
  bs : ∀ b o, X.base.get? b = some o → X.s_0.heap.get? b = some o ∧ X.H_0 b = none
  bsz : X.base.objs.size ≤ X.s_0.heap.objs.size
  noex : ∀ b o, X.base.get? b = some o → b ∉ X.ex
  exfs : ∀ b ∈ X.ex, b ∉ X.fs
  funs : X.s_0.heap.FunFrames X.base X.outer
  frf : ∀ b ∈ X.fs, X.H_0 b = none
structure Inv (X : Cx) (pins : List (Addr × Obj)) (σ : List (Option V)) (H : Hp) (s : Shared) : Prop where
  ok : X.Ok
  os : s.os = X.s_0.os
  bare : AllBare s.gens
  base : Un X.fs X.ex X.H_0 H X.s_0.heap s.heap
  loc : ∃ m, s.heap.Ns X.env.locals m ∧ ∀ (i : Nat) (x : Str) (v : V), X.N[i]? = some x → σ[i]? = some (some v) → Vis X.env.scope x → ∃ u, RelV v u ∧ Look X.env s.heap m x u
  cell : ∀ x c, X.env.cells.lookup x = some c → ∃ v, s.heap.IsCell c v
  free : H X.env.locals = none
  freeC : ∀ x c, X.env.cells.lookup x = some c → H c = none
  pin : ∀ p ∈ X.pn ++ pins, s.heap.get? p.1 = some p.2 ∧ H p.1 = none ∧ p.1 ≠ X.env.locals ∧ p.1 ∉ X.fs ∧ ∀ v, p.2.data ≠ .cell v
  hok : HOk X.prog X.w H s.heap
  len : σ.length = X.N.length
section
variable {X : Cx} {pins : List (Addr × Obj)} {σ : List (Option V)} {H H' : Hp} {s : Shared} {h' : Heap}
theorem Cx.Ok.nofr (ok : X.Ok) {b : Addr} {o : Obj} (e : X.base.get? b = some o) : b ∉ X.fs := fun hb => by
  have := (ok.funs.mem hb).1
  rw [e] at this; cases this
theorem Inv.bs (I : Inv X pins σ H s) : ∀ b o, X.base.get? b = some o → s.heap.get? b = some o ∧ H b = none := fun b o e =>
  ⟨I.base.keep b o (I.ok.bs b o e).1 (I.ok.bs b o e).2 (I.ok.nofr e) (I.ok.noex b o e), I.base.free b o (I.ok.bs b o e).1 (I.ok.bs b o e).2 (I.ok.noex b o e)⟩
theorem Inv.bk (I : Inv X pins σ H s) : ∀ b o, X.base.get? b = some o → s.heap.get? b = some o := fun b o e => (I.bs b o e).1
theorem Inv.mod (I : Inv X pins σ H s) : Mod X.K X.mg X.base := I.ok.mod
theorem Inv.kIn (I : Inv X pins σ H s) : X.K.In s.heap := I.ok.mod.kin.keeps I.bk
theorem Inv.fr (I : Inv X pins σ H s) : ∃ m, Fr X.base X.env.locals s.heap m :=
  let ⟨m, hn, _⟩ := I.loc
  ⟨m, hn, I.bk, Nat.le_trans I.ok.bsz I.ok.above⟩
theorem Inv.lt (I : Inv X pins σ H s) : X.env.locals < s.heap.objs.size := let ⟨_, hn, _⟩ := I.loc; hn.lt
theorem Inv.sz (I : Inv X pins σ H s) : X.s_0.heap.objs.size ≤ s.heap.objs.size := Nat.le_trans I.ok.above (Nat.le_of_lt I.lt)
theorem Inv.nofs (I : Inv X pins σ H s) {a : Addr} (h : s.heap.objs.size ≤ a) : a ∉ X.fs := fun hb => by
  obtain ⟨_, o, ho, _⟩ := I.ok.funs.mem hb
  exact absurd (Nat.lt_of_lt_of_le (Heap.lt_size ho) (Nat.le_trans I.sz h)) (Nat.lt_irrefl _)
theorem Inv.cne (I : Inv X pins σ H s) : ∀ x c, X.env.cells.lookup x = some c → c ≠ X.env.locals := fun x c e z => by
  obtain ⟨v, o, ho, hd⟩ := I.cell x c e
  obtain ⟨m, ⟨o', es, ep, ho', hd', _⟩, _⟩ := I.loc
  rw [z, ho'] at ho; cases ho; rw [hd'] at hd; cases hd
theorem Inv.funs (I : Inv X pins σ H s) : s.heap.FunFrames X.base X.outer := by
  have all : ∀ (l : List Env), (∀ b ∈ frs l, b ∈ X.fs) → X.s_0.heap.FunFrames X.base l → s.heap.FunFrames X.base l := by
    intro l
    induction l with
    | nil => intro _ _; trivial
    | cons env r ih =>
      intro hs hl
      obtain ⟨hk, ⟨L, o, hf, hn, ho, hd⟩, hr⟩ := hl
      have hL : L ∈ X.fs := hs L (by unfold frs; rw [List.filterMap_cons, hf]; exact List.mem_cons_self)
      obtain ⟨sl, e⟩ := I.base.slot L o ho (I.ok.frf L hL) hL fun z => I.ok.exfs L z hL
      exact ⟨hk, ⟨L, _, hf, hn, e, hd⟩, ih (fun b hb => hs b (by unfold frs; rw [List.filterMap_cons, hf]; exact List.mem_cons_of_mem _ hb)) hr⟩
  exact all X.outer (fun _ hb => hb) I.ok.funs
theorem Inv.stack (I : Inv X pins σ H s) : s.heap.FunFrames X.base X.stack := by
  rcases I.ok.stk with e | ⟨e, hf⟩
  · rw [e]; exact I.funs
  · rw [e]
    obtain ⟨m, hn, _⟩ := I.loc
    refine .cons (by rw [I.ok.kind]; decide) hf hn ?_ I.funs
    exact Heap.get?_none_of_le (Nat.le_trans I.ok.bsz I.ok.above)
theorem Inv.stkSub (I : Inv X pins σ H s) : ∀ b ∈ frs X.stack, b ∈ X.env.locals :: X.fs := fun b hb => by
  rcases I.ok.stk with e | ⟨e, hf⟩
  · rw [e] at hb; exact List.mem_cons_of_mem _ hb
  · rw [e] at hb
    unfold frs at hb
    rw [List.filterMap_cons, hf] at hb
    exact hb
theorem Inv.stkFree (I : Inv X pins σ H s) : ∀ b ∈ frs X.stack, H b = none := fun b hb => by
  rcases List.mem_cons.mp (I.stkSub b hb) with e | hb
  · rw [e]; exact I.free
  · obtain ⟨_, o, ho, _⟩ := I.ok.funs.mem hb
    exact I.base.free b o ho (I.ok.frf b hb) fun z => I.ok.exfs b z hb
theorem Inv.step {g' : Array GenState} {t' : Nat} {d' : Drawn} {ch : List Addr} (I : Inv X pins σ H s)
    (hch : ∀ b ∈ ch, (b ∈ X.ex ∨ X.s_0.heap.objs.size ≤ b) ∧ b ≠ X.env.locals ∧ (∀ x c, X.env.cells.lookup x = some c → c ≠ b) ∧ ∀ p ∈ X.pn ++ pins, p.1 ≠ b)
    (keep : ∀ b o, b ≠ X.env.locals → b ∉ X.fs → b ∉ ch → s.heap.get? b = some o → H b = none → h'.get? b = some o)
    (slot : ∀ b o, b ≠ X.env.locals → b ∈ X.fs → b ∉ ch → s.heap.get? b = some o → H b = none → ∃ sl, h'.get? b = some { o with slots := sl }) (free : ∀ b o, b ∉ ch → s.heap.get? b = some o → H b = none → H' b = none)
    (there : ∀ b o, b ∉ ch → s.heap.get? b = some o → ∃ o', h'.get? b = some o')
    (tups : ∀ b xs, H b = some (.tup xs) → H' b = some (.tup xs)) (frzs : ∀ b o u, H b = some (.frz o u) → H' b = some (.frz o u)) (tbls : ∀ b ps, H b = some (.tbl ps) → ∃ more, H' b = some (.tbl (ps ++ more)))
    (ns : ∀ m, s.heap.Ns X.env.locals m → h'.Ns X.env.locals m) (hok : HOk X.prog X.w H' h') (hg : AllBare g') :
    Inv X pins σ H' { s with heap := h', gens := g', drawn := d', toks := t' } := by
  have neL : ∀ b o, X.s_0.heap.get? b = some o → b ≠ X.env.locals := fun b o e => Nat.ne_of_lt (Nat.lt_of_lt_of_le (Heap.lt_size e) I.ok.above)
  have neC : ∀ b o, X.s_0.heap.get? b = some o → b ∉ X.ex → b ∉ ch := fun b o e hx hb => by
    rcases (hch b hb).1 with z | z
    · exact hx z
    · exact absurd (Nat.lt_of_lt_of_le (Heap.lt_size e) z) (Nat.lt_irrefl _)
  have cellK : ∀ x c, X.env.cells.lookup x = some c → ∀ v, s.heap.IsCell c v → h'.IsCell c v := fun x c e v ⟨o, ho, hd⟩ => by
    have nch : c ∉ ch := fun z => (hch c z).2.2.1 x c e rfl
    by_cases hc : c ∈ X.fs
    · obtain ⟨sl, q⟩ := slot c o (I.cne x c e) hc nch ho (I.freeC x c e)
      exact ⟨_, q, hd⟩
    · exact ⟨o, keep c o (I.cne x c e) hc nch ho (I.freeC x c e), hd⟩
  refine ⟨I.ok, I.os, hg, ⟨fun b o e n hb hx => ?_, fun b o e n hb hx => ?_, fun b o e n hx => ?_, fun b o e hx => ?_, fun b xs e => tups b xs (I.base.tups b xs e), fun b o xs e => frzs b o xs (I.base.frzs b o xs e), fun b ps e => ?_⟩, ?_, fun x c e => ?_, ?_, fun x c e => ?_, fun p hp => ?_, hok, I.len⟩
  · exact keep b o (neL b o e) hb (neC b o e hx) (I.base.keep b o e n hb hx) (I.base.free b o e n hx)
  · obtain ⟨sl, e1⟩ := I.base.slot b o e n hb hx
    obtain ⟨sl', e2⟩ := slot b _ (neL b o e) hb (neC b o e hx) e1 (I.base.free b o e n hx)
    exact ⟨sl', e2⟩
  · obtain ⟨o', e1⟩ := I.base.there b o e hx
    exact free b o' (neC b o e hx) e1 (I.base.free b o e n hx)
  · obtain ⟨o', e1⟩ := I.base.there b o e hx
    exact there b o' (neC b o e hx) e1
  · obtain ⟨m1, e1⟩ := I.base.tbls b ps e
    obtain ⟨m2, e2⟩ := tbls b _ e1
    exact ⟨m1 ++ m2, by rw [e2, Array.append_assoc]⟩
  · obtain ⟨m, hn, hl⟩ := I.loc
    refine ⟨m, ns m hn, fun i x v e1 e2 e3 => ?_⟩
    obtain ⟨u, r, l⟩ := hl i x v e1 e2 e3
    refine ⟨u, r, ?_⟩
    rcases l with l | ⟨k, c, e, z⟩
    · exact .inl l
    · exact .inr ⟨k, c, e, cellK x c e _ z⟩
  · obtain ⟨v, z⟩ := I.cell x c e
    exact ⟨v, cellK x c e v z⟩
  · obtain ⟨m, ⟨o, _, _, ho, _⟩, _⟩ := I.loc
    exact free _ o (fun z => (hch _ z).2.1 rfl) ho I.free
  · obtain ⟨v, o, ho, hd⟩ := I.cell x c e
    exact free c o (fun z => (hch c z).2.2.1 x c e rfl) ho (I.freeC x c e)
  · obtain ⟨e, n, ne, nf, d⟩ := I.pin p hp
    have nch : p.1 ∉ ch := fun z => (hch p.1 z).2.2.2 p hp rfl
    exact ⟨keep p.1 p.2 ne nf nch e n, free p.1 p.2 nch e n, ne, nf, d⟩
theorem Inv.un {t' : Nat} (I : Inv X pins σ H s) (u : Un X.fs [] H H' s.heap h') (hok : HOk X.prog X.w H' h') : Inv X pins σ H' { s with heap := h', toks := t' } := by
  obtain ⟨m, ⟨o, es, ep, ho, r⟩, _⟩ := id I.loc
  obtain ⟨sl, hL⟩ := u.any ho I.free (by simp)
  exact I.step (g' := s.gens) (d' := s.drawn) (ch := []) (fun _ z => nomatch z) (fun b o _ hb _ e n => u.keep b o e n hb (by simp)) (fun b o _ hb _ e n => u.slot b o e n hb (by simp)) (fun b o _ e n => u.free b o e n (by simp)) (fun b o _ e => u.there b o e (by simp)) u.tups u.frzs u.tbls (fun m' hm => by
    obtain ⟨o', es', ep', ho', r'⟩ := hm
    rw [ho] at ho'; cases ho'
    exact ⟨_, es', ep', hL, r'⟩) hok I.bare
theorem Inv.call {g' : Array GenState} {t' : Nat} {d' : Drawn} {ch : List Addr} (I : Inv X pins σ H s) (u : Un (frs X.stack) ch H H' s.heap h') (hok : HOk X.prog X.w H' h') (hg : AllBare g')
    (hch : ∀ b ∈ ch, (b ∈ X.ex ∨ X.s_0.heap.objs.size ≤ b) ∧ b ≠ X.env.locals ∧ (∀ x c, X.env.cells.lookup x = some c → c ≠ b) ∧ ∀ p ∈ X.pn ++ pins, p.1 ≠ b) :
    Inv X pins σ H' { s with heap := h', gens := g', drawn := d', toks := t' } := by
  obtain ⟨m, ⟨o, es, ep, ho, r⟩, _⟩ := id I.loc
  obtain ⟨sl, hL⟩ := u.any ho I.free fun z => (hch _ z).2.1 rfl
  exact I.step (ch := ch) hch (fun b o hL hb hc e n => u.keep b o e n (fun z => (List.mem_cons.mp (I.stkSub b z)).elim hL hb) hc) (fun b o _ _ hc e n => u.any e n hc) (fun b o hc e n => u.free b o e n hc) (fun b o hc e => u.there b o e hc) u.tups u.frzs u.tbls (fun m' hm => by
    obtain ⟨o', es', ep', ho', r'⟩ := hm
    rw [ho] at ho'; cases ho'
    exact ⟨_, es', ep', hL, r'⟩) hok hg
theorem Inv.turned {t' : Nat} {it : Addr} (I : Inv X pins σ H s) (k : ∀ b o, b ≠ it → s.heap.get? b = some o → h'.get? b = some o) (hn : H it = none) (hL : it ≠ X.env.locals)
    (h1 : it ∈ X.ex ∨ X.s_0.heap.objs.size ≤ it) (h2 : ∀ x c, X.env.cells.lookup x = some c → c ≠ it) (h3 : ∀ p ∈ X.pn ++ pins, p.1 ≠ it) : Inv X pins σ H { s with heap := h', toks := t' } := by
  have nit : ∀ b u, H b = some u → b ≠ it := fun b u e z => by rw [z, hn] at e; cases e
  refine I.step (g' := s.gens) (d' := s.drawn) (ch := [it]) (fun b hb => ?_) (fun b o _ _ hc e _ => k b o (fun z => hc (by simp [z])) e) (fun b o _ _ hc e _ => ⟨o.slots, k b o (fun z => hc (by simp [z])) e⟩) (fun _ _ _ _ n => n)
    (fun b o hc e => ⟨o, k b o (fun z => hc (by simp [z])) e⟩) (fun _ _ e => e) (fun _ _ _ e => e) (fun b ps e => ⟨#[], by rw [e]; simp⟩) (fun m hm => ?_) (fun b u e => ?_) I.bare
  · have e : b = it := by simpa using hb
    subst e
    exact ⟨h1, hL, h2, h3⟩
  · obtain ⟨o, es, ep, ho, r⟩ := hm
    exact ⟨o, es, ep, k _ o (Ne.symm hL) ho, r⟩
  · refine (I.hok b u e).stay (fun c v hc q => k c v ?_ q) (fun _ q => q) fun _ _ q => q
    rcases hc with z | z
    · rw [z]; exact nit b u e
    · exact nit c _ z
theorem Inv.tok (I : Inv X pins σ H s) (t : Nat) : Inv X pins σ H { s with toks := t } := I.un (h' := s.heap) (t' := t) Un.refl I.hok
theorem Inv.kept {t' : Nat} (I : Inv X pins σ H s) (k : ∀ b u, s.heap.get? b = some u → h'.get? b = some u) : Inv X pins σ H { s with heap := h', toks := t' } := I.un (Un.kept k) (I.hok.kept k)
theorem Inv.laid {a : Addr} {o : HO} {t' : Nat} (I : Inv X pins σ H s) (k : ∀ b u, s.heap.get? b = some u → h'.get? b = some u) (hp : s.heap.objs.size ≤ a) (new : ObjOk X.prog X.w (upd H a o) h' a o) :
    Inv X pins σ (upd H a o) { s with heap := h', toks := t' } := I.un (Un.laid k hp (I.hok.fresh hp)) (I.hok.laid k hp new)
theorem Inv.write {x e : Addr} {o : HO} {t' : Nat} (I : Inv X pins σ H s) (mu : Mut (H x)) (he : e = x ∨ H e = some (.own x)) (k : ∀ b u, b ≠ e → s.heap.get? b = some u → h'.get? b = some u) (heo : ∃ u, h'.get? e = some u)
    (new : ObjOk X.prog X.w (upd H x o) h' x o) : Inv X pins σ (upd H x o) { s with heap := h', toks := t' } := I.un (Un.write mu he k heo) (I.hok.write mu he k heo new)
theorem Inv.weak {σ' : List (Option V)} (I : Inv X pins σ H s) (hl : σ'.length = σ.length) (w : ∀ (i : Nat) v, σ'[i]? = some (some v) → σ[i]? = some (some v)) : Inv X pins σ' H s :=
  ⟨I.ok, I.os, I.bare, I.base, let ⟨m, hn, hl'⟩ := I.loc; ⟨m, hn, fun i x v e1 e2 e3 => hl' i x v e1 (w i v e2) e3⟩, I.cell, I.free, I.freeC, I.pin, I.hok, hl.trans I.len⟩
theorem Inv.pins_of {pins' : List (Addr × Obj)} (I : Inv X pins σ H s) (h : ∀ p ∈ pins', s.heap.get? p.1 = some p.2 ∧ H p.1 = none ∧ p.1 ≠ X.env.locals ∧ p.1 ∉ X.fs ∧ ∀ v, p.2.data ≠ .cell v) : Inv X pins' σ H s :=
  ⟨I.ok, I.os, I.bare, I.base, I.loc, I.cell, I.free, I.freeC, fun p hp => (List.mem_append.mp hp).elim (fun z => I.pin p (List.mem_append_left _ z)) (h p), I.hok, I.len⟩
theorem nodup_ix {N : List Str} (hN : N.Nodup) {i j : Nat} {x : Str} (a : N[i]? = some x) (b : N[j]? = some x) : i = j := by
  obtain ⟨h1, e1⟩ := List.getElem?_eq_some_iff.mp a
  obtain ⟨h2, e2⟩ := List.getElem?_eq_some_iff.mp b
  exact (List.getElem_inj hN).mp (e1.trans e2.symm)
theorem store_ok2 {M : Model} {A : Around} {E : Value → Shared → Prop} {i : Nat} {x : Str} {v : V} {u : Value} {Q : Unit → Shared → Prop} (I : Inv X pins σ H s) (hN : X.N.Nodup) (hi : X.N[i]? = some x) (hx : Loc X.env.scope x) (r : RelV v u)
    (h : ∀ s', Inv X pins (σ.set i (some v)) H s' → (∃ a, Heap.SameBut a s.heap s'.heap ∧ (a = X.env.locals ∨ X.env.cells.lookup x = some a)) → Q () s') (hf : X.fn x = true ∨ X.env.scope.names.lookup x = some .local := by first | exact .inl rfl | exact .inr rfl | assumption) : wpAny M A (storeName X.env x u) Q E s := by
  obtain ⟨m, hn, hl⟩ := id I.loc
  have hcls : (X.env.scope.kind == .class || (X.env.scope.kind == .module && X.env.locals != X.env.globals)) = false := by rw [I.ok.kind]; rfl
  have hiσ : i < σ.length := by rw [I.len]; exact (List.getElem?_eq_some_iff.mp hi).1
  have cne := I.cne
  have tracked : ∀ {a : Addr} {h' : Heap}, (∃ o, s.heap.get? a = some o ∧ H a = none) → Heap.SameBut a s.heap h' → HOk X.prog X.w H h' := fun {a h'} ha hs b ob e => by
    obtain ⟨_, _, hfree⟩ := ha
    refine (I.hok b ob e).stay (fun c w' hc q => (hs.2 c ?_).trans q) (fun _ q => q) fun _ _ q => q
    rintro rfl
    rcases hc with rfl | hc
    · rw [hfree] at e; cases e
    · rw [hfree] at hc; cases hc
  rcases hx with hk | hk
  · refine wpAny_storeName_local hk hn (fun h' hn' hs => ?_) hcls
    obtain ⟨oL, _, _, hoL, _⟩ := id hn
    refine h _ ⟨I.ok, I.os, I.bare, ⟨fun b o e n hb hx => ?_, fun b o e n hb hx => ?_, I.base.free, fun b o e hx => ?_, I.base.tups, I.base.frzs, I.base.tbls⟩, ⟨_, hn', fun j y v' e1 e2 e3 => ?_⟩, fun y c e => ?_, I.free, I.freeC, fun p hp => ?_, tracked ⟨oL, hoL, I.free⟩ hs, by simpa using I.len⟩ ⟨_, hs, .inl rfl⟩
    · exact (hs.2 b (Nat.ne_of_lt (Nat.lt_of_lt_of_le (Heap.lt_size e) I.ok.above))).trans (I.base.keep b o e n hb hx)
    · obtain ⟨sl, e1⟩ := I.base.slot b o e n hb hx
      exact ⟨sl, (hs.2 b (Nat.ne_of_lt (Nat.lt_of_lt_of_le (Heap.lt_size e) I.ok.above))).trans e1⟩
    · obtain ⟨o', e1⟩ := I.base.there b o e hx
      exact ⟨o', (hs.2 b (Nat.ne_of_lt (Nat.lt_of_lt_of_le (Heap.lt_size e) I.ok.above))).trans e1⟩
    · by_cases hj : j = i
      · subst hj
        rw [hi] at e1; cases e1
        rw [List.getElem?_set_self hiσ] at e2
        cases e2
        exact ⟨u, r, .inl ⟨hk, by simp⟩⟩
      · rw [List.getElem?_set_ne (Ne.symm hj)] at e2
        obtain ⟨u', r', q⟩ := hl j y v' e1 e2 e3
        refine ⟨u', r', ?_⟩
        rcases q with ⟨k, e⟩ | ⟨k, c, e, z⟩
        · refine .inl ⟨k, ?_⟩
          have : y ≠ x := fun e => hj (nodup_ix hN e1 (e ▸ hi))
          simp [this, e]
        · exact .inr ⟨k, c, e, z.sameBut hs (cne y c e)⟩
    · obtain ⟨w', z⟩ := I.cell y c e
      exact ⟨w', z.sameBut hs (cne y c e)⟩
    · obtain ⟨e, n, ne, nf, d⟩ := I.pin p hp
      exact ⟨(hs.2 p.1 ne).trans e, n, ne, nf, d⟩
  · have hfn : X.fn x = true := by
      rcases hf with z | z
      · exact z
      · rw [z] at hk; cases hk
    obtain ⟨c, hc⟩ := I.ok.has x (.inl hk)
    obtain ⟨w', z⟩ := I.cell x c hc
    refine wpAny_storeName_cell I.ok.kind hk hc z (fun h' hc' hs => ?_)
    obtain ⟨oc, hoc, hocd⟩ := id z
    refine h { s with heap := h' } ⟨I.ok, I.os, I.bare, ⟨fun b o e n hb hx => ?_, fun b o e n hb hx => ?_, I.base.free, fun b o e hx => ?_, I.base.tups, I.base.frzs, I.base.tbls⟩, ⟨m, hn.sameBut hs (Ne.symm (cne x c hc)), fun j y v' e1 e2 e3 => ?_⟩, fun y c' e => ?_, I.free, I.freeC, fun p hp => ?_, tracked ⟨oc, hoc, I.freeC x c hc⟩ hs, by simpa using I.len⟩ ⟨c, hs, .inr hc⟩
    · exact (hs.2 b (Nat.ne_of_lt (Nat.lt_of_lt_of_le (Heap.lt_size e) (I.ok.cab x c hfn hc)))).trans (I.base.keep b o e n hb hx)
    · obtain ⟨sl, e1⟩ := I.base.slot b o e n hb hx
      exact ⟨sl, (hs.2 b (Nat.ne_of_lt (Nat.lt_of_lt_of_le (Heap.lt_size e) (I.ok.cab x c hfn hc)))).trans e1⟩
    · obtain ⟨o', e1⟩ := I.base.there b o e hx
      exact ⟨o', (hs.2 b (Nat.ne_of_lt (Nat.lt_of_lt_of_le (Heap.lt_size e) (I.ok.cab x c hfn hc)))).trans e1⟩
    · by_cases hj : j = i
      · subst hj
        rw [hi] at e1; cases e1
        rw [List.getElem?_set_self hiσ] at e2
        cases e2
        exact ⟨u, r, .inr ⟨.inl hk, c, hc, hc'⟩⟩
      · rw [List.getElem?_set_ne (Ne.symm hj)] at e2
        obtain ⟨u', r', q⟩ := hl j y v' e1 e2 e3
        refine ⟨u', r', ?_⟩
        rcases q with q | ⟨k, c', e, z'⟩
        · exact .inl q
        · refine .inr ⟨k, c', e, z'.sameBut hs ?_⟩
          rintro rfl
          exact hj (nodup_ix hN e1 (I.ok.inj _ _ _ e hc ▸ hi))
    · by_cases hcc : c' = c
      · subst hcc; exact ⟨_, hc'⟩
      · obtain ⟨w2, z2⟩ := I.cell y c' e
        exact ⟨w2, z2.sameBut hs hcc⟩
    · obtain ⟨e, n, ne, nf, d⟩ := I.pin p hp
      refine ⟨(hs.2 p.1 ?_).trans e, n, ne, nf, d⟩
      intro q
      rw [q, hoc] at e
      have q' : oc = p.2 := Option.some.inj e
      exact d w' (by rw [← q']; exact hocd)
theorem store_ok {M : Model} {A : Around} {E : Value → Shared → Prop} {i : Nat} {x : Str} {v : V} {u : Value} {Q : Unit → Shared → Prop} (I : Inv X pins σ H s) (hN : X.N.Nodup) (hi : X.N[i]? = some x) (hx : Loc X.env.scope x) (r : RelV v u)
    (h : ∀ s', Inv X pins (σ.set i (some v)) H s' → Q () s') (hf : X.fn x = true ∨ X.env.scope.names.lookup x = some .local := by first | exact .inl rfl | exact .inr rfl | assumption) : wpAny M A (storeName X.env x u) Q E s :=
  store_ok2 I hN hi hx r (fun s' I' _ => h s' I') hf
theorem Inv.call' {s' : Shared} {ch : List Addr} (I : Inv X pins σ H s) (ho : s'.os = s.os) (u : Un (frs X.stack) ch H H' s.heap s'.heap) (hok : HOk X.prog X.w H' s'.heap) (hg : AllBare s'.gens)
    (hch : ∀ b ∈ ch, (b ∈ X.ex ∨ X.s_0.heap.objs.size ≤ b) ∧ b ≠ X.env.locals ∧ (∀ x c, X.env.cells.lookup x = some c → c ≠ b) ∧ ∀ p ∈ X.pn ++ pins, p.1 ≠ b) : Inv X pins σ H' s' := by
  obtain ⟨h', g', d', t', o'⟩ := s'
  have e : o' = s.os := ho
  subst e
  exact I.call (g' := g') (t' := t') (d' := d') u hok hg hch
end
abbrev XK := Value → Option Addr → Hp → Prop
abbrev St := List (Option V)
abbrev VK := V → Hp → Prop
abbrev TE := St → Hp → VK → Prop
abbrev TT := St → Hp → (Bool → Hp → Prop) → Prop
abbrev TA := St → Hp → (List V → Hp → Prop) → Prop
structure Ends where
  nx : St → Hp → Prop
  rt : VK
  bk : St → Hp → Prop := fun _ _ => False
  ct : St → Hp → Prop := fun _ _ => False
abbrev TS := Ends → St → Hp → Prop
def EP (X : Cx) (pins : List (Addr × Obj)) (σ : St) (Q : VK) (u : Value) (s' : Shared) : Prop := ∃ v H', Inv X pins σ H' s' ∧ RelV v u ∧ Q v H'
def TP (X : Cx) (pins : List (Addr × Obj)) (σ : St) (Q : Bool → Hp → Prop) (b : Bool) (s' : Shared) : Prop := ∃ H', Inv X pins σ H' s' ∧ Q b H'
def AP (X : Cx) (pins : List (Addr × Obj)) (σ : St) (Q : List V → Hp → Prop) (us : List Value) (s' : Shared) : Prop := ∃ vs H', Inv X pins σ H' s' ∧ Vals vs us ∧ Q vs H'
def SP (X : Cx) (pins : List (Addr × Obj)) (D : Ends) (f : Flow) (s' : Shared) : Prop :=
  match f with
  | .next => ∃ σ' H', Inv X pins σ' H' s' ∧ D.nx σ' H'
  | .brk => ∃ σ' H', Inv X pins σ' H' s' ∧ D.bk σ' H'
  | .cont => ∃ σ' H', Inv X pins σ' H' s' ∧ D.ct σ' H'
  | .ret u => ∃ v σ' H', Inv X pins σ' H' s' ∧ RelV v u ∧ D.rt v H'
def PE (X : Cx) (e : Expr) (t : TE) : Prop :=
  ∀ (pins : List (Addr × Obj)) (s : Shared) (σ : St) (H : Hp) (Q : VK), Inv X pins σ H s → t σ H Q → wpAny (model X.prog X.w) X.A (eval e X.env) (EP X pins σ Q) X.xe s
def PT (X : Cx) (e : Expr) (t : TT) : Prop :=
  ∀ (pins : List (Addr × Obj)) (s : Shared) (σ : St) (H : Hp) (Q : Bool → Hp → Prop), Inv X pins σ H s → t σ H Q → wpAny (model X.prog X.w) X.A (isTrue e X.env (eval e X.env)) (TP X pins σ Q) X.xe s
def PW (X : Cx) (e : Expr) (t : TT) : Prop :=
  ∀ (whole : Sem Value) (pins : List (Addr × Obj)) (s : Shared) (σ : St) (H : Hp) (Q : Bool → Hp → Prop), Inv X pins σ H s → t σ H Q → wpAny (model X.prog X.w) X.A (isTrue e X.env whole) (TP X pins σ Q) X.xe s
theorem PW.pt {X : Cx} {e : Expr} {t : TT} (h : PW X e t) : PT X e t := h _
def PA (X : Cx) (es : List Expr) (t : TA) : Prop :=
  ∀ (pos : Pos) (pins : List (Addr × Obj)) (s : Shared) (σ : St) (H : Hp) (Q : List V → Hp → Prop), Inv X pins σ H s → t σ H Q → wpAny (model X.prog X.w) X.A (spliced (backTo pos (starEach es X.env))) (AP X pins σ Q) X.xe s
def PS (X : Cx) (st : Stmt) (t : TS) : Prop :=
  ∀ (pins : List (Addr × Obj)) (s : Shared) (σ : St) (H : Hp) (D : Ends), Inv X pins σ H s → t D σ H → wpAny (model X.prog X.w) X.A (exec st X.env) (SP X pins D) X.xe s
def PSs (X : Cx) (st : List Stmt) (t : TS) : Prop :=
  ∀ (pins : List (Addr × Obj)) (s : Shared) (σ : St) (H : Hp) (D : Ends), Inv X pins σ H s → t D σ H → wpAny (model X.prog X.w) X.A (execs st X.env) (SP X pins D) X.xe s
theorem thn {α : Type} {t : Sem α} {Q Q' : α → Shared → Prop} {M : Model} {A : Around} {E : Value → Shared → Prop} {s : Shared} (h : wpAny M A t Q E s) (hQ : ∀ a s, Q a s → Q' a s) : wpAny M A t Q' E s := wpAny_mono h hQ fun _ _ x => x
end L2
namespace L2
open PySem PySem.Spec PyProof.Rows
section
variable {X : Cx}
theorem bin {a b : Expr} {ta tb : TE} (ha : PE X a ta) (hb : PE X b tb) {pins : List (Addr × Obj)} {s : Shared} {σ : St} {H : Hp} {R : V → V → Hp → Prop} (I : Inv X pins σ H s) (h : ta σ H fun x H1 => tb σ H1 fun y H2 => R x y H2)
    {α : Type} {Q : α → Shared → Prop} {f : Value → Value → Sem α}
    (hf : ∀ v u s2 x y H2, Inv X pins σ H2 s2 → RelV x v → RelV y u → R x y H2 → wpAny (model X.prog X.w) X.A (f v u) Q X.xe s2) :
    wpAny (model X.prog X.w) X.A (eval a X.env) (fun v s₁ => wpAny (model X.prog X.w) X.A (eval b X.env) (fun u s₂ => wpAny (model X.prog X.w) X.A (f v u) Q X.xe s₂) X.xe s₁) X.xe s := by
  refine thn (ha pins s σ H _ I h) fun v s1 ⟨x, H1, I1, r1, q1⟩ => ?_
  refine thn (hb pins s1 σ H1 _ I1 q1) fun u s2 ⟨y, H2, I2, r2, q2⟩ => ?_
  exact hf v u s2 x y H2 I2 r1 r2 q2
def tVar (i : Nat) : TE := fun σ H Q => ∃ v, σ[i]? = some (some v) ∧ Q v H
def tC (v : V) : TE := fun _ H Q => Q v H
theorem pe_var {i : Nat} {x : Str} {pos : Pos} (hN : X.N[i]? = some x) (hv : Vis X.env.scope x) (hd : (x == ("__debug__" : Str)) = false := by decide) (hcd : (x == ("__classdict__" : Str)) = false := by decide) : PE X (.Name x pos) (tVar i) := by
  intro pins s σ H Q I h
  obtain ⟨v, e, h⟩ := h
  obtain ⟨m, hn, hl⟩ := I.loc
  obtain ⟨u, r, l⟩ := hl i x v hN e hv
  have fin : EP X pins σ Q u s := ⟨v, H, I, r, h⟩
  rcases l with ⟨hk, hm⟩ | ⟨hk, c, hc, hcell⟩
  · exact wpAny_Name (wpAny_loadName_local I.ok.kind hk hn hm fin) hd
  · rcases hk with hk | hk
    · exact wpAny_Name (wpAny_loadName_cell I.ok.kind hk hc hcell fin) hd
    · exact wpAny_Name (wpAny_loadName_free I.ok.kind hk hc hcell fin hcd) hd
theorem pe_int {i j pos} : PE X (.Constant (.int i) j pos) (tC (.int i)) := fun _ _ _ H _ I h => wpAny_Constant_int ⟨.int i, H, I.tok _, ⟨_, rfl⟩, h⟩
theorem pe_bl {b j pos} : PE X (.Constant (.bool b) j pos) (tC (.bl b)) := fun _ _ _ H _ I h => Constant_bool ⟨.bl b, H, I, rfl, h⟩
def Gl (X : Cx) (x : Str) : Prop := X.env.kindOf x = some .globalImplicit
theorem ld_glob {E : Value → Shared → Prop} {pins : List (Addr × Obj)} {s : Shared} {σ : St} {H : Hp} {x : Str} {u : Value} {pos : Pos} {Q : Value → Shared → Prop} (I : Inv X pins σ H s) (hg : Gl X x) (hm : X.mg x = some u) (h : Q u s)
    (hd : (x == ("__debug__" : Str)) = false := by decide) : wpAny (model X.prog X.w) X.A (eval (.Name x pos) X.env) Q E s :=
  Calls.Name_function_global I.ok.kind hg (Calls.loadGlobal_global (by rw [I.ok.glob]; exact I.mod.glob.keeps I.bk) hm h) hd
theorem ld_blt {E : Value → Shared → Prop} {pins : List (Addr × Obj)} {s : Shared} {σ : St} {H : Hp} {x : Str} {u : Value} {pos : Pos} {Q : Value → Shared → Prop} (I : Inv X pins σ H s) (hg : Gl X x) (hm : X.mg x = none) (hv : bootBuiltins x = some u) (h : Q u s)
    (hn : x ≠ "__name__" := by decide) (hd : (x == ("__debug__" : Str)) = false := by decide) : wpAny (model X.prog X.w) X.A (eval (.Name x pos) X.env) Q E s := by
  obtain ⟨mb, h1, h2⟩ := I.mod.blt
  exact Calls.Name_function_global I.ok.kind hg (Calls.loadGlobal_builtin (by rw [I.ok.glob]; exact I.mod.glob.keeps I.bk) hm (by rw [I.ok.blt]; exact h1.keeps I.bk) ((h2 x hn).trans hv) h) hd
theorem pe_glob {x : Str} {v : V} {u : Value} {pos : Pos} (hg : Gl X x) (hm : X.mg x = some u) (r : RelV v u) (hd : (x == ("__debug__" : Str)) = false := by decide) : PE X (.Name x pos) (tC v) :=
  fun _ _ _ H _ I h => ld_glob I hg hm ⟨v, H, I, r, h⟩ hd
variable {a b : Expr} {ta tb : TE} {pos : Pos}
def PC (X : Cx) (op : CmpOp) (a b : Expr) (t : TE) : Prop :=
  ∀ (pins : List (Addr × Obj)) (s : Shared) (σ : St) (H : Hp) (Q : VK), Inv X pins σ H s → t σ H Q →
    wpAny (model X.prog X.w) X.A (eval a X.env) (fun v s₁ => wpAny (model X.prog X.w) X.A (eval b X.env) (fun u s₂ => wpAny (model X.prog X.w) X.A (compareOp op v u) (EP X pins σ Q) X.xe s₂) X.xe s₁) X.xe s
def tB (t : TE) : TT := fun σ H Q => t σ H fun x H1 => ∃ c, x = .bl c ∧ Q c H1
theorem pt_cmp {op : CmpOp} {t : TE} (h : PC X op a b t) (h1 : behindInMarks op b = false := by first | exact nobehind _ (by decide) (by decide) | rfl) : PT X (.Compare a [op] [b] pos) (tB t) := by
  intro pins s σ H Q I hw
  refine wpAny_isTrue_Compare1 (thn (h pins s σ H _ I hw) fun v s1 h1 => thn h1 fun u s2 h2 => thn h2 fun c s3 ⟨x, H1, I1, r1, q1⟩ => ?_) h1
  obtain ⟨d, rfl, q⟩ := q1
  cases r1
  exact wpAny_truthy_bool ⟨H1, I1, q⟩
theorem pt_val {e : Expr} {t : TE} (h : PE X e t) (he : ∀ whole, isTrue e X.env whole = (do let v ← whole; standAt e.pos; holding [v] (truthy v)) := by intro _; rfl) : PT X e (tB t) := by
  intro pins s σ H Q I hw
  refine isTrue_plain (thn (h pins s σ H _ I hw) fun v s1 ⟨x, H1, I1, r1, q1⟩ => ?_) (he _)
  obtain ⟨d, rfl, q⟩ := q1
  cases r1
  exact wpAny_truthy_bool ⟨H1, I1, q⟩
variable {tA tB' : TT} {rest : List Expr}
def tAnd (t u : TT) : TT := fun σ H Q => t σ H fun c H1 => if c = true then u σ H1 Q else Q false H1
def tOr (t u : TT) : TT := fun σ H Q => t σ H fun c H1 => if c = true then Q true H1 else u σ H1 Q
def tNot (t : TT) : TT := fun σ H Q => t σ H fun c H1 => Q (!c) H1
theorem pw_and1 (ha : PT X a tA) : PW X (.BoolOp .And [a] pos) tA := by
  intro wh pins s σ H Q I h
  refine isTrue_and (thn (ha pins s σ H Q I h) fun c s1 e => ?_)
  cases c with
  | true => exact isTrue_and_nil e
  | false => exact e
theorem pw_or1 (ha : PT X a tA) : PW X (.BoolOp .Or [a] pos) tA := by
  intro wh pins s σ H Q I h
  refine isTrue_or (thn (ha pins s σ H Q I h) fun c s1 e => ?_)
  cases c with
  | false => exact isTrue_or_nil e
  | true => exact e
theorem pw_and (ha : PT X a tA) (hb : PW X (.BoolOp .And (b :: rest) pos) tB') : PW X (.BoolOp .And (a :: b :: rest) pos) (tAnd tA tB') := by
  intro wh pins s σ H Q I h
  refine isTrue_and (thn (ha pins s σ H _ I h) fun c s1 ⟨H1, I1, q1⟩ => ?_)
  cases c with
  | true => exact hb wh pins s1 σ H1 Q I1 q1
  | false => exact ⟨H1, I1, q1⟩
theorem pw_or (ha : PT X a tA) (hb : PW X (.BoolOp .Or (b :: rest) pos) tB') : PW X (.BoolOp .Or (a :: b :: rest) pos) (tOr tA tB') := by
  intro wh pins s σ H Q I h
  refine isTrue_or (thn (ha pins s σ H _ I h) fun c s1 ⟨H1, I1, q1⟩ => ?_)
  cases c with
  | true => exact ⟨H1, I1, q1⟩
  | false => exact hb wh pins s1 σ H1 Q I1 q1
theorem pt_not (ha : PT X a tA) : PT X (.UnaryOp .Not a pos) (tNot tA) := by
  intro pins s σ H Q I h
  exact isTrue_not (ha pins s σ H (fun c H1 => Q (!c) H1) I h)
def tAndV (ta tb : TE) : TE := fun σ H Q => ta σ H fun x H1 => ∃ c, x = .bl c ∧ if c = true then tb σ H1 Q else Q (.bl false) H1
def tOrV (ta tb : TE) : TE := fun σ H Q => ta σ H fun x H1 => ∃ c, x = .bl c ∧ if c = true then Q (.bl true) H1 else tb σ H1 Q
def tNotV (ta : TE) : TE := fun σ H Q => ta σ H fun x H1 => ∃ c, x = .bl c ∧ Q (.bl (!c)) H1
theorem pe_one {op} {t : TE} (h : PE X a t) : PE X (.BoolOp op [a] pos) t := fun pins s σ H Q I hw => BoolOp_one (h pins s σ H Q I hw)
theorem pe_and (ha : PE X a ta) (hb : PE X (.BoolOp .And (b :: rest) pos) tb) : PE X (.BoolOp .And (a :: b :: rest) pos) (tAndV ta tb) := by
  intro pins s σ H Q I h
  refine BoolOp_and (thn (ha pins s σ H _ I h) fun v s1 ⟨x, H1, I1, r1, q1⟩ => ?_)
  obtain ⟨c, rfl, q1⟩ := q1
  cases r1
  refine wpAny_truthy_bool ?_
  cases c with
  | true => exact hb pins s1 σ H1 Q I1 q1
  | false => exact ⟨.bl false, H1, I1, rfl, q1⟩
theorem pe_or (ha : PE X a ta) (hb : PE X (.BoolOp .Or (b :: rest) pos) tb) : PE X (.BoolOp .Or (a :: b :: rest) pos) (tOrV ta tb) := by
  intro pins s σ H Q I h
  refine BoolOp_or (thn (ha pins s σ H _ I h) fun v s1 ⟨x, H1, I1, r1, q1⟩ => ?_)
  obtain ⟨c, rfl, q1⟩ := q1
  cases r1
  refine wpAny_truthy_bool ?_
  cases c with
  | false => exact hb pins s1 σ H1 Q I1 q1
  | true => exact ⟨.bl true, H1, I1, rfl, q1⟩
theorem pe_not (ha : PE X a ta) : PE X (.UnaryOp .Not a pos) (tNotV ta) := by
  intro pins s σ H Q I h
  refine UnaryOp_ (thn (ha pins s σ H _ I h) fun v s1 ⟨x, H1, I1, r1, q1⟩ => ?_)
  obtain ⟨c, rfl, q1⟩ := q1
  cases r1
  exact not_of (wpAny_truthy_bool ⟨.bl (!c), H1, I1, rfl, q1⟩)
def tIf (t : TT) (ta tb : TE) : TE := fun σ H Q => t σ H fun c H1 => if c = true then ta σ H1 Q else tb σ H1 Q
theorem pe_ifExp {c : Expr} (hc : PT X c tA) (ha : PE X a ta) (hb : PE X b tb) : PE X (.IfExp c a b pos) (tIf tA ta tb) := by
  intro pins s σ H Q I h
  refine wpAny_IfExp (thn (hc pins s σ H _ I h) fun d s1 ⟨H1, I1, q1⟩ => ?_)
  cases d with
  | true => exact ha pins s1 σ H1 Q I1 q1
  | false => exact hb pins s1 σ H1 Q I1 q1
end
end L2
namespace L2
open PySem PySem.Spec PyProof.Rows
def SqL (K : PySem.W.Frag) (H : Hp) (a : Addr) (xs : List V) : Prop :=
  Rd H a (.lst xs) ∨
    ∃ (o : Obj) (its : Array Value) (n : Nat), K.lookup a = some o ∧ o.cls = .type "list" ∧ o.dict = none ∧ o.data = .seq its n ∧ its.size ≤ sizeLine ∧ Vals xs its.toList
def SqT (K : PySem.W.Frag) (H : Hp) (a : Addr) (xs : List V) : Prop :=
  Rd H a (.tup xs) ∨
    ∃ (o : Obj) (its : Array Value) (n : Nat), K.lookup a = some o ∧ o.cls = .type "tuple" ∧ o.data = .seq its n ∧ its.size ≤ sizeLine ∧ Vals xs its.toList
def absV : Value → Option V
  | .none => some .non
  | .bool b => some (.bl b)
  | .int i _ => some (.int i)
  | .str x _ => some (.str x)
  | .bytes b _ => some (.byt b)
  | .float b _ => some (.flt b)
  | .ref a => some (.ref a)
  | .type n => some (.ty n)
  | _ => none
theorem RelV.abs {x : V} {u : Value} (r : RelV x u) : absV u = some x := by
  cases x with
  | non => cases r; rfl
  | bl _ => cases r; rfl
  | int _ => obtain ⟨t, rfl⟩ := r; rfl
  | str _ => obtain ⟨t, rfl⟩ := r; rfl
  | byt _ => obtain ⟨t, rfl⟩ := r; rfl
  | flt _ => obtain ⟨t, rfl⟩ := r; rfl
  | ref _ => cases r; rfl
  | ty _ => cases r; rfl
theorem RelV.inj {x y : V} {u : Value} (r : RelV x u) (q : RelV y u) : x = y := Option.some.inj (r.abs.symm.trans q.abs)
theorem Vals.inj : ∀ {xs ys : List V} {us : List Value}, Vals xs us → Vals ys us → xs = ys
  | _, _, _, .nil, .nil => rfl
  | _, _, _, .cons r t, .cons r' t' => by rw [r.inj r', Vals.inj t t']
section
variable {X : Cx} {pins : List (Addr × Obj)} {σ : St} {H : Hp} {s : Shared} {a : Addr} {xs ys : List V}
theorem SqL.of {K : PySem.W.Frag} (h : H a = some (.lst xs)) : SqL K H a xs := .inl (.inl h)
theorem SqT.of {K : PySem.W.Frag} (h : H a = some (.tup xs)) : SqT K H a xs := .inl (.inl h)
theorem Inv.list (I : Inv X pins σ H s) (h : SqL X.K H a xs) : ∃ its : List Value, Vals xs its ∧ PlainL s.heap a its.toArray ∧ xs.length ≤ sizeLine := by
  rcases h with h | ⟨o, its, n, hk, hc, hd, hs, hz, r⟩
  · obtain ⟨z, its, n, r, e⟩ := h.ok I.hok
    exact ⟨its, r, ⟨_, n, e, rfl, rfl, rfl⟩, z⟩
  · refine ⟨its.toList, r, ⟨o, n, I.kIn a o hk, hc, hd, by simpa using hs⟩, ?_⟩
    have e := r.length
    simp only [Array.length_toList] at e
    omega
theorem Inv.tuple (I : Inv X pins σ H s) (h : SqT X.K H a xs) : ∃ its : List Value, Vals xs its ∧ IsTup s.heap a its.toArray ∧ xs.length ≤ sizeLine := by
  rcases h with h | ⟨o, its, n, hk, hc, hs, hz, r⟩
  · obtain ⟨z, its, r, p⟩ := h.ok I.hok
    exact ⟨its, r, p, z⟩
  · refine ⟨its.toList, r, ⟨o, I.kIn a o hk, hc, n, by simpa using hs⟩, ?_⟩
    have e := r.length
    simp only [Array.length_toList] at e
    omega
theorem Inv.list_inj (I : Inv X pins σ H s) (h : SqL X.K H a xs) (h' : SqL X.K H a ys) : xs = ys := by
  obtain ⟨its, r, ⟨o, n, e, _, _, d⟩, _⟩ := I.list h
  obtain ⟨its', r', ⟨o', n', e', _, _, d'⟩, _⟩ := I.list h'
  rw [e] at e'; cases e'
  rw [d] at d'
  injection d' with d1 _
  have : its = its' := by simpa using congrArg Array.toList d1
  subst this
  exact r.inj r'
end
abbrev Cx.wish (X : Cx) (E : Value → Shared → Prop) : Cx := { X with xe := E }
abbrev Cx.nox (X : Cx) : Cx := X.wish fun _ _ => False
theorem Cx.Ok.wish {X : Cx} (ok : X.Ok) (E : Value → Shared → Prop) : (X.wish E).Ok :=
  ⟨ok.mod, ok.kind, ok.glob, ok.blt, ok.above, ok.inj, ok.has, ok.cab, ok.hd, ok.frames, ok.stk, ok.exf, ok.bs, ok.bsz, ok.noex, ok.exfs, ok.funs, ok.frf⟩
theorem Cx.Ok.unwish {X : Cx} {E : Value → Shared → Prop} (ok : (X.wish E).Ok) : X.Ok :=
  ⟨ok.mod, ok.kind, ok.glob, ok.blt, ok.above, ok.inj, ok.has, ok.cab, ok.hd, ok.frames, ok.stk, ok.exf, ok.bs, ok.bsz, ok.noex, ok.exfs, ok.funs, ok.frf⟩
section
variable {X : Cx} {pins : List (Addr × Obj)} {σ : St} {H : Hp} {s : Shared} {E : Value → Shared → Prop}
theorem Inv.wish (I : Inv X pins σ H s) (E : Value → Shared → Prop) : Inv (X.wish E) pins σ H s := ⟨I.ok.wish E, I.os, I.bare, I.base, I.loc, I.cell, I.free, I.freeC, I.pin, I.hok, I.len⟩
theorem Inv.unwish (I : Inv (X.wish E) pins σ H s) : Inv X pins σ H s := ⟨I.ok.unwish, I.os, I.bare, I.base, I.loc, I.cell, I.free, I.freeC, I.pin, I.hok, I.len⟩
theorem SP.unwish {D : Ends} {f : Flow} {s' : Shared} (h : SP (X.wish E) pins D f s') : SP X pins D f s' := by
  cases f with
  | next => obtain ⟨σ', H', I, q⟩ := h; exact ⟨σ', H', I.unwish, q⟩
  | brk => obtain ⟨σ', H', I, q⟩ := h; exact ⟨σ', H', I.unwish, q⟩
  | cont => obtain ⟨σ', H', I, q⟩ := h; exact ⟨σ', H', I.unwish, q⟩
  | ret u => obtain ⟨v, σ', H', I, r, q⟩ := h; exact ⟨v, σ', H', I.unwish, r, q⟩
theorem PSs.nox {st : List Stmt} {t : TS} (h : PSs X.nox st t) : PSs X st t := fun pins s σ H D I hw =>
  wpAny_mono (h pins s σ H D (I.wish _) hw) (fun _ _ q => q.unwish) fun _ _ z => False.elim z
end
section
variable {X : Cx} {st : Stmt} {rest : List Stmt} {t u : TS} {e : Expr} {te : TE} {pos : Pos}
def tNext : TS := fun D σ H => D.nx σ H
def tSeq (t u : TS) : TS := fun D σ H => t { D with nx := u D } σ H
theorem pss_nil : PSs X [] tNext := fun _ _ σ H _ I h => wpAny_execs_nil ⟨σ, H, I, h⟩
theorem pss_cons (h1 : PS X st t) (h2 : PSs X rest u) : PSs X (st :: rest) (tSeq t u) := by
  intro pins s σ H D I h
  refine wpAny_execs_cons (thn (h1 pins s σ H { D with nx := u D } I h) fun f s1 q => ?_)
  cases f with
  | next =>
    obtain ⟨σ', H', I', q⟩ := q
    exact h2 pins s1 σ' H' D I' q
  | ret v => exact q
  | brk => exact q
  | cont => exact q
theorem pss_one (h1 : PS X st t) : PSs X [st] t := by
  intro pins s σ H D I h
  refine wpAny_execs_cons (thn (h1 pins s σ H D I h) fun f s1 q => ?_)
  cases f with
  | next => exact wpAny_execs_nil q
  | ret v => exact q
  | brk => exact q
  | cont => exact q
theorem Inv.quiet {pins : List (Addr × Obj)} {σ : St} {H : Hp} {s : Shared} (I : Inv X pins σ H s) : interactive X.env = false := by simp [interactive, I.ok.kind]
def tDrop (te : TE) : TS := fun D σ H => te σ H fun _ H1 => D.nx σ H1
theorem ps_expr (he : PE X e te) (hs : swapsWith e none pos.line X.env = pure false := by rfl) : PS X (.Expr e pos) (tDrop te) := by
  intro pins s σ H D I h
  exact wpAny_Expr_any (thn (he pins s σ H _ I h) fun v s1 ⟨x, H1, I1, r1, q1⟩ => ⟨σ, H1, I1, q1⟩) I.quiet hs
def tRet (te : TE) : TS := fun D σ H => te σ H D.rt
theorem ps_ret (he : PE X e te) : PS X (.Return (some e) pos) (tRet te) := by
  intro pins s σ H D I h
  exact wpAny_Return_some (thn (he pins s σ H _ I h) fun v s1 ⟨x, H1, I1, r1, q1⟩ => ⟨x, σ, H1, I1, r1, q1⟩)
def tRetN : TS := fun D _ H => D.rt .non H
theorem ps_retN : PS X (.Return none pos) tRetN := fun _ _ σ H _ I h => wpAny_Return_none ⟨.non, σ, H, I, rfl, h⟩
def tIfS (c : TT) (t u : TS) : TS := fun D σ H => c σ H fun b H1 => if b = true then t D σ H1 else u D σ H1
theorem ps_if {c : Expr} {a b : List Stmt} {tc : TT} (hc : PT X c tc) (ha : PSs X a t) (hb : PSs X b u) : PS X (.If c a b pos) (tIfS tc t u) := by
  intro pins s σ H D I h
  refine wpAny_If (thn (hc pins s σ H _ I h) fun d s1 ⟨H1, I1, q1⟩ => ?_)
  cases d with
  | true => exact ha pins s1 σ H1 D I1 q1
  | false => exact hb pins s1 σ H1 D I1 q1
def tNever : TS := fun _ _ _ => False
theorem ps_never : PS X st tNever := fun _ _ _ _ _ _ h => h.elim
end
abbrev TG := V → St → Hp → (St → Hp → Prop) → Prop
def PG (X : Cx) (target : Expr) (t : TG) : Prop :=
  ∀ (pins : List (Addr × Obj)) (s : Shared) (σ : St) (H : Hp) (v : V) (u : Value) (Q : St → Hp → Prop), Inv X pins σ H s → RelV v u → t v σ H Q →
    wpAny (model X.prog X.w) X.A (assign target X.env u) (fun _ s' => ∃ σ' H', Inv X pins σ' H' s' ∧ Q σ' H') X.xe s
abbrev TSet := V → V → V → Hp → (Hp → Prop) → Prop
def PSet (X : Cx) (t : TSet) : Prop :=
  ∀ (pins : List (Addr × Obj)) (s : Shared) (σ : St) (H : Hp) (o i v : V) (ov iv u : Value) (Q : Hp → Prop), Inv X pins σ H s → RelV o ov → RelV i iv → RelV v u → t o i v H Q →
    wpAny (model X.prog X.w) X.A (setItem ov iv u) (fun _ s' => ∃ H', Inv X pins σ H' s' ∧ Q H') X.xe s
abbrev TIp := V → V → Hp → VK → Prop
def PIp (X : Cx) (op : Operator) (t : TIp) : Prop :=
  ∀ (pins : List (Addr × Obj)) (s : Shared) (σ : St) (H : Hp) (x y : V) (v u : Value) (Q : VK), Inv X pins σ H s → RelV x v → RelV y u → t x y H Q →
    wpAny (model X.prog X.w) X.A (inplaceOp op v u) (EP X pins σ Q) X.xe s
section
variable {X : Cx} {pos : Pos}
def gName (i : Nat) : TG := fun v σ H Q => Q (σ.set i (some v)) H
theorem pg_name {i : Nat} {x : Str} (hN : X.N.Nodup) (hi : X.N[i]? = some x) (hx : Loc X.env.scope x) (hf : X.fn x = true ∨ X.env.scope.names.lookup x = some .local := by first | exact .inl rfl | exact .inr rfl | assumption) : PG X (.Name x pos) (gName i) := by
  intro pins s σ H v u Q I r h
  exact wpAny_assign_Name (store_ok I hN hi hx r (fun s' I' => ⟨_, H, I', h⟩) hf)
def tAsg (te : TE) (g : TG) : TS := fun D σ H => te σ H fun x H1 => g x σ H1 D.nx
theorem ps_set {i : Nat} {x : Str} {e : Expr} {te : TE} {pos' : Pos} (hN : X.N.Nodup) (hi : X.N[i]? = some x) (hx : Loc X.env.scope x) (he : PE X e te) (hs : swapsWith e (some (.Name x pos')) pos.line X.env = pure false := by rfl) (hf : X.fn x = true ∨ X.env.scope.names.lookup x = some .local := by first | exact .inl rfl | exact .inr rfl | assumption) :
    PS X (.Assign [.Name x pos'] e pos) (tAsg te (gName i)) := by
  intro pins s σ H D I h
  refine wpAny_Assign_Name (thn (he pins s σ H _ I h) fun v s1 ⟨y, H1, I1, r1, q1⟩ => ?_) hs
  exact store_ok I1 hN hi hx r1 (fun s2 I2 => ⟨_, H1, I2, q1⟩) hf
def tAug (i : Nat) (te : TE) (ti : TIp) : TS := fun D σ H => ∃ x, σ[i]? = some (some x) ∧ te σ H fun y H1 => ti x y H1 fun z H2 => D.nx (σ.set i (some z)) H2
theorem ps_aug {i : Nat} {x : Str} {e : Expr} {te : TE} {op : Operator} {ti : TIp} {pos' : Pos} (hN : X.N.Nodup) (hi : X.N[i]? = some x) (hx : Loc X.env.scope x) (he : PE X e te) (ho : PIp X op ti) (hf : X.fn x = true ∨ X.env.scope.names.lookup x = some .local := by first | exact .inl rfl | exact .inr rfl | assumption) :
    PS X (.AugAssign (.Name x pos') op e pos) (tAug i te ti) := by
  intro pins s σ H D I h
  obtain ⟨v, e1, h⟩ := h
  obtain ⟨m, hn, hl⟩ := I.loc
  have vis : Vis X.env.scope x := by rcases hx with k | k; exact .inl k; exact .inr (.inl k)
  obtain ⟨u, r, l⟩ := hl i x v hi e1 vis
  refine wpAny_AugAssign_Name ?_
  have go : wpAny (model X.prog X.w) X.A (eval e X.env) (fun w s₂ => wpAny (model X.prog X.w) X.A (inplaceOp op u w) (fun r s₃ => wpAny (model X.prog X.w) X.A (storeName X.env x r) (fun _ => SP X pins D .next) X.xe s₃) X.xe s₂) X.xe s := by
    refine thn (he pins s σ H _ I h) fun w s1 ⟨y, H1, I1, r1, q1⟩ => ?_
    refine thn (ho pins s1 σ H1 v y u w _ I1 r r1 q1) fun z s2 ⟨zv, H2, I2, r2, q2⟩ => ?_
    exact store_ok I2 hN hi hx r2 (fun s3 I3 => ⟨_, H2, I3, q2⟩) hf
  rcases l with ⟨hk, hm⟩ | ⟨hk, c, hc, hcell⟩
  · exact wpAny_loadName_local I.ok.kind hk hn hm go
  · rcases hk with hk | hk
    · exact wpAny_loadName_cell I.ok.kind hk hc hcell go
    · rcases hx with k | k
      · have : X.env.scope.names.lookup x = some .free := hk
        rw [k] at this; cases this
      · have : X.env.scope.names.lookup x = some .free := hk
        rw [k] at this; cases this
def tAugS (to ti te : TE) (tget : V → V → Hp → VK → Prop) (tip : TIp) (tset : TSet) : TS := fun D σ H => to σ H fun o H1 => ti σ H1 fun i H2 => tget o i H2 fun x H3 => te σ H3 fun y H4 => tip x y H4 fun z H5 => tset o i z H5 fun H6 => D.nx σ H6
def PGet (X : Cx) (t : V → V → Hp → VK → Prop) : Prop :=
  ∀ (pins : List (Addr × Obj)) (s : Shared) (σ : St) (H : Hp) (o i : V) (ov iv : Value) (Q : VK), Inv X pins σ H s → RelV o ov → RelV i iv → t o i H Q →
    wpAny (model X.prog X.w) X.A (getItem ov iv) (EP X pins σ Q) X.xe s
theorem ps_augS {o i e : Expr} {to ti te : TE} {tget : V → V → Hp → VK → Prop} {tip : TIp} {tset : TSet} {op : Operator} {tpos : Pos} (ho : PE X o to) (hi : PE X i ti) (hg : PGet X tget) (he : PE X e te) (hp : PIp X op tip) (hs : PSet X tset)
    (ha : ∀ ov iv new, augStore i ov iv new = (do holding [new, ov, iv] (setItem ov iv new); release [new, ov, iv] []; pure .next) := by intros; rfl) : PS X (.AugAssign (.Subscript o i tpos) op e pos) (tAugS to ti te tget tip tset) := by
  intro pins s σ H D I h
  refine wpAny_AugAssign_SubscriptAny (thn (ho pins s σ H _ I h) fun ov s1 ⟨x1, H1, I1, r1, q1⟩ => ?_) ha
  refine thn (hi pins s1 σ H1 _ I1 q1) fun iv s2 ⟨x2, H2, I2, r2, q2⟩ => ?_
  refine thn (hg pins s2 σ H2 x1 x2 ov iv _ I2 r1 r2 q2) fun old s3 ⟨x3, H3, I3, r3, q3⟩ => ?_
  refine thn (he pins s3 σ H3 _ I3 q3) fun v s4 ⟨x4, H4, I4, r4, q4⟩ => ?_
  refine thn (hp pins s4 σ H4 x3 x4 old v _ I4 r3 r4 q4) fun new s5 ⟨x5, H5, I5, r5, q5⟩ => ?_
  exact thn (hs pins s5 σ H5 x1 x2 x5 ov iv new _ I5 r1 r2 r5 q5) fun _ s6 ⟨H6, I6, q6⟩ => ⟨σ, H6, I6, q6⟩
def ipI (f : Int → Int → Int) : TIp := fun x y H Q => ∃ i j, x = .int i ∧ y = .int j ∧ Q (.int (f i j)) H
theorem ip_add : PIp X .Add (ipI fun i j => i + j) := by
  intro pins s σ H x y v u Q I r1 r2 h
  obtain ⟨i, j, e1, e2, q⟩ := h
  subst e1; subst e2
  obtain ⟨t, rfl⟩ := r1
  obtain ⟨t', rfl⟩ := r2
  exact iadd_int ⟨.int _, H, I.tok _, ⟨_, rfl⟩, q⟩
theorem ip_sub : PIp X .Sub (ipI fun i j => i - j) := by
  intro pins s σ H x y v u Q I r1 r2 h
  obtain ⟨i, j, e1, e2, q⟩ := h
  subst e1; subst e2
  obtain ⟨t, rfl⟩ := r1
  obtain ⟨t', rfl⟩ := r2
  exact isub_int ⟨.int _, H, I.tok _, ⟨_, rfl⟩, q⟩
end
section
variable {X : Cx} {pos : Pos}
def tWhile (c : TT) (tb : TS) : TS := fun D σ H => ∃ W : Nat → St → Hp → Prop, (∃ m, W m σ H) ∧ ∀ m σ H, W m σ H →
  c σ H fun b H1 => if b = true then ∃ N : St → Hp → Prop, (∀ σ' H', N σ' H' → ∃ m', m' < m ∧ W m' σ' H') ∧ tb { D with nx := N, ct := N, bk := D.nx } σ H1 else D.nx σ H1
theorem ps_while {c : Expr} {body : List Stmt} {tc : TT} {tb : TS} (hp : PassesOwn (model X.prog X.w) X.A X.env X.xe) (hc : PT X c tc) (hb : PSs X body tb) : PS X (.While c body [] pos) (tWhile tc tb) := by
  intro pins s σ H D I h
  obtain ⟨W, ⟨m0, w0⟩, turn⟩ := h
  refine wpAny_While (codeAny_whileLoop (fun n s' => ∃ σ' H', Inv X pins σ' H' s' ∧ W n σ' H') ?_ m0 ⟨σ, H, I, w0⟩)
  rintro n s1 ⟨σ1, H1, I1, w1⟩
  refine wpAny_passesOwn hp (thn (hc pins s1 σ1 H1 _ I1 (turn n σ1 H1 w1)) fun b s2 ⟨H2, I2, q2⟩ => ?_)
  cases b with
  | true =>
    obtain ⟨N, hN, q2⟩ := q2
    rw [if_pos rfl]
    refine wpAny_passesOwn hp (thn (hb pins s2 σ1 H2 _ I2 q2) fun f s3 q3 => ?_)
    cases f with
    | next =>
      obtain ⟨σ3, H3, I3, n3⟩ := q3
      obtain ⟨m', hm, w3⟩ := hN σ3 H3 n3
      exact ⟨m', hm, σ3, H3, I3, w3⟩
    | cont =>
      obtain ⟨σ3, H3, I3, n3⟩ := q3
      obtain ⟨m', hm, w3⟩ := hN σ3 H3 n3
      exact ⟨m', hm, σ3, H3, I3, w3⟩
    | brk => exact q3
    | ret v => exact q3
  | false =>
    rw [if_neg Bool.false_ne_true]
    exact wpAny_execs_nil ⟨σ1, H2, I2, q2⟩
end
structure It where
  go : Nat → Hp → Prop
  yld : Nat → Hp → V → Hp → Prop
  stop : Nat → Hp → Prop
def FpOk (X : Cx) (pins : List (Addr × Obj)) (H : Hp) (b : Addr) : Prop :=
  H b = none ∧ b ≠ X.env.locals ∧ b ∉ X.fs ∧ (b ∈ X.ex ∨ X.s_0.heap.objs.size ≤ b) ∧ (∀ x c, X.env.cells.lookup x = some c → c ≠ b) ∧ ∀ p ∈ X.pn ++ pins, p.1 ≠ b
theorem Inv.fpOk {X : Cx} {pins : List (Addr × Obj)} {σ : St} {H H' : Hp} {s : Shared} {b : Addr} (I : Inv X pins σ H s) (hb : s.heap.objs.size ≤ b) (hn : H' b = none) : FpOk X pins H' b := by
  refine ⟨hn, Nat.ne_of_gt (Nat.lt_of_lt_of_le I.lt hb), I.nofs hb, .inr (Nat.le_trans I.sz hb), fun x c e z => ?_, fun p hp z => ?_⟩
  · obtain ⟨v, q⟩ := I.cell x c e
    exact absurd (Nat.lt_of_lt_of_le q.lt (by rw [z]; exact hb)) (Nat.lt_irrefl _)
  · exact absurd (Nat.lt_of_lt_of_le (Heap.lt_size (I.pin p hp).1) (by rw [z]; exact hb)) (Nat.lt_irrefl _)
structure Turn (P : Program) (w : World) (K : PySem.W.Frag) (tg : Expr) (J : It) (fp : List Addr) (it : Addr) (tn : Nat → Heap → Prop) : Prop where
  mem : it ∈ fp
  obj : ∀ i h, tn i h → ∀ b ∈ fp, ∃ o, h.get? b = some o ∧ ∀ v, o.data ≠ .cell v
  keep : ∀ i h h', tn i h → (∀ b ∈ fp, ∀ o, h.get? b = some o → h'.get? b = some o) → tn i h'
  item : ∀ (X : Cx), X.prog = P → X.w = w → X.K = K → X.calm = true → ∀ (i : Nat) (pins : List (Addr × Obj)) (s : Shared) (σ : St) (H : Hp) (E : Value → Shared → Prop), Inv X pins σ H s → (∀ b ∈ fp, FpOk X pins H b) → tn i s.heap → J.go i H →
    wpAny (model P w) X.A (pyNext (.ref it)) (fun r s1 => ∃ u, r = some u ∧
      wpAny (model P w) X.A (letOwnedTupleGo tg (.ref it) u) (fun _ s2 => ∃ x H', Inv X pins σ H' s2 ∧ RelV x u ∧ J.yld i H x H' ∧ tn (i + 1) s2.heap ∧ ∀ b ∈ fp, H' b = none) E s1) E s
  done : ∀ (X : Cx), X.prog = P → X.w = w → X.K = K → X.calm = true → ∀ (i : Nat) (pins : List (Addr × Obj)) (s : Shared) (σ : St) (H : Hp) (E : Value → Shared → Prop), Inv X pins σ H s → (∀ b ∈ fp, FpOk X pins H b) → tn i s.heap → J.stop i H →
    wpAny (model P w) X.A (pyNext (.ref it)) (fun r s1 => r = none ∧ Inv X pins σ H s1) E s
  self : ∀ (A : Around) (i : Nat) (s : Shared) (Q : Value → Shared → Prop) (E : Value → Shared → Prop), tn i s.heap → Q (.ref it) s → wpAny (model P w) A (pyIter (.ref it)) Q E s
abbrev TI := St → Hp → (It → Hp → Prop) → Prop
def PIE (X : Cx) (pins : List (Addr × Obj)) (σ : St) (tg : Expr) (R : It → Hp → Prop) (itv : Value) (s2 : Shared) : Prop :=
  ∃ (it : Addr) (fp : List Addr) (tn : Nat → Heap → Prop) (J : It) (H' : Hp), itv = .ref it ∧ Inv X pins σ H' s2 ∧ Turn X.prog X.w X.K tg J fp it tn ∧ tn 0 s2.heap ∧ (∀ b ∈ fp, FpOk X pins H' b) ∧ R J H'
def PI (X : Cx) (tg iter : Expr) (wi : TI) : Prop :=
  ∀ (pins : List (Addr × Obj)) (s : Shared) (σ : St) (H : Hp) (R : It → Hp → Prop), Inv X pins σ H s → wi σ H R →
    wpAny (model X.prog X.w) X.A (eval iter X.env) (fun v s1 => wpAny (model X.prog X.w) X.A (pyIter v) (PIE X pins σ tg R) X.xe s1) X.xe s
theorem go_of {M : Model} {A : Around} {E : Value → Shared → Prop} {s : Shared} {tg : Expr} {it : Addr} {u : Value} {o : Obj} {n : String} {vs : Array Value} {Q : Unit → Shared → Prop} (ho : s.heap.get? it = some o) (hc : o.cls = .type n) (hd : o.data = .fields vs)
    (hn : ["enumerate", "zip", "dict_itemiterator", "dict_reverseitemiterator", "odict_iterator", "itertools.zip_longest", "itertools.pairwise"].contains n = false) (hQ : Q () s) : wpAny M A (letOwnedTupleGo tg (.ref it) u) Q E s := by
  unfold letOwnedTupleGo
  cases tg <;> first
    | exact wpAny_pure hQ
    | (cases u <;> first
        | exact wpAny_pure hQ
        | (refine wpAny_bind (wpAny_load ho ?_)
           rw [hc, hd]
           show wpAny M A (if (["enumerate", "zip", "dict_itemiterator", "dict_reverseitemiterator", "odict_iterator", "itertools.zip_longest", "itertools.pairwise"].contains n && vs[0]? == some (rawInt _)) = true then _ else _) Q E s
           rw [if_neg (by intro h; rw [hn, Bool.false_and] at h; cases h)]
           exact wpAny_pure hQ))
def Itl (K : PySem.W.Frag) (a : Addr) : It :=
  ⟨fun i H => ∃ xs x, SqL K H a xs ∧ xs[i]? = some x, fun i H x H' => H' = H ∧ ∀ xs, SqL K H a xs → xs[i]? = some x, fun i H => ∃ xs, SqL K H a xs ∧ xs.length ≤ i⟩
def Itr (lo : Int) (n : Nat) : It := ⟨fun i _ => i < n, fun i H x H' => H' = H ∧ x = .int (lo + i), fun i _ => n ≤ i⟩
theorem turn_list {P : Program} {w : World} {K : PySem.W.Frag} {tg : Expr} (a it : Addr) : Turn P w K tg (Itl K a) [it] it (fun i h => h.IsListIter it a i) where
  mem := by simp
  obj := fun i h st b hb => by
    have e : b = it := by simpa using hb
    subst e
    obtain ⟨o, e, c, d⟩ := st
    exact ⟨o, e, fun v z => by rw [d] at z; cases z⟩
  keep := fun i h h' st k => st.at fun o e => k it (by simp) o e
  item := by
    intro X hP hw hK hc i pins s σ H E I hf st hg
    subst hP hw hK
    obtain ⟨xs, x, hq, hx⟩ := hg
    obtain ⟨its, rv, p, hz⟩ := I.list hq
    obtain ⟨u, hu, ru⟩ := rv.get hx
    obtain ⟨f0, f1, f2, f3, f4, f5⟩ := hf it (by simp)
    refine wpAny_pyNext_list_item st p.isList (x := u) (by simpa using hu) fun h' st' sb => ?_
    have I1 : Inv X pins σ H { s with heap := h' } := I.turned (t' := s.toks) (fun b o hb e => (sb.2 b hb).trans e) f0 f1 f3 f4 f5
    obtain ⟨o, e, c, d⟩ := id st'
    exact ⟨u, rfl, go_of (s := { s with heap := h' }) e c d (by decide) ⟨x, H, I1, ru, ⟨rfl, fun ys hy => by rw [I.list_inj hy hq]; exact hx⟩, st', fun b hb => (hf b hb).1⟩⟩
  done := by
    intro X hP hw hK hc i pins s σ H E I hf st hg
    subst hP hw hK
    obtain ⟨xs, hq, hx⟩ := hg
    obtain ⟨its, rv, p, hz⟩ := I.list hq
    obtain ⟨f0, f1, f2, f3, f4, f5⟩ := hf it (by simp)
    have hl := rv.length
    exact wpAny_pyNext_list_end (I.ok.hd hc) st p.isList (by simp; omega) fun h' eb => ⟨rfl, I.turned (t' := s.toks) (fun b o hb e => eb b o hb e) f0 f1 f3 f4 f5⟩
  self := fun _ _ _ _ _ st h => wpAny_pyIter_listiter st h
theorem turn_range {P : Program} {w : World} {K : PySem.W.Frag} {tg : Expr} (it : Addr) (lo : Int) (n : Nat) : Turn P w K tg (Itr lo n) [it] it (fun i h => IsRangeIter h it (lo + (i : Nat) * 1) ((n : Int) - (i : Nat)) 1) where
  mem := by simp
  obj := fun i h st b hb => by
    have e : b = it := by simpa using hb
    subst e
    exact ⟨_, st, fun v z => by
      have z' : Data.fields _ = Data.cell v := z
      cases z'⟩
  keep := fun i h h' st k => k it (by simp) _ st
  item := by
    intro X hP hw hK hc i pins s σ H E I hf st hg
    subst hP hw hK
    obtain ⟨f0, f1, f2, f3, f4, f5⟩ := hf it (by simp)
    have W := Walks.range (prog := X.prog) (w := X.w) (I.ok.hd hc) it lo 1 n
    refine W.item i s _ _ hg st fun v h' tk hv st' kk => ?_
    obtain ⟨t, rfl⟩ := hv
    have I1 : Inv X pins σ H { s with heap := h', toks := tk } := I.turned (fun b o hb e => kk b o (by simpa using hb) e) f0 f1 f3 f4 f5
    refine ⟨_, rfl, go_of (s := { s with heap := h', toks := tk }) (n := "range_iterator") st' rfl rfl (by decide) ⟨.int (lo + i), H, I1, ⟨t, ?_⟩, ⟨rfl, rfl⟩, st', fun b hb => (hf b hb).1⟩⟩
    rw [Int.mul_one]
  done := by
    intro X hP hw hK hc i pins s σ H E I hf st hg
    subst hP hw hK
    obtain ⟨f0, f1, f2, f3, f4, f5⟩ := hf it (by simp)
    exact wpAny_pyNext_range_end (I.ok.hd hc) st (by have : n ≤ i := hg; omega) fun h' eb => ⟨rfl, I.turned (t' := s.toks) (fun b o hb e => eb b o hb e) f0 f1 f3 f4 f5⟩
  self := fun _ _ _ _ _ st h => wpAny_pyIter_rangeiter st h
end L2
namespace L2
open PySem PySem.Spec PyProof.Rows
section
variable {X : Cx} {tg : Expr}
def iList (K : PySem.W.Frag) (tl : TE) : TI := fun σ H R => tl σ H fun x H1 => ∃ a, x = .ref a ∧ (∃ xs, SqL K H1 a xs) ∧ R (Itl K a) H1
theorem pi_list {l : Expr} {tl : TE} (hl : PE X l tl) : PI X tg l (iList X.K tl) := by
  intro pins s σ H R I h
  refine thn (hl pins s σ H _ I h) fun v s1 ⟨x, H1, I1, r1, q1⟩ => ?_
  obtain ⟨a, e, ⟨xs, hq⟩, q⟩ := q1
  subst e
  cases r1
  obtain ⟨its, rv, p, hz⟩ := I1.list hq
  refine wpAny_pyIter_list p.isList ?_
  refine ⟨s1.heap.objs.size, [s1.heap.objs.size], _, _, H1, rfl, I1.kept (t' := s1.toks) fun b o e => Heap.get?_push_of_some _ e, turn_list a _, ⟨_, Heap.get?_push_size _ rfl, rfl, rfl⟩, fun b hb => ?_, q⟩
  have e : b = s1.heap.objs.size := by simpa using hb
  subst e
  exact I1.fpOk (Nat.le_refl _) (I1.hok.fresh (Nat.le_refl _))
theorem range_it {pins : List (Addr × Obj)} {σ : St} {H : Hp} {s : Shared} {R : It → Hp → Prop} {E : Value → Shared → Prop} {lo hi : Int} {t u v : Tok} {tk : Nat} (I : Inv X pins σ H s) (h1 : -(2 ^ 62) ≤ lo) (h2 : lo < 2 ^ 62) (h3 : -(2 ^ 62) ≤ hi) (h4 : hi < 2 ^ 62)
    (q : R (Itr lo (hi - lo).toNat) H) : wpAny (model X.prog X.w) X.A (pyIter (.ref s.heap.objs.size)) (PIE X pins σ tg R) E { s with heap := s.heap.push { cls := .type "range", data := .fields #[.int lo t, .int hi u, .int 1 v] }, toks := tk } := by
  refine wpAny_pyIter_range (IsRange.new ..) (small_one h1 h2 h3 h4) ?_
  have I1 : Inv X pins σ H { s with heap := s.heap.push { cls := .type "range", data := .fields #[.int lo t, .int hi u, .int 1 v] }, toks := tk } := I.kept fun b o e => Heap.get?_push_of_some _ e
  refine ⟨(s.heap.push { cls := .type "range", data := .fields #[.int lo t, .int hi u, .int 1 v] }).objs.size, [(s.heap.push { cls := .type "range", data := .fields #[.int lo t, .int hi u, .int 1 v] }).objs.size], _, _, H, rfl,
    I1.kept (t' := tk) fun b o e => Heap.get?_push_of_some _ e, turn_range _ lo (hi - lo).toNat, ?_, fun b hb => ?_, q⟩
  · have e1 : lo + ((0 : Nat) : Int) * 1 = lo := by simp
    have e2 : (((hi - lo).toNat : Nat) : Int) - ((0 : Nat) : Int) = Builtin.Range.rangeSize lo hi 1 := by rw [rangeSize_one]; split <;> omega
    show IsRangeIter _ _ (lo + ((0 : Nat) : Int) * 1) ((((hi - lo).toNat : Nat) : Int) - ((0 : Nat) : Int)) 1
    rw [e1, e2]
    exact Heap.get?_push_size _ rfl
  · have e : b = (s.heap.push { cls := .type "range", data := .fields #[.int lo t, .int hi u, .int 1 v] }).objs.size := by simpa using hb
    subst e
    exact I1.fpOk (Nat.le_refl _) (I1.hok.fresh (Nat.le_refl _))
def iRng1 (ta : TA) : TI := fun σ H R => ta σ H fun vs H1 => ∃ j : Int, vs = [.int j] ∧ -(2 ^ 62) ≤ j ∧ j < 2 ^ 62 ∧ R (Itr 0 j.toNat) H1
def iRng2 (ta : TA) : TI := fun σ H R => ta σ H fun vs H1 => ∃ i j : Int, vs = [.int i, .int j] ∧ (-(2 ^ 62) ≤ i ∧ i < 2 ^ 62 ∧ -(2 ^ 62) ≤ j ∧ j < 2 ^ 62) ∧ R (Itr i (j - i).toNat) H1
theorem pi_range1 {a : Expr} {ta : TA} {p pos : Pos} (hg : Gl X "range") (hm : X.mg "range" = none) (ha : PA X [a] ta) (hs : starEach [a] X.env = [(false, eval a X.env)] := by rfl) : PI X tg (.Call (.Name "range" p) [a] [] pos) (iRng1 ta) := by
  intro pins s σ H R I h
  refine Call_ (ld_blt I hg hm boot_range (PyProof.Rows.callWith_type1 (thn (ha pos pins s σ H _ I h) fun us s1 ⟨vs, H1, I1, r1, q1⟩ => ?_) hs rfl))
  obtain ⟨j, e, q1, q2, q⟩ := q1
  subst e
  cases r1 with
  | cons r rr =>
    cases rr
    obtain ⟨t, rfl⟩ := r
    exact call_range_1 (range_it I1 (by omega) (by omega) q1 q2 (by simpa using q))
theorem pi_range2 {a b : Expr} {ta : TA} {p pos : Pos} (hg : Gl X "range") (hm : X.mg "range" = none) (ha : PA X [a, b] ta) (hs : starEach [a, b] X.env = [(false, eval a X.env), (false, eval b X.env)] := by rfl) (hs2 : starEach [b] X.env = [(false, eval b X.env)] := by rfl) :
    PI X tg (.Call (.Name "range" p) [a, b] [] pos) (iRng2 ta) := by
  intro pins s σ H R I h
  refine Call_ (ld_blt I hg hm boot_range (PyProof.Rows.callWith_type1 (thn (ha pos pins s σ H _ I h) fun us s1 ⟨vs, H1, I1, r1, q1⟩ => ?_) (by rw [hs, hs2]) (by rw [hs2]; rfl)))
  obtain ⟨i, j, e, ⟨q1, q2, q3, q4⟩, q⟩ := q1
  subst e
  cases r1 with
  | cons r rr =>
    cases rr with
    | cons r' rr =>
      cases rr
      obtain ⟨t, rfl⟩ := r
      obtain ⟨t', rfl⟩ := r'
      exact call_range_2 (range_it I1 q1 q2 q3 q4 q)
def tFor (wi : TI) (g : TG) (tb : TS) : TS := fun D σ H => wi σ H fun J H1 => ∃ W : Nat → Nat → St → Hp → Prop, (∃ m, W 0 m σ H1) ∧ ∀ i m σ H, W i m σ H →
  (J.stop i H ∧ D.nx σ H) ∨ (J.go i H ∧ ∃ N : St → Hp → Prop, (∀ σ' H', N σ' H' → ∃ m', m' < m ∧ W (i + 1) m' σ' H') ∧ ∀ x H', J.yld i H x H' → g x σ H' fun σ2 H2 => tb { D with nx := N, ct := N, bk := D.nx } σ2 H2)
def pinsAt (fp : List Addr) (h : Heap) : List (Addr × Obj) := fp.filterMap fun b => (h.get? b).map fun o => (b, o)
theorem mem_pinsAt {fp : List Addr} {h : Heap} {b : Addr} {o : Obj} (hb : b ∈ fp) (e : h.get? b = some o) : (b, o) ∈ pinsAt fp h := List.mem_filterMap.mpr ⟨b, hb, by rw [e]; rfl⟩
theorem of_pinsAt {fp : List Addr} {h : Heap} {p : Addr × Obj} (hp : p ∈ pinsAt fp h) : p.1 ∈ fp ∧ h.get? p.1 = some p.2 := by
  obtain ⟨b, hb, e⟩ := List.mem_filterMap.mp hp
  cases q : h.get? b with
  | none => rw [q] at e; cases e
  | some o =>
    rw [q] at e
    have e' : (b, o) = p := Option.some.inj e
    subst e'
    exact ⟨hb, q⟩
theorem Inv.pinned {pins : List (Addr × Obj)} {σ : St} {H : Hp} {s : Shared} {fp : List Addr} (I : Inv X pins σ H s) (hf : ∀ b ∈ fp, FpOk X pins H b) (ho : ∀ b ∈ fp, ∃ o, s.heap.get? b = some o ∧ ∀ v, o.data ≠ .cell v) : Inv X (pins ++ pinsAt fp s.heap) σ H s :=
  I.pins_of fun p hp => (List.mem_append.mp hp).elim (fun z => I.pin p (List.mem_append_right _ z)) fun z => by
    obtain ⟨hb, e⟩ := of_pinsAt z
    obtain ⟨f0, f1, f2, _⟩ := hf p.1 hb
    obtain ⟨o, e', d⟩ := ho p.1 hb
    rw [e] at e'; cases e'
    exact ⟨e, f0, f1, f2, d⟩
theorem Inv.unpinned {pins pl : List (Addr × Obj)} {σ : St} {H : Hp} {s : Shared} (I : Inv X (pins ++ pl) σ H s) : Inv X pins σ H s := I.pins_of fun p hp => I.pin p (List.mem_append_right _ (List.mem_append_left _ hp))
theorem ps_for {iter : Expr} {body : List Stmt} {wi : TI} {g : TG} {tb : TS} {pos : Pos} (hp : PassesOwn (model X.prog X.w) X.A X.env X.xe) (hc : X.calm = true) (hi : PI X tg iter wi) (hg : PG X tg g) (hb : PSs X body tb)
    (hs : ∀ x, foldedSetIterable iter X.env x = pure x := by intro _; rfl) : PS X (.For tg iter body [] pos) (tFor wi g tb) := by
  intro pins s σ H D I h
  refine wpAny_For (thn (hi pins s σ H _ I h) fun v s1 h1 => thn h1 fun itv s2 h2 => ?_) hs
  obtain ⟨it, fp, tn, J, H2, e, I2, T, st2, f2, W, ⟨m0, w0⟩, turn⟩ := h2
  subst e
  -- what stays true of the iterator's objects through the loop
  have stat : ∀ {H' : Hp}, (∀ b ∈ fp, H' b = none) → ∀ b ∈ fp, FpOk X pins H' b := fun hn b hb => ⟨hn b hb, (f2 b hb).2⟩
  refine codeAny_forLoop_any (fun n s' => ∃ i σ' H', Inv X pins σ' H' s' ∧ tn i s'.heap ∧ (∀ b ∈ fp, H' b = none) ∧ W i n σ' H') ?_ m0 ⟨0, σ, H2, I2, st2, fun b hb => (f2 b hb).1, w0⟩
  rintro n s3 ⟨i, σ3, H3, I3, st3, fr3, w3⟩
  rcases turn i n σ3 H3 w3 with ⟨stop, qn⟩ | ⟨go, N, hN, step⟩
  · refine wpAny_passesOwn hp (thn (T.done X rfl rfl rfl hc i pins s3 σ3 H3 X.xe I3 (stat fr3) st3 stop) fun r s4 ⟨hr, I4⟩ => ?_)
    subst hr
    exact wpAny_execs_nil ⟨σ3, H3, I4, qn⟩
  · refine wpAny_passesOwn hp (thn (T.item X rfl rfl rfl hc i pins s3 σ3 H3 X.xe I3 (stat fr3) st3 go) fun r s4 ⟨u, hr, h4⟩ => ?_)
    subst hr
    refine wpAny_passesOwn hp (thn h4 fun _ s5 ⟨x, H5, I5, r5, y5, st5, fr5⟩ => ?_)
    have I5' := I5.pinned (stat fr5) (T.obj _ _ st5)
    refine wpAny_passesOwn hp (thn (hg _ s5 σ3 H5 x u _ I5' r5 (step x H5 y5)) fun _ s6 ⟨σ6, H6, I6, q6⟩ => ?_)
    refine wpAny_passesOwn hp (thn (hb _ s6 σ6 H6 _ I6 q6) fun f s7 q7 => ?_)
    have again : ∀ {σ7 : St} {H7 : Hp}, Inv X (pins ++ pinsAt fp s5.heap) σ7 H7 s7 → N σ7 H7 → ∃ m, m < n ∧ ∃ i σ' H', Inv X pins σ' H' s7 ∧ tn i s7.heap ∧ (∀ b ∈ fp, H' b = none) ∧ W i m σ' H' := fun {σ7 H7} I7 n7 => by
      obtain ⟨m', hm, w7⟩ := hN σ7 H7 n7
      refine ⟨m', hm, i + 1, σ7, H7, I7.unpinned, T.keep _ _ _ st5 fun b hb o e => (I7.pin (b, o) (List.mem_append_right _ (List.mem_append_right _ (mem_pinsAt hb e)))).1, fun b hb => ?_, w7⟩
      obtain ⟨o, e, d⟩ := T.obj _ _ st5 b hb
      exact (I7.pin (b, o) (List.mem_append_right _ (List.mem_append_right _ (mem_pinsAt hb e)))).2.1
    cases f with
    | next => obtain ⟨σ7, H7, I7, n7⟩ := q7; exact again I7 n7
    | cont => obtain ⟨σ7, H7, I7, n7⟩ := q7; exact again I7 n7
    | brk => obtain ⟨σ7, H7, I7, q7⟩ := q7; exact ⟨σ7, H7, I7.unpinned, q7⟩
    | ret v => obtain ⟨x7, σ7, H7, I7, r7, q7⟩ := q7; exact ⟨x7, σ7, H7, I7.unpinned, r7, q7⟩
end
theorem for_list {K : PySem.W.Frag} {a : Addr} {xs : List V} {g : TG} {tb : TS} {D : Ends} {σ : St} {H : Hp} (Pv : Nat → St → Hp → Prop) (h0 : Pv 0 σ H) (hl : ∀ i σ H, i ≤ xs.length → Pv i σ H → SqL K H a xs)
    (hs : ∀ i x σ H, xs[i]? = some x → Pv i σ H → g x σ H fun σ2 H2 => tb { D with nx := Pv (i + 1), ct := Pv (i + 1), bk := D.nx } σ2 H2) (hd : ∀ σ H, Pv xs.length σ H → D.nx σ H) :
    ∃ W : Nat → Nat → St → Hp → Prop, (∃ m, W 0 m σ H) ∧ ∀ i m σ H, W i m σ H →
      ((Itl K a).stop i H ∧ D.nx σ H) ∨ ((Itl K a).go i H ∧ ∃ N : St → Hp → Prop, (∀ σ' H', N σ' H' → ∃ m', m' < m ∧ W (i + 1) m' σ' H') ∧ ∀ x H', (Itl K a).yld i H x H' → g x σ H' fun σ2 H2 => tb { D with nx := N, ct := N, bk := D.nx } σ2 H2) := by
  refine ⟨fun i m σ H => m = xs.length - i ∧ i ≤ xs.length ∧ Pv i σ H, ⟨xs.length, by simp, Nat.zero_le _, h0⟩, ?_⟩
  rintro i m σ H ⟨rfl, hi, p⟩
  have q := hl i σ H hi p
  by_cases hlt : i < xs.length
  · refine .inr ⟨⟨xs, xs[i], q, by simp [hlt]⟩, Pv (i + 1), fun σ' H' p' => ⟨xs.length - (i + 1), by omega, rfl, hlt, p'⟩, fun x H' y => ?_⟩
    obtain ⟨e, y⟩ := y
    subst e
    exact hs i x σ _ (y xs q) p
  · have e : i = xs.length := by omega
    subst e
    exact .inl ⟨⟨xs, q, Nat.le_refl _⟩, hd σ H p⟩
theorem for_range {lo : Int} {n : Nat} {g : TG} {tb : TS} {D : Ends} {σ : St} {H : Hp} (Pv : Nat → St → Hp → Prop) (h0 : Pv 0 σ H)
    (hs : ∀ i σ H, i < n → Pv i σ H → g (.int (lo + i)) σ H fun σ2 H2 => tb { D with nx := Pv (i + 1), ct := Pv (i + 1), bk := D.nx } σ2 H2) (hd : ∀ σ H, Pv n σ H → D.nx σ H) :
    ∃ W : Nat → Nat → St → Hp → Prop, (∃ m, W 0 m σ H) ∧ ∀ i m σ H, W i m σ H →
      ((Itr lo n).stop i H ∧ D.nx σ H) ∨ ((Itr lo n).go i H ∧ ∃ N : St → Hp → Prop, (∀ σ' H', N σ' H' → ∃ m', m' < m ∧ W (i + 1) m' σ' H') ∧ ∀ x H', (Itr lo n).yld i H x H' → g x σ H' fun σ2 H2 => tb { D with nx := N, ct := N, bk := D.nx } σ2 H2) := by
  refine ⟨fun i m σ H => m = n - i ∧ i ≤ n ∧ Pv i σ H, ⟨n, by simp, Nat.zero_le _, h0⟩, ?_⟩
  rintro i m σ H ⟨rfl, hi, p⟩
  by_cases hlt : i < n
  · refine .inr ⟨hlt, Pv (i + 1), fun σ' H' p' => ⟨n - (i + 1), by omega, rfl, hlt, p'⟩, fun x H' y => ?_⟩
    obtain ⟨e, y⟩ := y
    subst e y
    exact hs i σ _ hlt p
  · have e : i = n := by omega
    subst e
    exact .inl ⟨Nat.le_refl _, hd σ H p⟩
end L2
namespace L2
open PySem PySem.Spec PyProof.Rows
abbrev R2 := V → V → Hp → VK → Prop
def OpR (X : Cx) (f : Value → Value → Sem Value) (r : R2) : Prop :=
  ∀ (pins : List (Addr × Obj)) (s : Shared) (σ : St) (H : Hp) (x y : V) (v u : Value) (Q : VK), Inv X pins σ H s → RelV x v → RelV y u → r x y H Q →
    wpAny (model X.prog X.w) X.A (f v u) (EP X pins σ Q) X.xe s
def UnR (X : Cx) (f : Value → Sem Value) (r : V → Hp → VK → Prop) : Prop :=
  ∀ (pins : List (Addr × Obj)) (s : Shared) (σ : St) (H : Hp) (x : V) (v : Value) (Q : VK), Inv X pins σ H s → RelV x v → r x H Q →
    wpAny (model X.prog X.w) X.A (f v) (EP X pins σ Q) X.xe s
def CallR (X : Cx) (f : Value) (r : List V → Hp → VK → Prop) : Prop :=
  ∀ (pins : List (Addr × Obj)) (s : Shared) (σ : St) (H : Hp) (xs : List V) (us : List Value) (Q : VK), Inv X pins σ H s → Vals xs us → r xs H Q →
    wpAny (model X.prog X.w) X.A (call f us) (EP X pins σ Q) X.xe s
def tOp (r : R2) (ta tb : TE) : TE := fun σ H Q => ta σ H fun x H1 => tb σ H1 fun y H2 => r x y H2 Q
def tUn (r : V → Hp → VK → Prop) (ta : TE) : TE := fun σ H Q => ta σ H fun x H1 => r x H1 Q
def rI (C : Int → Int → Prop) (g : Int → Int → V) : R2 := fun x y H Q => ∃ i j, x = .int i ∧ y = .int j ∧ C i j ∧ Q (g i j) H
def rI0 (g : Int → Int → V) : R2 := fun x y H Q => ∃ i j, x = .int i ∧ y = .int j ∧ Q (g i j) H
def rU (g : Int → V) : V → Hp → VK → Prop := fun x H Q => ∃ i, x = .int i ∧ Q (g i) H
section
variable {X : Cx} {a b c : Expr} {ta tb tc : TE} {pos : Pos}
theorem binT (ha : PE X a ta) (hb : PE X b tb) {pins : List (Addr × Obj)} {s : Shared} {σ : St} {H : Hp} {R : V → V → Hp → Prop} (I : Inv X pins σ H s)
    (h : ta σ H fun x H1 => tb σ H1 fun y H2 => R x y H2) {Q : Value → Shared → Prop} {f : Value → Value → Sem Value}
    (hf : ∀ v u s2 x y H2, Inv X pins σ H2 s2 → RelV x v → RelV y u → R x y H2 → wpAny (model X.prog X.w) X.A (f v u) Q X.xe s2) :
    wpAny (model X.prog X.w) X.A (eval a X.env) (fun v s₁ => wpAny (model X.prog X.w) X.A (eval b X.env) (fun u s₂ => wpAny (model X.prog X.w) X.A (f v u) Q X.xe s₂) X.xe s₁) X.xe s := by
  refine thn (ha pins s σ H _ I h) fun v s1 ⟨x, H1, I1, r1, q1⟩ => ?_
  refine thn (hb pins s1 σ H1 _ I1 q1) fun u s2 ⟨y, H2, I2, r2, q2⟩ => ?_
  exact hf v u s2 x y H2 I2 r1 r2 q2
theorem pe_op {op : Operator} {r : R2} (ho : OpR X (binaryOp op) r) (ha : PE X a ta) (hb : PE X b tb) : PE X (.BinOp a op b pos) (tOp r ta tb) := by
  intro pins s σ H Q I h
  exact wpAny_BinOp (binT ha hb I h fun v u s2 x y H2 I2 rx ry q => ho pins s2 σ H2 x y v u Q I2 rx ry q)
theorem pe_un {op : UnaryOp} {r : V → Hp → VK → Prop} (ho : UnR X (unaryOp op) r) (ha : PE X a ta) : PE X (.UnaryOp op a pos) (tUn r ta) := by
  intro pins s σ H Q I h
  exact UnaryOp_ (thn (ha pins s σ H _ I h) fun v s1 ⟨x, H1, I1, r1, q1⟩ => ho pins s1 σ H1 x v Q I1 r1 q1)
theorem opI {f : Value → Value → Sem Value} {C : Int → Int → Prop} {g : Int → Int → Int}
    (rule : ∀ (i j : Int) (t u : Tok) (s : Shared) (Q : Value → Shared → Prop) (E : Value → Shared → Prop), C i j → Q (.int (g i j) s.toks) { s with toks := s.toks + 1 } → wpAny (model X.prog X.w) X.A (f (.int i t) (.int j u)) Q E s) :
    OpR X f (rI C fun i j => .int (g i j)) := by
  intro pins s σ H x y v u Q I rx ry h
  obtain ⟨i, j, rfl, rfl, hc, q⟩ := h
  obtain ⟨t, rfl⟩ := rx
  obtain ⟨t', rfl⟩ := ry
  exact rule i j t t' s _ _ hc ⟨.int (g i j), H, I.tok _, ⟨_, rfl⟩, q⟩
theorem opI0 {f : Value → Value → Sem Value} {g : Int → Int → Int}
    (rule : ∀ (i j : Int) (t u : Tok) (s : Shared) (Q : Value → Shared → Prop) (E : Value → Shared → Prop), Q (.int (g i j) s.toks) { s with toks := s.toks + 1 } → wpAny (model X.prog X.w) X.A (f (.int i t) (.int j u)) Q E s) :
    OpR X f (rI0 fun i j => .int (g i j)) := by
  intro pins s σ H x y v u Q I rx ry h
  obtain ⟨i, j, rfl, rfl, q⟩ := h
  obtain ⟨t, rfl⟩ := rx
  obtain ⟨t', rfl⟩ := ry
  exact rule i j t t' s _ _ ⟨.int (g i j), H, I.tok _, ⟨_, rfl⟩, q⟩
theorem opB0 {f : Value → Value → Sem Value} {g : Int → Int → Bool}
    (rule : ∀ (i j : Int) (t u : Tok) (s : Shared) (Q : Value → Shared → Prop) (E : Value → Shared → Prop), Q (.bool (g i j)) s → wpAny (model X.prog X.w) X.A (f (.int i t) (.int j u)) Q E s) :
    OpR X f (rI0 fun i j => .bl (g i j)) := by
  intro pins s σ H x y v u Q I rx ry h
  obtain ⟨i, j, rfl, rfl, q⟩ := h
  obtain ⟨t, rfl⟩ := rx
  obtain ⟨t', rfl⟩ := ry
  exact rule i j t t' s _ _ ⟨.bl (g i j), H, I, rfl, q⟩
def CMul (i j : Int) : Prop := (-(2 ^ 64) < i ∧ i < 2 ^ 64) ∨ (-(2 ^ 64) < j ∧ j < 2 ^ 64)
theorem CMul.ok {i j : Int} (h : CMul i j) : IntMulOk i j := by
  rcases h with ⟨h1, h2⟩ | ⟨h1, h2⟩
  · exact .of_left (intBits_le_64 h1 h2)
  · exact .of_right (intBits_le_64 h1 h2)
theorem op_add : OpR X (binaryOp .Add) (rI0 fun i j => .int (i + j)) := opI0 fun _ _ _ _ _ _ _ q => add_int q
theorem op_sub : OpR X (binaryOp .Sub) (rI0 fun i j => .int (i - j)) := opI0 fun _ _ _ _ _ _ _ q => sub_int q
theorem op_mul : OpR X (binaryOp .Mult) (rI CMul fun i j => .int (i * j)) := opI fun _ _ _ _ _ _ _ hc q => mul_int q hc.ok
theorem unI {f : Value → Sem Value} {g : Int → Int}
    (rule : ∀ (i : Int) (t : Tok) (s : Shared) (Q : Value → Shared → Prop) (E : Value → Shared → Prop), Q (.int (g i) s.toks) { s with toks := s.toks + 1 } → wpAny (model X.prog X.w) X.A (f (.int i t)) Q E s) :
    UnR X f (rU fun i => .int (g i)) := by
  intro pins s σ H x v Q I rx h
  obtain ⟨i, rfl, q⟩ := h
  obtain ⟨t, rfl⟩ := rx
  exact rule i t s _ _ ⟨.int (g i), H, I.tok _, ⟨_, rfl⟩, q⟩
theorem un_neg : UnR X (unaryOp .USub) (rU fun i => .int (-i)) := unI fun _ _ _ _ _ q => neg_int q
end
def scal : V → V → Bool
  | .non, .non => true | .non, .int _ => true | .int _, .non => true | .non, .bl _ => true | .bl _, .non => true | .non, .str _ => true | .str _, .non => true
  | .int _, .int _ => true | .bl _, .bl _ => true | .str _, .str _ => true | .byt _, .byt _ => true
  | .int _, .str _ => true | .str _, .int _ => true | .bl _, .str _ => true | .str _, .bl _ => true
  | _, _ => false
def rEq : R2 := fun x y H Q => scal x y = true ∧ Q (.bl (decide (x = y))) H
def rNe : R2 := fun x y H Q => scal x y = true ∧ Q (.bl (!decide (x = y))) H
theorem dec_int {i j : Int} : decide (V.int i = V.int j) = (i == j) := by
  rw [Bool.eq_iff_iff]
  simp
theorem dec_bl {i j : Bool} : decide (V.bl i = V.bl j) = (i == j) := by
  rw [Bool.eq_iff_iff]
  simp
theorem dec_str {i j : Str} : decide (V.str i = V.str j) = (i == j) := by
  rw [Bool.eq_iff_iff]
  simp
theorem dec_byt {i j : Array UInt8} : decide (V.byt i = V.byt j) = (i.toList == j.toList) := by
  rw [Bool.eq_iff_iff]
  cases i
  cases j
  simp
section
variable {X : Cx} {a b c : Expr} {ta tb tc : TE} {pos : Pos}
theorem fin_bl {pins : List (Addr × Obj)} {σ : St} {H : Hp} {s : Shared} {Q : VK} {k k' : Bool} (I : Inv X pins σ H s) (q : Q (.bl k) H) (e : k = k') : EP X pins σ Q (.bool k') s := by
  subst e
  exact ⟨.bl k, H, I, rfl, q⟩
theorem op_eq : OpR X (compareOp .Eq) rEq := by
  intro pins s σ H x y v u Q I rx ry h
  obtain ⟨hs, q⟩ := h
  cases x with
  | non =>
    cases rx
    cases y with
    | non => cases ry; exact PySem.EqNone.eq_none_none (fin_bl I q (by simp))
    | bl j => cases ry; exact PySem.EqNone.eq_none_bool (fin_bl I q (by simp))
    | int j => obtain ⟨t', rfl⟩ := ry; exact PySem.EqNone.eq_none_int (fin_bl I q (by simp))
    | str j => obtain ⟨t', rfl⟩ := ry; exact PySem.EqNone.eq_none_str (fin_bl I q (by simp))
    | _ => exact absurd (show false = true from hs) Bool.false_ne_true
  | bl i =>
    cases rx
    cases y with
    | non => cases ry; exact PySem.EqNone.eq_bool_none (fin_bl I q (by simp))
    | bl j => cases ry; exact eq_bool (fin_bl I q dec_bl)
    | str j => obtain ⟨t', rfl⟩ := ry; exact PySem.EqMixed.eq_bool_str (fin_bl I q (by simp))
    | _ => exact absurd (show false = true from hs) Bool.false_ne_true
  | int i =>
    obtain ⟨t, rfl⟩ := rx
    cases y with
    | non => cases ry; exact PySem.EqNone.eq_int_none (fin_bl I q (by simp))
    | int j => obtain ⟨t', rfl⟩ := ry; exact eq_int (fin_bl I q dec_int)
    | str j => obtain ⟨t', rfl⟩ := ry; exact PySem.EqMixed.eq_int_str (fin_bl I q (by simp))
    | _ => exact absurd (show false = true from hs) Bool.false_ne_true
  | str i =>
    obtain ⟨t, rfl⟩ := rx
    cases y with
    | non => cases ry; exact PySem.EqNone.eq_str_none (fin_bl I q (by simp))
    | bl j => cases ry; exact PySem.EqMixed.eq_str_bool (fin_bl I q (by simp))
    | int j => obtain ⟨t', rfl⟩ := ry; exact PySem.EqMixed.eq_str_int (fin_bl I q (by simp))
    | str j => obtain ⟨t', rfl⟩ := ry; exact eq_str (fin_bl I q dec_str)
    | _ => exact absurd (show false = true from hs) Bool.false_ne_true
  | byt i =>
    obtain ⟨t, rfl⟩ := rx
    cases y with
    | byt j => obtain ⟨t', rfl⟩ := ry; exact PySem.W.eq_bytes (fin_bl I q dec_byt)
    | _ => exact absurd (show false = true from hs) Bool.false_ne_true
  | _ => cases y <;> exact absurd (show false = true from hs) Bool.false_ne_true
theorem op_ne : OpR X (compareOp .NotEq) rNe := by
  intro pins s σ H x y v u Q I rx ry h
  obtain ⟨hs, q⟩ := h
  cases x with
  | non =>
    cases rx
    cases y with
    | non => cases ry; exact PySem.EqNone.ne_none_none (fin_bl I q (by simp))
    | bl j => cases ry; exact PySem.EqNone.ne_none_bool (fin_bl I q (by simp))
    | int j => obtain ⟨t', rfl⟩ := ry; exact PySem.EqNone.ne_none_int (fin_bl I q (by simp))
    | str j => obtain ⟨t', rfl⟩ := ry; exact PySem.EqNone.ne_none_str (fin_bl I q (by simp))
    | _ => exact absurd (show false = true from hs) Bool.false_ne_true
  | bl i =>
    cases rx
    cases y with
    | non => cases ry; exact PySem.EqNone.ne_bool_none (fin_bl I q (by simp))
    | bl j => cases ry; exact ne_bool (fin_bl I q (congrArg not dec_bl))
    | str j => obtain ⟨t', rfl⟩ := ry; exact PySem.EqMixed.ne_bool_str (fin_bl I q (by simp))
    | _ => exact absurd (show false = true from hs) Bool.false_ne_true
  | int i =>
    obtain ⟨t, rfl⟩ := rx
    cases y with
    | non => cases ry; exact PySem.EqNone.ne_int_none (fin_bl I q (by simp))
    | int j => obtain ⟨t', rfl⟩ := ry; exact ne_int (fin_bl I q (congrArg not dec_int))
    | str j => obtain ⟨t', rfl⟩ := ry; exact PySem.EqMixed.ne_int_str (fin_bl I q (by simp))
    | _ => exact absurd (show false = true from hs) Bool.false_ne_true
  | str i =>
    obtain ⟨t, rfl⟩ := rx
    cases y with
    | non => cases ry; exact PySem.EqNone.ne_str_none (fin_bl I q (by simp))
    | bl j => cases ry; exact PySem.EqMixed.ne_str_bool (fin_bl I q (by simp))
    | int j => obtain ⟨t', rfl⟩ := ry; exact PySem.EqMixed.ne_str_int (fin_bl I q (by simp))
    | str j => obtain ⟨t', rfl⟩ := ry; exact ne_str (fin_bl I q (congrArg not dec_str))
    | _ => exact absurd (show false = true from hs) Bool.false_ne_true
  | byt i =>
    obtain ⟨t, rfl⟩ := rx
    cases y with
    | byt j => obtain ⟨t', rfl⟩ := ry; exact PySem.W.ne_bytes (fin_bl I q (congrArg not dec_byt))
    | _ => exact absurd (show false = true from hs) Bool.false_ne_true
  | _ => cases y <;> exact absurd (show false = true from hs) Bool.false_ne_true
theorem op_lt : OpR X (compareOp .Lt) (rI0 fun i j => .bl (decide (i < j))) := opB0 fun _ _ _ _ _ _ _ q => lt_int q
theorem op_le : OpR X (compareOp .LtE) (rI0 fun i j => .bl (decide (i ≤ j))) := opB0 fun _ _ _ _ _ _ _ q => le_int q
theorem op_gt : OpR X (compareOp .Gt) (rI0 fun i j => .bl (decide (j < i))) := opB0 fun _ _ _ _ _ _ _ q => gt_int q
theorem op_ge : OpR X (compareOp .GtE) (rI0 fun i j => .bl (decide (j ≤ i))) := opB0 fun _ _ _ _ _ _ _ q => ge_int q
theorem nomark (b : Expr) {op : CmpOp} (h : op ≠ .In := by decide) (h2 : op ≠ .NotIn := by decide) : behindInMarks op b = false := by
  have e1 : (op == CmpOp.In) = false := by cases op <;> first | rfl | exact absurd rfl h
  have e2 : (op == CmpOp.NotIn) = false := by cases op <;> first | rfl | exact absurd rfl h2
  cases b <;> simp [behindInMarks, e1, e2]
theorem pe_cmpR {op : CmpOp} {r : R2} (ho : OpR X (compareOp op) r) (ha : PE X a ta) (hb : PE X b tb) (hm : behindInMarks op b = false) : PE X (.Compare a [op] [b] pos) (tOp r ta tb) := by
  intro pins s σ H Q I h
  exact wpAny_Compare1 (binT ha hb I h fun v u s2 x y H2 I2 rx ry q => ho pins s2 σ H2 x y v u Q I2 rx ry q) hm
def tTest (t : TE) : TT := fun σ H Q => t σ H fun x H' => ∃ k, x = .bl k ∧ Q k H'
theorem pt_cmpR {op : CmpOp} {r : R2} (ho : OpR X (compareOp op) r) (ha : PE X a ta) (hb : PE X b tb) (hm : behindInMarks op b = false) : PT X (.Compare a [op] [b] pos) (tTest (tOp r ta tb)) := by
  intro pins s σ H Q I h
  refine wpAny_isTrue_Compare1 (thn (ha pins s σ H _ I h) fun v s1 ⟨x, H1, I1, r1, q1⟩ => thn (hb pins s1 σ H1 _ I1 q1) fun u s2 ⟨y, H2, I2, r2, q2⟩ =>
    thn (ho pins s2 σ H2 x y v u _ I2 r1 r2 q2) fun c s3 ⟨z, H3, I3, r3, k, e, q3⟩ => ?_) hm
  subst e
  cases r3
  exact wpAny_truthy_bool ⟨H3, I3, q3⟩
theorem line63 : (sizeLine : Nat) < 2 ^ 63 := by rw [sizeLine_eq]; decide
theorem vals1 {x : V} {us : List Value} (r : Vals [x] us) : ∃ u, us = [u] ∧ RelV x u := by
  cases r with
  | cons r1 r2 => cases r2; exact ⟨_, rfl, r1⟩
end
end L2
namespace L2
open PySem PySem.Spec PyProof.Rows
structure ObjM (h : Heap) (x dx C : Addr) (mA : Str → Option Value) : Prop where
  obj : h.get? x = some (PySem.W.instObj C dx)
  ns : h.Ns1 dx mA
  ne : dx ≠ x
theorem lookIn_ns {h : Heap} {dx : Addr} {mA : Str → Option Value} (n : h.Ns1 dx mA) : ∃ od, h.get? dx = some od ∧ ∀ name, PySem.W.lookIn name od = some (mA name) := by
  obtain ⟨o, es, ep, ho, hd, hk, _, hm⟩ := n
  refine ⟨o, ho, fun name => ?_⟩
  have e := hm name
  unfold nsFind findBy at e
  rw [← Array.find?_toList] at e
  unfold PySem.W.lookIn
  rw [hd]
  dsimp only
  split
  · rename_i y q
    rw [q] at e
    exact congrArg some e
  · rename_i q
    rw [q] at e
    have a : es.toList.any (·.refKey) = false := by
      rw [List.any_eq_false]
      intro y hy
      obtain ⟨z, t, hkey⟩ := hk y (Array.mem_toList_iff.mp hy)
      simp [DictEntry.refKey, hkey]
    have a' : ¬ es.toList.any (·.refKey) = true := by rw [a]; exact Bool.false_ne_true
    rw [if_neg a']
    exact congrArg some e
theorem ObjM.look {h : Heap} {x dx C : Addr} {mA : Str → Option Value} (I : ObjM h x dx C mA) : ∃ od, PySem.W.InstAt h x (PySem.W.instObj C dx) C (some od) ∧ ∀ name, PySem.W.lookIn name od = some (mA name) :=
  let ⟨od, ho, hl⟩ := lookIn_ns I.ns
  ⟨od, ⟨I.obj, rfl, rfl, ho⟩, hl⟩
section
variable {prog : Program} {w : World} {A : Around} {E : Value → Shared → Prop} {s : Shared} {K : PySem.W.Frag} {x dx C f : Addr} {mA : Str → Option Value} {name : Str} {v : Value}
theorem get_map {expr : Bool} {Q : Value → Shared → Prop} (X : K.In s.heap) (I : ObjM s.heap x dx C mA) (hg : PySem.W.plainGet K C name = true) (hh : PySem.W.hasDictIn K C = true)
    (ha : PySem.W.findIn K (.ref C) name = some none) (hv : mA name = some v) (hv' : PySem.W.handedIn v = true) (h : Q v { s with toks := s.toks + 1 }) :
    wpAny (model prog w) A (getAttr (.ref x) name expr) Q E s := by
  obtain ⟨od, J, hl⟩ := I.look
  exact PySem.W.get_value X J (PySem.W.plainGet_of hg).1 (PySem.W.findObj_own hh ha rfl (by rw [hl, hv])) hv' h
theorem get_meth {pl : Sem Bool} {Q : Value × List Value → Shared → Prop} (X : K.In s.heap) (I : ObjM s.heap x dx C mA) (hg : PySem.W.plainGet K C name = true)
    (hf : PySem.W.findIn K (.ref C) name = some (some (.ref f))) (ht : PySem.W.isFn K (.ref f) = true) (hv : mA name = none) (h : Q (.ref f, [.ref x]) s) :
    wpAny (model prog w) A (getMethod (.ref x) name pl) Q E s := by
  obtain ⟨od, J, hl⟩ := I.look
  exact PySem.W.method_fn X J (PySem.W.plainGet_of hg).1 (PySem.W.plainGet_of hg).2 hf (beq_iff_eq.mp ht) (by show (PySem.W.lookIn name od).map (·.isSome) = some false; rw [hl, hv]; rfl) h
theorem set_map {ns : List Str} {Q : Unit → Shared → Prop} (X : K.In s.heap) (I : ObjM s.heap x dx C mA)
    (hs : PySem.W.findIn K (.ref C) "__setattr__" = some (some (.builtin "object.__setattr__"))) (hp : PySem.W.plainOver K C = true) (ht : PySem.W.takerIn K C name = some none) (hh : PySem.W.hasDictIn K C = true)
    (hw : PySem.Within mA ns) (hsz : ns.length ≤ sizeLine)
    (h : ∀ h', ObjM h' x dx C (fun y => if y = name then some v else mA y) → Heap.SameBut dx s.heap h' → Q () { s with heap := h', toks := s.toks + 2 }) :
    wpAny (model prog w) A (setAttr (.ref x) name v) Q E s := by
  obtain ⟨od, J, hl⟩ := I.look
  refine PySem.W.set_plain X J hs (PySem.W.osa_open (s := { s with toks := s.toks + 1 }) (r := none) X J hp ht fun b => ?_)
  obtain ⟨cd, hc, hd'⟩ := PySem.W.any_some hh
  have hx : s.heap.get? x = some ⟨.ref C, some dx, .plain, #[]⟩ := I.obj
  refine wpAny_bind (wpAny_pure (wpAny_bind (wpAny_bind (wpAny_loadPart hx (wpAny_bind (PySem.W.Looks.here (s := { s with toks := s.toks + 1 }) (PySem.W.looks_clsIn X hc) ?_))))))
  rw [hd']
  refine wpAny_pure (a := some dx) (wpAny_bind (wpAny_pure (wpAny_bind ?_)))
  refine wpAny_nsSet1 (s := { s with toks := s.toks + 1 }) I.ns fun h' hn2 hs2 => ?_
  obtain ⟨oD, esD, epD, hoD, hdD, hcD⟩ := hn2.count (PySem.Within.cons name v hw)
  refine wpAny_bind (wpAny_lookBehind hoD (by rw [hdD]; exact pastItsLine_dict (Nat.le_trans hcD (by rw [List.length_cons]; omega))) ?_)
  exact wpAny_pure (h _ ⟨(hs2.2 _ (Ne.symm I.ne)).trans I.obj, hn2, I.ne⟩ hs2)
theorem make_map {R : Result → Shared → Prop} {vs : List Value} {kw : List (Str × Value)} (X : K.In s.heap) (hm : PySem.W.makesIn K C = true)
    (hi : PySem.W.findIn K (.ref C) "__init__" = some (some (.ref f))) (hf : PySem.W.typeIn K (.ref f) = some (.type "function"))
    (h : codeAny (model prog w) (A.under (.builtin "type.__call__" ⟨.ref C :: vs, kw⟩)) (.call (.ref f) ⟨.ref (s.heap.objs.size + 1) :: vs, kw⟩) (PySem.W.InitBack (s.heap.objs.size + 1) R)
      { s with heap := (s.heap.push PySem.W.emptyDict).push (PySem.W.instObj C s.heap.objs.size) }) :
    codeAny (model prog w) A (.call (.ref C) ⟨vs, kw⟩) R s := by
  obtain ⟨hh, g, d, t, os⟩ := s
  exact PySem.W.make_core (PySem.W.makes_of X hm) (PySem.W.looks_findIn X hi) (fun self => PySem.W.bind_fn X self hf) (.inl rfl) h
end
def putF (f : Str) (v : V) : List (Str × V) → List (Str × V)
  | [] => [(f, v)]
  | (g, x) :: r => if g = f then (g, v) :: r else (g, x) :: putF f v r
theorem lookup_putF (f g : Str) (v : V) : ∀ fs : List (Str × V), (putF f v fs).lookup g = if g = f then some v else fs.lookup g
  | [] => by
    show List.lookup g [(f, v)] = _
    by_cases h : g = f
    · have hb : (g == f) = true := beq_iff_eq.mpr h
      simp only [List.lookup, hb, if_pos h]
    · have hb : (g == f) = false := beq_eq_false_iff_ne.mpr h
      simp only [List.lookup, hb, if_neg h]
  | (k, x) :: r => by
    have ih := lookup_putF f g v r
    rw [show putF f v ((k, x) :: r) = (if k = f then (k, v) :: r else (k, x) :: putF f v r) from rfl]
    by_cases hk : k = f
    · rw [if_pos hk]
      by_cases h : g = k
      · have hb : (g == k) = true := beq_iff_eq.mpr h
        simp only [List.lookup, hb, if_pos (h.trans hk)]
      · have hb : (g == k) = false := beq_eq_false_iff_ne.mpr h
        simp only [List.lookup, hb, if_neg (fun e : g = f => h (e.trans hk.symm))]
    · rw [if_neg hk]
      by_cases h : g = k
      · have hb : (g == k) = true := beq_iff_eq.mpr h
        simp only [List.lookup, hb, if_neg (fun e : g = f => hk (h.symm.trans e))]
      · have hb : (g == k) = false := beq_eq_false_iff_ne.mpr h
        simp only [List.lookup, hb]
        exact ih
theorem keys_putF (f : Str) (v : V) : ∀ fs : List (Str × V), f ∈ (putF f v fs).map (·.1) ∧ ∀ g, g ∈ fs.map (·.1) → g ∈ (putF f v fs).map (·.1)
  | [] => ⟨by simp [putF], fun g h => by simp at h⟩
  | (k, x) :: r => by
    obtain ⟨i1, i2⟩ := keys_putF f v r
    rw [show putF f v ((k, x) :: r) = (if k = f then (k, v) :: r else (k, x) :: putF f v r) from rfl]
    by_cases hk : k = f
    · rw [if_pos hk]
      subst hk
      exact ⟨by simp, fun g h => by simpa using h⟩
    · rw [if_neg hk]
      refine ⟨?_, fun g h => ?_⟩
      · rw [List.map_cons]
        exact List.mem_cons_of_mem _ i1
      · rw [List.map_cons] at h ⊢
        rcases List.mem_cons.mp h with e | e
        · exact List.mem_cons.mpr (.inl e)
        · exact List.mem_cons_of_mem _ (i2 g e)
theorem length_putF (f : Str) (v : V) : ∀ fs : List (Str × V), (putF f v fs).length ≤ fs.length + 1
  | [] => by simp [putF]
  | (k, x) :: r => by
    have ih := length_putF f v r
    rw [show putF f v ((k, x) :: r) = (if k = f then (k, v) :: r else (k, x) :: putF f v r) from rfl]
    by_cases hk : k = f
    · rw [if_pos hk, List.length_cons, List.length_cons]; omega
    · rw [if_neg hk, List.length_cons, List.length_cons]; omega
theorem RelO.some_of {v : V} {o : Option Value} (r : RelO (some v) o) : ∃ u, o = some u ∧ RelV v u := by
  cases o with
  | none => exact (show False from r).elim
  | some u => exact ⟨u, rfl, r⟩
theorem RelO.none_of {o : Option Value} (r : RelO none o) : o = none := by
  cases o with
  | none => rfl
  | some u => exact (show False from r).elim
theorem handed_of {v : V} {u : Value} (r : RelV v u) : PySem.W.handedIn u = true := by
  cases v with
  | non => cases (show u = Value.none from r); rfl
  | bl b => cases (show u = Value.bool b from r); rfl
  | int i => obtain ⟨t, e⟩ := (show ∃ t, u = Value.int i t from r); cases e; rfl
  | str x => obtain ⟨t, e⟩ := (show ∃ t, u = Value.str x t from r); cases e; rfl
  | byt b => obtain ⟨t, e⟩ := (show ∃ t, u = Value.bytes b t from r); cases e; rfl
  | flt b => obtain ⟨t, e⟩ := (show ∃ t, u = Value.float b t from r); cases e; rfl
  | ref a => cases (show u = Value.ref a from r); rfl
  | ty n => cases (show u = Value.type n from r); rfl
section
variable {P : Program} {w : World} {H H' : Hp} {h h' : Heap} {a C dx : Addr} {fs fs' : List (Str × V)}
theorem ins_get (hok : HOk P w H h) (e : H a = some (.ins C dx fs)) : ∃ mA, ObjM h a dx C mA ∧ (∀ f, RelO (fs.lookup f) (mA f)) ∧ PySem.Within mA (fs.map (·.1)) ∧ fs.length ≤ 1000 ∧ H dx = some (.own a) := by
  obtain ⟨d, z, ne, ob, mA, n, r, q⟩ := (show ObjOk P w H h a (.ins C dx fs) from hok a _ e)
  exact ⟨mA, ⟨ob, n, ne⟩, r, q, z, d⟩
end
structure Cls (K : PySem.W.Frag) (C : Addr) : Prop where
  pg : PySem.W.plainGet K C Str.empty = true
  hd : PySem.W.hasDictIn K C = true
  po : PySem.W.plainOver K C = true
  sa : PySem.W.findIn K (.ref C) "__setattr__" = some (some (.builtin "object.__setattr__"))
theorem Cls.get {K : PySem.W.Frag} {C : Addr} (c : Cls K C) (f : Str) : PySem.W.plainGet K C f = true := c.pg
def NoAttr (K : PySem.W.Frag) (C : Addr) (f : Str) : Prop := PySem.W.findIn K (.ref C) f = some none
theorem NoAttr.taker {K : PySem.W.Frag} {C : Addr} {f : Str} (n : NoAttr K C f) : PySem.W.takerIn K C f = some none := by
  unfold PySem.W.takerIn
  rw [show PySem.W.findIn K (.ref C) f = some none from n]
  rfl
structure Meth (K : PySem.W.Frag) (C : Addr) (m : Str) (f : Addr) : Prop where
  at_ : PySem.W.findIn K (.ref C) m = some (some (.ref f))
  fn : PySem.W.isFn K (.ref f) = true
  kp : PySem.W.keepIn K (.ref f) = true
section
variable {X : Cx} {pins : List (Addr × Obj)} {σ : St} {H : Hp} {s : Shared} {a C dx : Addr} {fs : List (Str × V)} {f : Str} {v : V} {A : Around} {E : Value → Shared → Prop}
theorem getattr_ok {b : Bool} {Q : Value → Shared → Prop} (I : Inv X pins σ H s) (e : H a = some (.ins C dx fs)) (c : Cls X.K C) (n : NoAttr X.K C f) (l : fs.lookup f = some v)
    (h : ∀ u s', Inv X pins σ H s' → RelV v u → Q u s') : wpAny (model X.prog X.w) A (getAttr (.ref a) f b) Q E s := by
  obtain ⟨mA, O, r, _, _, _⟩ := ins_get I.hok e
  obtain ⟨u, hu, ru⟩ := RelO.some_of (v := v) (o := mA f) (by rw [← l]; exact r f)
  exact get_map I.kIn O (c.get f) c.hd n hu (handed_of ru) (h u _ (I.tok _) ru)
theorem getmeth_ok {m : Str} {g : Addr} {pl : Sem Bool} {Q : Value × List Value → Shared → Prop} (I : Inv X pins σ H s) (e : H a = some (.ins C dx fs)) (c : Cls X.K C) (k : Meth X.K C m g) (l : fs.lookup m = none)
    (h : Q (.ref g, [.ref a]) s) : wpAny (model X.prog X.w) A (getMethod (.ref a) m pl) Q E s := by
  obtain ⟨mA, O, r, _, _, _⟩ := ins_get I.hok e
  have hn : mA m = none := RelO.none_of (by rw [← l]; exact r m)
  exact get_meth I.kIn O (c.get m) k.at_ k.fn hn h
theorem setattr_ok {y : V} {u : Value} {Q : Unit → Shared → Prop} (I : Inv X pins σ H s) (e : H a = some (.ins C dx fs)) (c : Cls X.K C) (n : NoAttr X.K C f) (hl : fs.length < 1000) (ry : RelV y u)
    (h : ∀ s', Inv X pins σ (upd H a (.ins C dx (putF f y fs))) s' → Q () s') : wpAny (model X.prog X.w) A (setAttr (.ref a) f u) Q E s := by
  obtain ⟨mA, O, r, wi, _, ho⟩ := ins_get I.hok e
  have hz : (fs.map (·.1)).length ≤ sizeLine := by rw [List.length_map, sizeLine_eq]; omega
  refine set_map I.kIn O c.sa c.po n.taker c.hd wi hz fun h' O' sb => h _ ?_
  have hd : ∃ o, h'.get? dx = some o := let ⟨o, _, _, e', _⟩ := O'.ns; ⟨o, e'⟩
  refine I.write (x := a) (e := dx) (by rw [e]; exact True.intro) (.inr ho) (fun b q hb z => (sb.2 b hb).trans z) hd ?_
  refine ⟨by rw [upd_ne O.ne]; exact ho, ?_, O.ne, O'.obj, _, O'.ns, fun g => ?_, fun g hg => ?_⟩
  · have := length_putF f y fs; omega
  · show RelO ((putF f y fs).lookup g) (if g = f then some u else mA g)
    rw [lookup_putF]
    by_cases q : g = f
    · rw [if_pos q, if_pos q]; exact ry
    · rw [if_neg q, if_neg q]; exact r g
  · by_cases q : g = f
    · rw [q]; exact (keys_putF f y fs).1
    · refine (keys_putF f y fs).2 g (wi g fun z => hg ?_)
      show (if g = f then some u else mA g) = none
      rw [if_neg q]; exact z
theorem Inv.made (I : Inv X pins σ H s) : Inv X pins σ (upd (upd H s.heap.objs.size (.own (s.heap.objs.size + 1))) (s.heap.objs.size + 1) (.ins C s.heap.objs.size []))
    { s with heap := (s.heap.push PySem.W.emptyDict).push (PySem.W.instObj C s.heap.objs.size) } := by
  have e1 : (s.heap.push PySem.W.emptyDict).get? s.heap.objs.size = some PySem.W.emptyDict := Heap.get?_push_size s.heap rfl
  have e2 : ((s.heap.push PySem.W.emptyDict).push (PySem.W.instObj C s.heap.objs.size)).get? (s.heap.objs.size + 1) = some (PySem.W.instObj C s.heap.objs.size) := by
    have := Heap.get?_push_size (s.heap.push PySem.W.emptyDict) (o := PySem.W.instObj C s.heap.objs.size) rfl
    rwa [Heap.size_push] at this
  have e3 : (s.heap.push PySem.W.emptyDict).Ns s.heap.objs.size (fun _ => none) := ⟨PySem.W.emptyDict, #[], _, e1, rfl, (fun e he => absurd he (by simp)), fun _ => rfl⟩
  have I1 := I.laid (a := s.heap.objs.size) (o := .own (s.heap.objs.size + 1)) (h' := s.heap.push PySem.W.emptyDict) (t' := s.toks) (fun b u q => Heap.get?_push_of_some _ q) (Nat.le_refl _) ⟨_, e1⟩
  refine I1.laid (a := s.heap.objs.size + 1) (o := .ins C s.heap.objs.size []) (t' := s.toks) (fun b u q => Heap.get?_push_of_some _ q) (Nat.le_of_eq (Heap.size_push _ _)) ?_
  have ne : s.heap.objs.size ≠ s.heap.objs.size + 1 := Nat.ne_of_lt (Nat.lt_succ_self _)
  refine ⟨by rw [upd_ne ne, upd_same], Nat.zero_le _, ne, e2, fun _ => none, (Heap.Ns1.of_empty e3).at fun o q => Heap.get?_push_of_some _ q, fun _ => True.intro, fun y hy => absurd rfl hy⟩
theorem attr_of {prog : Program} {w : World} {env : Env} {e : Expr} {f : Str} {pos : Pos} {s : Shared} {Q : Value → Shared → Prop} (hb : attributeBase e f env (eval e env) = eval e env)
    (h : wpAny (model prog w) A (eval e env) (fun o s₁ => wpAny (model prog w) A (getAttr o f true) Q E s₁) E s) : wpAny (model prog w) A (eval (.Attribute e f pos) env) Q E s :=
  Attribute_any_ h (by rw [arm_eval_Attribute, hb])
end
def tFld (K : PySem.W.Frag) (ta : TE) (f : Str) : TE := fun σ H Q => ta σ H fun x H1 => ∃ a C dx fs v, x = .ref a ∧ H1 a = some (.ins C dx fs) ∧ Cls K C ∧ NoAttr K C f ∧ fs.lookup f = some v ∧ Q v H1
def sFld (K : PySem.W.Frag) (ta tv : TE) (f : Str) : TS := fun D σ H => tv σ H fun y H1 => ta σ H1 fun x H2 => ∃ a C dx fs, x = .ref a ∧ H2 a = some (.ins C dx fs) ∧ Cls K C ∧ NoAttr K C f ∧ fs.length < 1000 ∧
  D.nx σ (upd H2 a (.ins C dx (putF f y fs)))
def InOp (X : Cx) (op : Operator) (rd : V → V → Hp → VK → Prop) : Prop :=
  ∀ (pins : List (Addr × Obj)) (s : Shared) (σ : St) (H : Hp) (x y : V) (u v : Value) (Q : VK), Inv X pins σ H s → RelV x u → RelV y v → rd x y H Q → wpAny (model X.prog X.w) X.A (inplaceOp op u v) (EP X pins σ Q) X.xe s
def sFldAug (K : PySem.W.Frag) (ta tv : TE) (rd : V → V → Hp → VK → Prop) (f : Str) : TS := fun D σ H => ta σ H fun x H1 => ∃ a C dx fs v, x = .ref a ∧ H1 a = some (.ins C dx fs) ∧ Cls K C ∧ NoAttr K C f ∧ fs.lookup f = some v ∧
  tv σ H1 fun y H2 => rd v y H2 fun z H3 => ∃ dx' fs', H3 a = some (.ins C dx' fs') ∧ fs'.length < 1000 ∧ D.nx σ (upd H3 a (.ins C dx' (putF f z fs')))
section
variable {X : Cx} {o e value : Expr} {f : Str} {pos pos' tpos : Pos} {ta tv : TE}
theorem pe_fld (he : PE X e ta) (hb : attributeBase e f X.env (eval e X.env) = eval e X.env) : PE X (.Attribute e f pos) (tFld X.K ta f) := by
  intro pins s σ H Q I h
  refine attr_of hb (thn (he pins s σ H _ I h) fun u s1 ⟨x, H1, I1, rx, a, C, dx, fs, v, ex, ea, c, n, l, q⟩ => ?_)
  subst ex
  obtain rfl : u = Value.ref a := rx
  exact getattr_ok I1 ea c n l fun u' s2 I2 ru => ⟨v, H1, I2, ru, q⟩
theorem ps_fld (ha : PE X o ta) (hv : PE X value tv) (hs : swapsWith value (some (.Attribute o f pos')) pos.line X.env = pure false) : PS X (.Assign [.Attribute o f pos'] value pos) (sFld X.K ta tv f) := by
  intro pins s σ H D I h
  refine plainObj_wpAny_Assign_Attribute (thn (hv pins s σ H _ I h) fun u s1 ⟨y, H1, I1, ry, q⟩ => thn (ha pins s1 σ H1 _ I1 q) fun ov s2 ⟨x, H2, I2, rx, a, C, dx, fs, ex, ea, c, n, l, q2⟩ => ?_) hs
  subst ex
  obtain rfl : ov = Value.ref a := rx
  exact setattr_ok I2 ea c n l ry fun s3 I3 => ⟨σ, _, I3, q2⟩
theorem ps_fldaug {op : Operator} {rd : V → V → Hp → VK → Prop} (ha : PE X o ta) (hv : PE X value tv) (hop : InOp X op rd) : PS X (.AugAssign (.Attribute o f tpos) op value pos) (sFldAug X.K ta tv rd f) := by
  intro pins s σ H D I h
  refine wpAny_AugAssign_AttributeAny (thn (ha pins s σ H _ I h) fun ov s1 ⟨x, H1, I1, rx, a, C, dx, fs, v, ex, ea, c, n, l, q⟩ => ?_)
  subst ex
  obtain rfl : ov = Value.ref a := rx
  refine getattr_ok I1 ea c n l fun u s2 I2 ru => thn (hv pins s2 σ H1 _ I2 q) fun w3 s3 ⟨y, H2, I3, ry, q3⟩ => thn (hop pins s3 σ H2 v y u w3 _ I3 ru ry q3) fun w4 s4 ⟨z, H3, I4, rz, dx', fs', ea', l', q4⟩ => ?_
  exact setattr_ok I4 ea' c n l' rz fun s5 I5 => ⟨σ, _, I5, q4⟩
def rAdd : V → V → Hp → VK → Prop := fun x y H Q => ∃ i j, x = .int i ∧ y = .int j ∧ Q (.int (i + j)) H
theorem in_add : InOp X .Add rAdd := by
  rintro pins s σ H x y u v Q I rx ry ⟨i, j, rfl, rfl, q⟩
  obtain ⟨t, rfl⟩ := (show ∃ t, u = Value.int i t from rx)
  obtain ⟨t', rfl⟩ := (show ∃ t', v = Value.int j t' from ry)
  exact PyProof.Rows.iadd_int ⟨.int (i + j), H, I.tok _, ⟨_, rfl⟩, q⟩
theorem methcall_of {pl : Sem Bool} {m : Str} {apos : Pos} {args : List Expr} {pins : List (Addr × Obj)} {s : Shared} {σ : St} {H : Hp} {Q : Value → Shared → Prop} {te : TE} (he : PE X e te) (I : Inv X pins σ H s)
    (h : te σ H fun x H1 => ∃ a C dx fs g, x = .ref a ∧ H1 a = some (.ins C dx fs) ∧ Cls X.K C ∧ Meth X.K C m g ∧ fs.lookup m = none ∧
      ∀ s1, Inv X pins σ H1 s1 → wpAny (model X.prog X.w) X.A (callWith pos (.ref g) [.ref a] (backTo pos (starEach args X.env)) (backToKw pos (keywordEach [] X.env))) Q X.xe s1)
    (ht : eval (.Call (.Attribute e m apos) args [] pos) X.env = (do
      let ov ← eval e X.env
      standAt apos.atName
      let (f, first) ← holding [ov] (getMethod ov m pl)
      callWith pos f first (backTo pos (starEach args X.env)) (backToKw pos (keywordEach [] X.env)))) :
    wpAny (model X.prog X.w) X.A (eval (.Call (.Attribute e m apos) args [] pos) X.env) Q X.xe s := by
  refine PySem.W.methodCall_KW (pl := pl) (thn (he pins s σ H _ I h) fun u s1 ⟨x, H1, I1, rx, a, C, dx, fs, g, ex, ea, c, k, l, q⟩ => ?_) ht
  subst ex
  obtain rfl : u = Value.ref a := rx
  exact getmeth_ok I1 ea c k l (q s1 I1)
end
section
variable {X : Cx} {pins : List (Addr × Obj)} {σ : St} {H : Hp} {s : Shared} {A : Around} {E : Value → Shared → Prop} {Q : Value → Shared → Prop} {c : Value} {b : Bool}
end
end L2
namespace L2
open PySem PySem.Spec PyProof.Rows
structure Room (k : Nat) (A : Around) : Prop where
  hd : A.handled = none
  dp : A.depth + 3 * k + 5 < recursionLimit
  un : A.units + 16 * k + 200 < cLine
theorem Room.mono {j k : Nat} {A : Around} (r : Room k A) (h : j ≤ k) : Room j A := ⟨r.hd, by have := r.dp; omega, by have := r.un; omega⟩
theorem Room.deeper {k : Nat} {A : Around} (r : Room (k + 1) A) (env : Env) : Room k (A.deeper env) :=
  ⟨r.hd, by have := r.dp; show A.depth + 1 + 3 * k + 5 < _; omega, by have := r.un; show A.units + 3 + 16 * k + 200 < _; omega⟩
theorem make_depth {A : Around} {C : Addr} {us : List Value} {kw : List (Str × Value)} : (A.under (.builtin "type.__call__" ⟨.ref C :: us, kw⟩)).depth = A.depth + 1 := by
  first | rfl | simp [Around.under, Code.weight, Code.isCreation, Code.isGuard, Code.isCaller, Code.frames, Code.isFrame, guardIds]
theorem make_units {A : Around} {C : Addr} {us : List Value} {kw : List (Str × Value)} : (A.under (.builtin "type.__call__" ⟨.ref C :: us, kw⟩)).units = A.units + 1 := by
  first | rfl | simp [Around.under, Code.cUnits, Code.frames, Code.isFrame]
theorem Room.make {k : Nat} {A : Around} (r : Room (k + 1) A) (C : Addr) (us : List Value) (kw : List (Str × Value)) : Room k (A.under (.builtin "type.__call__" ⟨.ref C :: us, kw⟩)) :=
  ⟨r.hd, by have := r.dp; rw [make_depth]; omega, by have := r.un; rw [make_units]; omega⟩
theorem Room.depth {k : Nat} {A : Around} (r : Room k A) : A.depth < recursionLimit := by have := r.dp; omega
theorem Room.units {k : Nat} {A : Around} (r : Room k A) : A.units + 64 < cLine := by have := r.un; omega
def tNil : TA := fun _ H Q => Q [] H
def tCons (ta : TE) (tr : TA) : TA := fun σ H Q => ta σ H fun x H1 => tr σ H1 fun xs H2 => Q (x :: xs) H2
section
variable {X : Cx} {e : Expr} {es : List Expr} {te : TE} {t : TA} {pos : Pos}
theorem pa_nil : PA X [] tNil := fun _ _ _ _ H Q I h => Calls.spliced_nil ⟨[], H, I, .nil, h⟩
theorem pa_cons (ha : PE X e te) (hr : PA X es t) (hs : starEach (e :: es) X.env = (false, eval e X.env) :: starEach es X.env := by rfl) : PA X (e :: es) (tCons te t) := by
  intro pos pins s σ H Q I h
  rw [hs]
  show wpAny _ _ (spliced ((false, eval e X.env) :: backTo pos (starEach es X.env))) _ _ s
  refine Calls.spliced_cons (thn (ha pins s σ H _ I h) fun u s1 ⟨x, H1, I1, r1, q1⟩ => ?_)
  exact thn (hr pos pins s1 σ H1 _ I1 q1) fun us s2 ⟨xs, H2, I2, r2, q2⟩ => ⟨x :: xs, H2, I2, .cons r1 r2, q2⟩
def tTup (t : TA) : TE := fun σ H Q => t σ H fun xs H1 => xs.length ≤ sizeLine ∧ ∀ p, H1 p = none → Q (.ref p) (upd H1 p (.tup xs))
def tLst (t : TA) : TE := fun σ H Q => t σ H fun xs H1 => xs.length ≤ sizeLine ∧ ∀ p, H1 p = none → Q (.ref p) (upd H1 p (.lst xs))
theorem pe_tup {x1} (h : PA X es t) : PE X (.Tuple es x1 pos) (tTup t) := by
  intro pins s σ H Q I hq
  refine wpAny_Tuple_spliced (thn (h pos pins s σ H _ I hq) fun us s1 ⟨xs, H1, I1, r, z, q⟩ => ⟨by rw [← r.length]; exact z, ?_⟩)
  have hf : H1 s1.heap.objs.size = none := I1.hok.fresh (Nat.le_refl _)
  refine ⟨.ref s1.heap.objs.size, upd H1 s1.heap.objs.size (.tup xs), I1.laid (t' := s1.toks) (fun b u e => Heap.get?_push_of_some _ e) (Nat.le_refl _) ?_, rfl, q _ hf⟩
  exact ⟨z, us, r, ⟨_, Heap.get?_push_size _ rfl, rfl, _, rfl⟩⟩
theorem pe_lst (h : PA X es t) : PE X (.List es pos) (tLst t) := by
  intro pins s σ H Q I hq
  refine wpAny_List_spliced (thn (h pos pins s σ H _ I hq) fun us s1 ⟨xs, H1, I1, r, z, q⟩ => ⟨by rw [← r.length]; exact z, ?_⟩)
  have hf : H1 s1.heap.objs.size = none := I1.hok.fresh (Nat.le_refl _)
  refine ⟨.ref s1.heap.objs.size, upd H1 s1.heap.objs.size (.lst xs), I1.laid (t' := s1.toks) (fun b u e => Heap.get?_push_of_some _ e) (Nat.le_refl _) ?_, rfl, q _ hf⟩
  exact ⟨z, us, 0, r, Heap.get?_push_size _ rfl⟩
end
abbrev Sp := List V → Hp → VK → XK → Prop
abbrev CXT := List Env → Hp → Shared → XK → Value → Shared → Prop
structure Env0 (P : Program) (w : World) (K : PySem.W.Frag) (mg : Str → Option Value) (base : Heap) (A : Around) (outer : List Env) (s : Shared) (H : Hp) : Prop where
  frames : A.frames = some outer
  mod : Mod K mg base
  bs : ∀ b o, base.get? b = some o → s.heap.get? b = some o ∧ H b = none
  bsz : base.objs.size ≤ s.heap.objs.size
  funs : s.heap.FunFrames base outer
  frf : ∀ b ∈ frs outer, H b = none
  hok : HOk P w H s.heap
  bare : AllBare s.gens
def CE (outer : List Env) (P : Program) (w : World) (H : Hp) (s : Shared) (Q : VK) (u : Value) (s' : Shared) : Prop :=
  ∃ v H', s'.os = s.os ∧ AllBare s'.gens ∧ Un (frs outer) [] H H' s.heap s'.heap ∧ HOk P w H' s'.heap ∧ RelV v u ∧ Q v H'
def CR (CX : CXT) (outer : List Env) (P : Program) (w : World) (H : Hp) (s : Shared) (Q : VK) (E : XK) (r : Result) (s' : Shared) : Prop :=
  match r with
  | .ok (.ret u) => CE outer P w H s Q u s'
  | .ok _ => False
  | .error e => CX outer H s E e s'
structure FnOk (P : Program) (w : World) (K : PySem.W.Frag) (mg : Str → Option Value) (base : Heap) (CX : CXT) (k : Nat) (f : Addr) (fd : FuncData) (ps : List Str) (sp : Sp) : Prop where
  len : ∀ vs H Q E, sp vs H Q E → vs.length = ps.length
  run : ∀ (A : Around) (outer : List Env) (s : Shared) (H : Hp) (args : Args) (us : List Value) (vs : List V) (Q : VK) (E : XK), Room k A → Env0 P w K mg base A outer s H → BindsTo s fd args (ps.zip us) → Vals vs us → sp vs H Q E →
    codeAny (model P w) A (.call (.ref f) args) (CR CX outer P w H s Q E) s
theorem Env0.make {P : Program} {w : World} {K : PySem.W.Frag} {mg : Str → Option Value} {base : Heap} {A : Around} {outer : List Env} {s : Shared} {H : Hp} (e : Env0 P w K mg base A outer s H) (C : Addr) (us : List Value) (kw : List (Str × Value)) :
    Env0 P w K mg base (A.under (.builtin "type.__call__" ⟨.ref C :: us, kw⟩)) outer s H := ⟨by first | exact e.frames | (simpa [Around.under, Code.envs, Code.isFrame, pushEnvs] using e.frames), e.mod, e.bs, e.bsz, e.funs, e.frf, e.hok, e.bare⟩
section
variable {X : Cx} {pins : List (Addr × Obj)} {σ : St} {H : Hp} {s s' : Shared}
theorem Inv.env0 (I : Inv X pins σ H s) : Env0 X.prog X.w X.K X.mg X.base X.A X.stack s H :=
  ⟨I.ok.frames, I.ok.mod, I.bs, Nat.le_trans I.ok.bsz I.sz, I.stack, I.stkFree, I.hok, I.bare⟩
theorem Inv.after {Q : VK} {u : Value} (I : Inv X pins σ H s) (h : CE X.stack X.prog X.w H s Q u s') : EP X pins σ Q u s' := by
  obtain ⟨v, H', os, bare, un, hok, r, q⟩ := h
  obtain ⟨hh, g, d, t, os'⟩ := s'
  obtain rfl : os' = s.os := os
  exact ⟨v, H', I.call (h' := hh) (g' := g) (d' := d) (t' := t) (ch := []) un hok bare (fun b z => absurd z (by simp)), r, q⟩
end
def tCall (sp : Sp) (dvs : List V) (E : XK) (t : TA) : TE := fun σ H Q => t σ H fun vs H1 => sp (vs ++ dvs) H1 Q E
def tMeth (C : Addr) (m : Str) (sp : Sp) (dvs : List V) (E : XK) (ta : TE) (t : TA) : TE := fun σ H Q => ta σ H fun x H1 => ∃ a dx fs, x = .ref a ∧ H1 a = some (.ins C dx fs) ∧ fs.lookup m = none ∧
  t σ H1 fun vs H2 => sp (x :: (vs ++ dvs)) H2 Q E
def tMake (C : Addr) (sp : Sp) (dvs : List V) (E : XK) (t : TA) : TE := fun σ H Q => t σ H fun vs H1 => ∀ x dx, H1 x = none → H1 dx = none → dx ≠ x →
  sp (.ref x :: (vs ++ dvs)) (upd (upd H1 dx (.own x)) x (.ins C dx [])) (fun v H2 => v = .non ∧ Q (.ref x) H2) E
def Binds (K : PySem.W.Frag) (fd : FuncData) (ps : List Str) (ds : List Value) : Prop :=
  ∀ (s : Shared) (us : List Value), K.In s.heap → (us ++ ds).length = ps.length → BindsTo s fd ⟨us, []⟩ (ps.zip (us ++ ds))
theorem Binds.all {K : PySem.W.Frag} {fd : FuncData} {ps : List Str} (h : ∀ us : List Value, us.length = ps.length → bindArgs fd ⟨us, []⟩ = pure (ps.zip us)) : Binds K fd ps [] := fun s us _ hl => by
  rw [List.append_nil] at hl ⊢
  exact .of_eq (h us hl)
def Passes (CX : CXT) (X : Cx) (E : XK) : Prop := ∀ (pins : List (Addr × Obj)) (σ : St) (H : Hp) (s : Shared) (e : Value) (s' : Shared), Inv X pins σ H s → CX X.stack H s E e s' → X.xe e s'
section
variable {X : Cx} {CX : CXT} {k : Nat} {f C : Addr} {fd : FuncData} {ps : List Str} {sp : Sp} {dvs : List V} {ds : List Value} {E : XK} {x m : Str} {p pos apos : Pos} {e o : Expr} {es : List Expr} {ta : TE} {t : TA}
theorem run_fn {pins : List (Addr × Obj)} {σ : St} {H : Hp} {s : Shared} {Q : VK} {us : List Value} {vs : List V} (F : FnOk X.prog X.w X.K X.mg X.base CX k f fd ps sp) (hr : Room k X.A) (hb : Binds X.K fd ps ds) (hd : Vals dvs ds) (hx : Passes CX X E)
    (I : Inv X pins σ H s) (r : Vals vs us) (h : sp (vs ++ dvs) H Q E) : wpAny (model X.prog X.w) X.A (call (.ref f) us) (EP X pins σ Q) X.xe s := by
  have r2 : Vals (vs ++ dvs) (us ++ ds) := r.append hd
  have hl : (us ++ ds).length = ps.length := by rw [← r2.length]; exact F.len _ _ _ _ h
  refine wpAny_call (codeAny_mono (F.run X.A X.stack s H ⟨us, []⟩ (us ++ ds) (vs ++ dvs) Q E hr I.env0 (hb s us I.kIn hl) r2 h) fun r s' hq => ?_)
  cases r with
  | error e => exact hx pins σ H s e s' I hq
  | ok fl =>
    cases fl with
    | ret u => exact I.after hq
    | next => exact False.elim hq
    | brk => exact False.elim hq
    | cont => exact False.elim hq
theorem pe_call (F : FnOk X.prog X.w X.K X.mg X.base CX k f fd ps sp) (hr : Room k X.A) (hg : Gl X x) (hm : X.mg x = some (.ref f)) (hk : PySem.W.keepIn X.K (.ref f) = true) (hb : Binds X.K fd ps ds) (hd : Vals dvs ds) (hx : Passes CX X E)
    (ha : PA X (e :: es) t) (hdb : (x == ("__debug__" : Str)) = false := by decide) (he : starEach (e :: es) X.env = (false, eval e X.env) :: starEach es X.env := by rfl) (hpl : (backTo pos (starEach es X.env)).any (·.1) = false := by rfl) :
    PE X (.Call (.Name x p) (e :: es) [] pos) (tCall sp dvs E t) := by
  intro pins s σ H Q I h
  refine wpAny_Call_Name_kw (ld_glob I hg hm ?_ hdb)
  refine PySem.W.callWith_K (h₀ := X.base) I.ok.mod.kin hk (thn (ha pos pins s σ H _ I h) fun us s1 ⟨vs, H1, I1, r, q⟩ => ⟨I1.kIn, ?_⟩) he hpl
  exact run_fn F hr hb hd hx I1 r q
theorem pe_meth {pl : Sem Bool} (he : PE X o ta) (c : Cls X.K C) (hm : Meth X.K C m f) (F : FnOk X.prog X.w X.K X.mg X.base CX k f fd ps sp) (hr : Room k X.A) (hb : Binds X.K fd ps ds) (hd : Vals dvs ds) (hx : Passes CX X E) (ha : PA X (e :: es) t)
    (hst : starEach (e :: es) X.env = (false, eval e X.env) :: starEach es X.env := by rfl) (hpl : (backTo pos (starEach es X.env)).any (·.1) = false := by rfl)
    (ht : eval (.Call (.Attribute o m apos) (e :: es) [] pos) X.env = (do
      let ov ← eval o X.env
      standAt apos.atName
      let (f, first) ← holding [ov] (getMethod ov m pl)
      callWith pos f first (backTo pos (starEach (e :: es) X.env)) (backToKw pos (keywordEach [] X.env))) := by rfl) :
    PE X (.Call (.Attribute o m apos) (e :: es) [] pos) (tMeth C m sp dvs E ta t) := by
  intro pins s σ H Q I h
  refine PySem.W.methodCall_KW (pl := pl) (thn (he pins s σ H _ I h) fun u s1 ⟨x, H1, I1, rx, a, dx, fs, ex, ea, l, q⟩ => ?_) ht
  subst ex
  obtain rfl : u = Value.ref a := rx
  refine getmeth_ok I1 ea c hm l ?_
  refine PySem.W.callWith_K (first := [.ref a]) (h₀ := X.base) I.ok.mod.kin hm.kp (thn (ha pos pins s1 σ H1 _ I1 q) fun us s2 ⟨vs, H2, I2, r, q2⟩ => ⟨I2.kIn, ?_⟩) hst hpl
  exact run_fn (us := .ref a :: us) (vs := .ref a :: vs) F hr hb hd hx I2 (.cons rfl r) q2
theorem pe_meth0 {pl : Sem Bool} (he : PE X o ta) (c : Cls X.K C) (hm : Meth X.K C m f) (F : FnOk X.prog X.w X.K X.mg X.base CX k f fd ps sp) (hr : Room k X.A) (hb : Binds X.K fd ps ds) (hd : Vals dvs ds) (hx : Passes CX X E)
    (ht : eval (.Call (.Attribute o m apos) [] [] pos) X.env = (do
      let ov ← eval o X.env
      standAt apos.atName
      let (f, first) ← holding [ov] (getMethod ov m pl)
      callWith pos f first (backTo pos (starEach [] X.env)) (backToKw pos (keywordEach [] X.env))) := by rfl) :
    PE X (.Call (.Attribute o m apos) [] [] pos) (tMeth C m sp dvs E ta tNil) := by
  intro pins s σ H Q I h
  refine PySem.W.methodCall_KW (pl := pl) (thn (he pins s σ H _ I h) fun u s1 ⟨x, H1, I1, rx, a, dx, fs, ex, ea, l, q⟩ => ?_) ht
  subst ex
  obtain rfl : u = Value.ref a := rx
  refine getmeth_ok I1 ea c hm l ?_
  exact PySem.W.callWith_K0 (first := [.ref a]) I1.kIn hm.kp (run_fn (us := [.ref a]) (vs := [.ref a]) F hr hb hd hx I1 (.cons rfl .nil) q)
structure Mk (K : PySem.W.Frag) (C f : Addr) : Prop where
  makes : PySem.W.makesIn K C = true
  init : PySem.W.findIn K (.ref C) "__init__" = some (some (.ref f))
  fn : PySem.W.isFn K (.ref f) = true
  kp : PySem.W.keepIn K (.ref C) = true
theorem run_make {pins : List (Addr × Obj)} {σ : St} {H : Hp} {s : Shared} {Q : VK} {us : List Value} {vs : List V} (M : Mk X.K C f) (F : FnOk X.prog X.w X.K X.mg X.base CX k f fd ps sp) (hr : Room (k + 1) X.A) (hb : Binds X.K fd ps ds) (hd : Vals dvs ds)
    (hx : Passes CX X E) (I : Inv X pins σ H s) (r : Vals vs us)
    (h : ∀ x dx, H x = none → H dx = none → dx ≠ x → sp (.ref x :: (vs ++ dvs)) (upd (upd H dx (.own x)) x (.ins C dx [])) (fun v H2 => v = .non ∧ Q (.ref x) H2) E) :
    wpAny (model X.prog X.w) X.A (call (.ref C) us) (EP X pins σ Q) X.xe s := by
  have hq := h (s.heap.objs.size + 1) s.heap.objs.size (I.hok.fresh (Nat.le_succ _)) (I.hok.fresh (Nat.le_refl _)) (Nat.ne_of_lt (Nat.lt_succ_self _))
  have I2 := Inv.made (C := C) I
  have r2 : Vals (V.ref (s.heap.objs.size + 1) :: (vs ++ dvs)) (Value.ref (s.heap.objs.size + 1) :: (us ++ ds)) := .cons rfl (r.append hd)
  have hl : (Value.ref (s.heap.objs.size + 1) :: us ++ ds).length = ps.length := by
    have e := r2.length
    rw [F.len _ _ _ _ hq] at e
    exact e.symm
  refine wpAny_call (make_map (f := f) I.kIn M.makes M.init (beq_iff_eq.mp M.fn) (codeAny_mono (F.run _ X.stack _ _ ⟨Value.ref (s.heap.objs.size + 1) :: us, []⟩ (Value.ref (s.heap.objs.size + 1) :: (us ++ ds)) _ _ E (hr.make C us [])
    (I2.env0.make C us []) (hb _ (Value.ref (s.heap.objs.size + 1) :: us) I2.kIn hl) r2 hq) fun r s' hq' => ?_))
  cases r with
  | error e => exact hx pins σ _ _ e s' I2 hq'
  | ok fl =>
    cases fl with
    | ret u =>
      obtain ⟨v, H', I3, rv, ev, q3⟩ := I2.after hq'
      subst ev
      exact ⟨rv, ⟨V.ref (s.heap.objs.size + 1), H', I3, rfl, q3⟩⟩
    | next => exact False.elim hq'
    | brk => exact False.elim hq'
    | cont => exact False.elim hq'
theorem pe_make (M : Mk X.K C f) (F : FnOk X.prog X.w X.K X.mg X.base CX k f fd ps sp) (hr : Room (k + 1) X.A) (hg : Gl X x) (hm : X.mg x = some (.ref C)) (hb : Binds X.K fd ps ds) (hd : Vals dvs ds) (hx : Passes CX X E)
    (ha : PA X (e :: es) t) (hdb : (x == ("__debug__" : Str)) = false := by decide) (he : starEach (e :: es) X.env = (false, eval e X.env) :: starEach es X.env := by rfl) (hpl : (backTo pos (starEach es X.env)).any (·.1) = false := by rfl) :
    PE X (.Call (.Name x p) (e :: es) [] pos) (tMake C sp dvs E t) := by
  intro pins s σ H Q I h
  refine wpAny_Call_Name_kw (ld_glob I hg hm ?_ hdb)
  refine PySem.W.callWith_K (h₀ := X.base) I.ok.mod.kin M.kp (thn (ha pos pins s σ H _ I h) fun us s1 ⟨vs, H1, I1, r, q⟩ => ⟨I1.kIn, ?_⟩) he hpl
  exact run_make M F hr hb hd hx I1 r q
theorem pe_make0 (M : Mk X.K C f) (F : FnOk X.prog X.w X.K X.mg X.base CX k f fd ps sp) (hr : Room (k + 1) X.A) (hg : Gl X x) (hm : X.mg x = some (.ref C)) (hb : Binds X.K fd ps ds) (hd : Vals dvs ds) (hx : Passes CX X E)
    (hdb : (x == ("__debug__" : Str)) = false := by decide) : PE X (.Call (.Name x p) [] [] pos) (tMake C sp dvs E tNil) := by
  intro pins s σ H Q I h
  refine wpAny_Call_Name_kw (ld_glob I hg hm ?_ hdb)
  exact PySem.W.callWith_K0 I.kIn M.kp (run_make (us := []) M F hr hb hd hx I .nil h)
end
section
variable {X : Cx} {CX : CXT} {k : Nat} {f C : Addr} {fd : FuncData} {ps ks : List Str} {sp : Sp} {E : XK} {x m : Str} {p pos apos kpos : Pos} {e o : Expr} {es : List Expr} {kws : List Keyword} {te ta : TE} {t tk : TA} {nm : Option Str}
variable {g : List Value → List Value → List Value} {gV : List V → List V → List V}
end
structure FnScope (N P : List Str) (sc : Scope) : Prop where
  kind : sc.kind = .function
  co : sc.isCoroutine = false
  gen : sc.isGenerator = false
  nd : N.Nodup
  pre : N.take P.length = P
  par : ∀ x ∈ P, sc.names.lookup x = some .local ∨ sc.names.lookup x = some .cell
  nofree : ∀ y ∈ sc.names, y.2 ≠ .free
theorem bindL_out {kindOf : Str → Option NameKind} {x : Str} : ∀ {binds : List (Str × Value)} {m : Str → Option Value}, (∀ v, (x, v) ∉ binds) → bindL kindOf binds m x = m x
  | [], _, _ => rfl
  | (n, v) :: r, m, h => by
    unfold bindL
    rw [bindL_out fun w hw => h w (List.mem_cons_of_mem _ hw)]
    split
    · have : x ≠ n := by rintro rfl; exact h v List.mem_cons_self
      simp [this]
    · rfl
theorem bindC_out {kindOf : Str → Option NameKind} {x : Str} : ∀ {binds : List (Str × Value)} {m : Str → Option Value}, (∀ v, (x, v) ∉ binds) → bindC kindOf binds m x = m x
  | [], _, _ => rfl
  | (n, v) :: r, m, h => by
    unfold bindC
    rw [bindC_out fun w hw => h w (List.mem_cons_of_mem _ hw)]
    split
    · rfl
    · have : x ≠ n := by rintro rfl; exact h v List.mem_cons_self
      simp [this]
theorem bindL_get {kindOf : Str → Option NameKind} {x : Str} {v : Value} : ∀ {P : List Str} {vs : List Value} {i : Nat} {m : Str → Option Value}, P.Nodup → P[i]? = some x → vs[i]? = some v → kindOf x = some .local →
    bindL kindOf (P.zip vs) m x = some v
  | [], _, _, _, _, h, _, _ => by simp at h
  | _ :: _, [], _, _, _, _, h, _ => by simp at h
  | p :: P, w :: vs, 0, m, nd, h1, h2, hk => by
    simp at h1 h2; subst h1; subst h2
    show bindL kindOf ((p, w) :: P.zip vs) m p = _
    unfold bindL
    rw [bindL_out fun v hv => (List.nodup_cons.mp nd).1 (List.of_mem_zip hv).1, if_pos hk]
    simp
  | p :: P, w :: vs, i + 1, m, nd, h1, h2, hk => by
    show bindL kindOf ((p, w) :: P.zip vs) m x = _
    unfold bindL
    exact bindL_get (i := i) (List.nodup_cons.mp nd).2 (by simpa using h1) (by simpa using h2) hk
theorem bindC_get {kindOf : Str → Option NameKind} {x : Str} {v : Value} : ∀ {P : List Str} {vs : List Value} {i : Nat} {m : Str → Option Value}, P.Nodup → P[i]? = some x → vs[i]? = some v → kindOf x ≠ some .local →
    bindC kindOf (P.zip vs) m x = some v
  | [], _, _, _, _, h, _, _ => by simp at h
  | _ :: _, [], _, _, _, _, h, _ => by simp at h
  | p :: P, w :: vs, 0, m, nd, h1, h2, hk => by
    simp at h1 h2; subst h1; subst h2
    show bindC kindOf ((p, w) :: P.zip vs) m p = _
    unfold bindC
    rw [bindC_out fun v hv => (List.nodup_cons.mp nd).1 (List.of_mem_zip hv).1, if_neg hk]
    simp
  | p :: P, w :: vs, i + 1, m, nd, h1, h2, hk => by
    show bindC kindOf ((p, w) :: P.zip vs) m x = _
    unfold bindC
    exact bindC_get (i := i) (List.nodup_cons.mp nd).2 (by simpa using h1) (by simpa using h2) hk
def start (N : List Str) (vs : List V) : St := vs.map some ++ List.replicate (N.length - vs.length) none
def cxOf (CX : CXT) (P : Program) (w : World) (K : PySem.W.Frag) (mg : Str → Option Value) (base : Heap) (N : List Str) (qual : Str) (scope : Scope) (f : Addr) (cd : Value) (A : Around) (outer : List Env) (s : Shared) (H : Hp) (E : XK) : Cx where
  prog := P
  w := w
  K := K
  mg := mg
  base := base
  A := A.deeper (envOfC qual scope s.heap.objs.size f cd)
  N := N
  s_0 := s
  H_0 := H
  env := envOfC qual scope s.heap.objs.size f cd
  outer := outer
  stack := envOfC qual scope s.heap.objs.size f cd :: outer
  ex := []
  calm := true
  fn := fun _ => true
  pn := []
  xe := fun e s' => wpAny (model P w) (A.deeper (envOfC qual scope s.heap.objs.size f cd)) (leaving (envOfC qual scope s.heap.objs.size f cd) e) (fun _ s'' => CX outer H s E e s'') (fun e' s'' => CX outer H s E e' s'') s'
theorem cell_has {sc : Scope} {n : Nat} {x : Str} (h : sc.names.lookup x = some .cell) : ∃ c, (cellsFrom n sc.names []).lookup x = some c := by
  have q := PySem.W.cellsFrom_some sc.names n [] (.inl h)
  exact Option.isSome_iff_exists.mp q
theorem inv_start {CX : CXT} {P : Program} {w : World} {K : PySem.W.Frag} {mg : Str → Option Value} {base : Heap} {N ps : List Str} {qual : Str} {scope : Scope} {f : Addr} {cd : Value} {A : Around} {outer : List Env} {s s1 : Shared} {H : Hp} {E : XK} {us : List Value} {vs : List V}
    (S : FnScope N ps scope) (hd : A.handled = none) (e0 : Env0 P w K mg base A outer s H) (hl : vs.length = ps.length) (r : Vals vs us)
    (x : InCallC s s.heap.objs.size (bindL (envOfC qual scope s.heap.objs.size f cd).kindOf (ps.zip us) fun _ => none) (cellsFrom (s.heap.objs.size + 1) scope.names []) (bindC (envOfC qual scope s.heap.objs.size f cd).kindOf (ps.zip us) fun _ => none) s1) :
    Inv (cxOf CX P w K mg base N qual scope f cd A outer s H E) [] (start N vs) H s1 := by
  have hpl : ps.length ≤ N.length := by have := congrArg List.length S.pre; rw [List.length_take] at this; omega
  obtain ⟨h1, tk, rfl, hk⟩ := x.done
  have noA : ∀ b : Addr, b ∉ (cxOf CX P w K mg base N qual scope f cd A outer s H E).ex := fun b z => absurd (show b ∈ ([] : List Addr) from z) (by simp)
  refine ⟨⟨e0.mod, S.kind, rfl, rfl, Nat.le_refl _, fun y z c h1 h2 => ?_, fun y hy => ?_, fun y c _ h => ?_, fun _ => hd, Around.frames_deeper e0.frames, .inr ⟨rfl, rfl⟩, fun b z => absurd z (noA b), e0.bs, e0.bsz, fun b _ _ => noA b, fun b z => absurd z (noA b), e0.funs, e0.frf⟩,
    rfl, e0.bare, Un.kept hk, ⟨_, x.toInCall.ns, fun i y v h1 h2 h3 => ?_⟩, fun y c h => ⟨_, x.cell y c h⟩, e0.hok.fresh (Nat.le_refl _), fun y c h => ?_, fun p hp => absurd (show p ∈ ([] : List (Addr × Obj)) from hp) (by simp), e0.hok.kept hk, ?_⟩
  · exact name_of_addr x.apart (PySem.mem_of_lookup h1) (PySem.mem_of_lookup h2)
  · have hy : scope.names.lookup y = some .cell ∨ scope.names.lookup y = some .free := hy
    rcases hy with hy | hy
    · exact cell_has hy
    · exact absurd rfl (S.nofree _ (PySem.mem_of_lookup hy))
  · exact Nat.le_of_lt (x.above y c (PySem.mem_of_lookup h))
  · have hi : i < vs.length := by
      unfold start at h2
      by_cases hi : i < vs.length
      · exact hi
      · rw [List.getElem?_append_right (by simpa using hi)] at h2
        rw [List.getElem?_replicate] at h2
        split at h2 <;> cases h2
    have ha : vs[i]? = some v := by
      unfold start at h2
      rw [List.getElem?_append_left (by simpa using hi), List.getElem?_map] at h2
      cases e : vs[i]? with
      | none => rw [e] at h2; cases h2
      | some a => rw [e] at h2; cases h2; rfl
    obtain ⟨u, hu, rv⟩ := r.get ha
    have hp : ps[i]? = some y := by
      rw [← S.pre, List.getElem?_take_of_lt (by omega)]; exact h1
    have ndP : ps.Nodup := by rw [← S.pre]; exact S.nd.sublist (List.take_sublist _ _)
    refine ⟨u, rv, ?_⟩
    rcases S.par y (List.mem_of_getElem? hp) with k | k
    · exact .inl ⟨k, bindL_get ndP hp hu k⟩
    · obtain ⟨c, e⟩ := cell_has (n := s.heap.objs.size + 1) k
      refine .inr ⟨.inl k, c, e, ?_⟩
      have q := x.cell y c e
      rw [bindC_get ndP hp hu (by show scope.names.lookup y ≠ _; rw [k]; decide)] at q
      exact q
  · exact e0.hok.fresh (Nat.le_of_lt (x.above y c (PySem.mem_of_lookup h)))
  · unfold start
    show _ = N.length
    rw [List.length_append, List.length_map, List.length_replicate]
    omega
theorem fn_of {CX : CXT} {P : Program} {w : World} {K : PySem.W.Frag} {mg : Str → Option Value} {base : Heap} {k : Nat} {f : Addr} {name qual : Str} {params : Arguments} {body : List Stmt} {scope : Scope} {dV kV doc pm cdv ct oc : Value} {an od : Option Addr}
    {osl : Array (Option Value)} {N ps : List Str} {sp : Sp} (lk : K.lookup f = some ⟨oc, od, .func (PySem.W.fnOf name qual params body scope dV kV doc pm an cdv ct), osl⟩) (hcd : PySem.W.codeIn K cdv qual = true) (S : FnScope N ps scope)
    (len : ∀ vs H Q E, sp vs H Q E → vs.length = ps.length)
    (hbody : ∀ (A : Around) (outer : List Env) (s : Shared) (H : Hp) (vs : List V) (Q : VK) (E : XK), Room k (A.deeper (envOfC qual scope s.heap.objs.size f cdv)) → sp vs H Q E →
      ∃ t, PSs (cxOf CX P w K mg base N qual scope f cdv A outer s H E) body t ∧ t { nx := fun _ H' => Q .non H', rt := Q } (start N vs) H) :
    FnOk P w K mg base CX (k + 1) f (PySem.W.fnOf name qual params body scope dV kV doc pm an cdv ct) ps sp := by
  refine ⟨len, fun A outer s H args us vs Q E hr e0 hb r hsp => ?_⟩
  have hl := len _ _ _ _ hsp
  have KX : K.In s.heap := e0.mod.kin.keeps fun b o e => (e0.bs b o e).1
  have lim : s.heap.NoLimit := e0.mod.nolimit.keeps fun b o e => (e0.bs b o e).1
  have hkind : ∀ y ∈ ps.zip us, scope.names.lookup y.1 = some .local ∨ (scope.names.lookup y.1 = some .cell ∧ ((cellsFrom (s.heap.objs.size + 1) scope.names []).lookup y.1).isSome = true) := fun ⟨n, v⟩ hy => by
    rcases S.par n (List.of_mem_zip hy).1 with q | q
    · exact .inl q
    · exact .inr ⟨q, PySem.W.cellsFrom_some _ _ _ (.inl q)⟩
  refine codeAny_call_function hr.depth (KX _ _ lk) rfl S.co S.gen rfl (PySem.W.codeRec_of KX hcd) (hb _ _ _ _ ?_)
  refine wpAny_newFunctionEnv_cells S.kind hkind fun env he s1 x => ?_
  subst he
  refine ⟨lim.keeps x.toInCall.keep, codeAny_func ?_⟩
  obtain ⟨t, ht, hq⟩ := hbody A outer s H vs Q E (hr.deeper _) hsp
  have I : Inv (cxOf CX P w K mg base N qual scope f cdv A outer s H E) [] (start N vs) H s1 := inv_start S hr.hd e0 hl r x
  refine wpAny_mono (ht [] s1 (start N vs) H _ I hq) (fun fl s' hs => ?_) fun e s' hs => hs
  have fin : ∀ {σ' : St} {H' : Hp} {v : V} {u : Value}, Inv (cxOf CX P w K mg base N qual scope f cdv A outer s H E) [] σ' H' s' → RelV v u → Q v H' → CE outer P w H s Q u s' :=
    fun {σ' H' v u} J rv q => ⟨v, H', J.os, J.bare, J.base, J.hok, rv, q⟩
  cases fl with
  | ret u =>
    obtain ⟨v, σ', H', J, rv, q⟩ := hs
    exact fin J rv q
  | next =>
    obtain ⟨σ', H', J, q⟩ := hs
    exact fin (v := V.non) (u := Value.none) J rfl q
  | brk =>
    obtain ⟨_, _, _, q⟩ := hs
    exact False.elim q
  | cont =>
    obtain ⟨_, _, _, q⟩ := hs
    exact False.elim q
end L2
namespace L2
open PySem PySem.Spec PyProof.Rows
section
variable {X : Cx} {x : Str} {p pos : Pos} {e : Expr} {es : List Expr} {t : TA} {id T : String} {r : List V → Hp → VK → Prop}
def tCB (r : List V → Hp → VK → Prop) (t : TA) : TE := fun σ H Q => t σ H fun vs H1 => r vs H1 Q
theorem pe_callB (hc : CallR X (.builtin id) r) (hg : Gl X x) (hm : X.mg x = none) (hv : bootBuiltins x = some (.builtin id)) (ha : PA X (e :: es) t) (hn : x ≠ "__name__" := by decide) (hdb : (x == ("__debug__" : Str)) = false := by decide)
    (he : starEach (e :: es) X.env = (false, eval e X.env) :: starEach es X.env := by rfl) (hpl : (backTo pos (starEach es X.env)).any (·.1) = false := by rfl) : PE X (.Call (.Name x p) (e :: es) [] pos) (tCB r t) := by
  intro pins s σ H Q I h
  refine wpAny_Call_Name_kw (ld_blt I hg hm hv ?_ hn hdb)
  exact PyProof.Rows.callWith_builtin1 (thn (ha pos pins s σ H _ I h) fun us s1 ⟨vs, H1, I1, r1, q1⟩ => hc pins s1 σ H1 vs us Q I1 r1 q1) he hpl
end
end L2
namespace HT
open PySem PyProof.Rows
section
open PySem.SeqAt
open PySem.AutoSeq1 (wpAny_loadPart')
open PySem.MeetsSeq PySem.MeetsSeq2 PySem.MeetsSeq3
end
section
variable {prog : Program} {w : World} {A : Around} {E : Value → Shared → Prop} {s : Shared}
def sIx (n d : Nat) : Option Int → Nat
  | none => d
  | some v => if v < 0 then (v + (n : Int)).toNat else min v.toNat n
theorem sIx_none (n d : Nat) : sIx n d none = d := rfl
theorem sIx_nat (n d k : Nat) : sIx n d (some (k : Int)) = min k n := by
  show (if (k : Int) < 0 then ((k : Int) + (n : Int)).toNat else min (k : Int).toNat n) = min k n
  rw [if_neg (by omega), Int.toNat_natCast]
end
end HT
namespace L2
open PySem PySem.Spec PyProof.Rows
abbrev TO := St → Hp → (Option Int → Hp → Prop) → Prop
def PO (X : Cx) (e : Option Expr) (t : TO) : Prop :=
  ∀ (pins : List (Addr × Obj)) (s : Shared) (σ : St) (H : Hp) (Q : Option Int → Hp → Prop), Inv X pins σ H s → t σ H Q →
    wpAny (model X.prog X.w) X.A (evalPart e X.env) (fun u s' => ∃ o H', Inv X pins σ H' s' ∧ IsPart u o ∧ Q o H') X.xe s
def tNoPart : TO := fun _ H Q => Q none H
def tPart (t : TE) : TO := fun σ H Q => t σ H fun x H1 => ∃ i, x = .int i ∧ Q (some i) H1
section
variable {X : Cx} {e : Expr} {te : TE} {lo hi : Option Expr} {tl th : TO} {pos p2 : Pos}
theorem po_none : PO X none tNoPart := by
  intro pins s σ H Q I h
  rw [evalPart_none]
  exact wpAny_pure ⟨none, H, I, .none, h⟩
theorem po_some (h : PE X e te) : PO X (some e) (tPart te) := by
  intro pins s σ H Q I hw
  rw [evalPart_some]
  refine thn (h pins s σ H _ I hw) fun u s1 ⟨x, H1, I1, r1, q1⟩ => ?_
  obtain ⟨i, rfl, q⟩ := q1
  obtain ⟨t, rfl⟩ := r1
  exact ⟨some i, H1, I1, .int i t, q⟩
def SlR (X : Cx) (r : V → Option Int → Option Int → Hp → VK → Prop) : Prop :=
  ∀ (pins : List (Addr × Obj)) (s : Shared) (σ : St) (H : Hp) (x : V) (v vl vu : Value) (lo hi : Option Int) (sl : Addr) (Q : VK), Inv X pins σ H s → RelV x v → s.heap.IsSliceOf sl vl vu .none → IsPart vl lo → IsPart vu hi → r x lo hi H Q →
    ∃ T id, typeLookup (.type T) "__getitem__" = pure (some (.builtin id)) ∧ s.TypeIs v T ∧ wpAny (model X.prog X.w) X.A (getItem v (.ref sl)) (EP X pins σ Q) X.xe s
def tSl (r : V → Option Int → Option Int → Hp → VK → Prop) (te : TE) (tl th : TO) : TE := fun σ H Q => te σ H fun x H1 => tl σ H1 fun l H2 => th σ H2 fun u H3 => r x l u H3 Q
theorem pe_slice {r : V → Option Int → Option Int → Hp → VK → Prop} (hr : SlR X r) (he : PE X e te) (hl : PO X lo tl) (hu : PO X hi th) : PE X (.Subscript e (.Slice lo hi none p2) pos) (tSl r te tl th) := by
  intro pins s σ H Q I h
  refine Subscript_ (thn (he pins s σ H _ I h) fun v s1 ⟨x, H1, I1, r1, q1⟩ => ?_)
  refine wpAny_Slice (thn (hl pins s1 σ H1 _ I1 q1) fun vl s2 ⟨l, H2, I2, pl, q2⟩ => thn (hu pins s2 σ H2 _ I2 q2) fun vu s3 ⟨u, H3, I3, pu, q3⟩ => ?_)
  rw [evalPart_none]
  refine wpAny_pure ?_
  have I4 : Inv X pins σ H3 { s3 with heap := s3.heap.push { cls := .type "slice", data := .fields #[vl, vu, .none] } } := I3.kept (t' := s3.toks) fun b ob q => Heap.get?_push_of_some _ q
  obtain ⟨T, id, hT, ht, hg⟩ := hr pins { s3 with heap := s3.heap.push { cls := .type "slice", data := .fields #[vl, vu, .none] } } σ H3 x v vl vu l u s3.heap.objs.size Q I4 r1 (Heap.IsSliceOf.new ..) pl pu q3
  show wpAny (model X.prog X.w) X.A (subscriptTail e (.Slice lo hi none p2) v (.ref s3.heap.objs.size)) (EP X pins σ Q) X.xe { s3 with heap := s3.heap.push { cls := .type "slice", data := .fields #[vl, vu, .none] } }
  exact tail_any (ops := [.ref s3.heap.objs.size, v]) ht hT hg (by with_unfolding_all rfl)
def cutV (xs : List V) (lo hi : Option Int) : List V := (xs.drop (HT.sIx xs.length 0 lo)).take (HT.sIx xs.length xs.length hi - HT.sIx xs.length 0 lo)
theorem cutV_length (xs : List V) (lo hi : Option Int) : (cutV xs lo hi).length ≤ xs.length := by
  unfold cutV
  rw [List.length_take, List.length_drop]
  omega
end
end L2
namespace L2
open PySem PySem.Spec PyProof.Rows
def ixN (n : Nat) (i : Int) : Option Nat := if 0 ≤ i then (if i < n then some i.toNat else none) else if -(n : Int) ≤ i then some (i + n).toNat else none
def atI {α : Type} (xs : List α) (i : Int) : Option α := (ixN xs.length i).bind fun j => xs[j]?
theorem ixN_seq {n : Nat} {i : Int} {j : Nat} (h : ixN n i = some j) : seqIndex? i n = some j ∧ j < n ∧ -(n : Int) ≤ i ∧ i < n := by
  unfold ixN at h
  by_cases h0 : 0 ≤ i
  · rw [if_pos h0] at h
    by_cases h1 : i < n
    · rw [if_pos h1] at h
      have e : i.toNat = j := Option.some.inj h
      exact ⟨by rw [seqIndex_of h0 h1, e], by omega, by omega, h1⟩
    · rw [if_neg h1] at h; cases h
  · rw [if_neg h0] at h
    by_cases h1 : -(n : Int) ≤ i
    · rw [if_pos h1] at h
      have e : (i + n).toNat = j := Option.some.inj h
      exact ⟨by rw [seqIndex_neg (by omega) h1, e], by omega, h1, by omega⟩
    · rw [if_neg h1] at h; cases h
theorem atI_get {α : Type} {xs : List α} {i : Int} {v : α} (h : atI xs i = some v) : ∃ j, seqIndex? i xs.length = some j ∧ xs[j]? = some v ∧ j < xs.length ∧ -(xs.length : Int) ≤ i ∧ i < xs.length := by
  unfold atI at h
  cases e : ixN xs.length i with
  | none => rw [e] at h; cases h
  | some j =>
    rw [e] at h
    obtain ⟨h1, h2, h3, h4⟩ := ixN_seq e
    exact ⟨j, h1, h, h2, h3, h4⟩
theorem atI_nat {α : Type} {xs : List α} {j : Nat} {v : α} (h : xs[j]? = some v) : atI xs (j : Int) = some v := by
  have hj : j < xs.length := (List.getElem?_eq_some_iff.mp h).1
  have e : ixN xs.length (j : Int) = some j := by
    unfold ixN
    rw [if_pos (by omega), if_pos (by omega)]; simp
  unfold atI; rw [e]; exact h
theorem atI_last {α : Type} (xs : List α) (v : α) : atI (xs ++ [v]) (-1) = some v := by
  have hl : (xs ++ [v]).length = xs.length + 1 := by simp
  have e : ixN (xs ++ [v]).length (-1) = some xs.length := by
    unfold ixN
    rw [hl, if_neg (by decide), if_pos (by omega)]
    congr 1
    omega
  unfold atI
  rw [e]
  show (xs ++ [v])[xs.length]? = some v
  simp
def PlainIx (b : Expr) : Prop := ∀ o i, subscripted b false o i = operate [o, i] (getItem o i)
def IxR (X : Cx) (r : R2) : Prop :=
  ∀ (value slice : Expr) (pins : List (Addr × Obj)) (s : Shared) (σ : St) (H : Hp) (x y : V) (v u : Value) (Q : VK), Inv X pins σ H s → RelV x v → RelV y u → r x y H Q →
    subscripted slice false v u = operate [v, u] (getItem v u) → wpAny (model X.prog X.w) X.A (subscriptTail value slice v u) (EP X pins σ Q) X.xe s
def MtR (X : Cx) (id : String) (r : V → List V → Hp → VK → Prop) : Prop :=
  ∀ (pins : List (Addr × Obj)) (s : Shared) (σ : St) (H : Hp) (x : V) (xs : List V) (v : Value) (us : List Value) (Q : VK), Inv X pins σ H s → RelV x v → Vals xs us → r x xs H Q →
    wpAny (model X.prog X.w) X.A (call (.builtin id) (v :: us)) (EP X pins σ Q) X.xe s
section
variable {X : Cx} {a b : Expr} {ta tb : TE} {pos : Pos}
theorem pe_ix {r : R2} (hr : IxR X r) (ha : PE X a ta) (hb : PE X b tb) (hs : PlainIx b) : PE X (.Subscript a b pos) (tOp r ta tb) := by
  intro pins s σ H Q I h
  exact Subscript_ (binT ha hb I h fun v u s2 x y H2 I2 rx ry q => hr a b pins s2 σ H2 x y v u Q I2 rx ry q (hs _ _))
def rIxL (K : PySem.W.Frag) : R2 := fun x y H Q => ∃ p xs i v, x = .ref p ∧ y = .int i ∧ SqL K H p xs ∧ atI xs i = some v ∧ Q v H
theorem ix_list : IxR X (rIxL X.K) := by
  intro value slice pins s σ H x y v u Q I rx ry h hs
  obtain ⟨p, xs, i, z, rfl, rfl, hq, he, q⟩ := h
  cases rx
  obtain ⟨t, rfl⟩ := ry
  obtain ⟨its, r, pl, hz⟩ := I.list hq
  obtain ⟨j, h1, h2, h3, h4, h5⟩ := atI_get he
  obtain ⟨w, ew, rw'⟩ := r.get h2
  have hl := r.length
  have hn := line63
  have fin : EP X pins σ Q w s := ⟨z, H, I, rw', q⟩
  by_cases h0 : 0 ≤ i
  · have hj : i.toNat = j := by
      rw [seqIndex_of h0 h5] at h1
      exact Option.some.inj h1
    exact item_listR pl.isList h0 (by omega) (by rw [hj]; simpa using ew) fin hs
  · have hj : (i + (its.toArray.size : Int)).toNat = j := by
      rw [seqIndex_neg (by omega) h4] at h1
      rw [List.size_toArray, ← hl]
      exact Option.some.inj h1
    exact subscriptTail_builtinR (x := w) pl.isList.typeIs slot_list_getitem.lookup
      (wpAny_getItem_list_neg (Q := fun r s' => r = w ∧ EP X pins σ Q r s') pl.isList (by omega) (by rw [List.size_toArray] <;> omega) (by omega) (by rw [hj]; simpa using ew) ⟨rfl, fin⟩) hs
theorem mapSeq_set (its : List Value) (n j : Nat) (u : Value) : Obj.mapSeq (·.setIfInBounds j u) { cls := .type "list", data := .seq its.toArray n } = { cls := .type "list", data := .seq (its.set j u).toArray n } := by
  simp [Obj.mapSeq]
theorem Inv.lst {pins : List (Addr × Obj)} {σ : St} {H : Hp} {s : Shared} {p : Addr} {xs : List V} (I : Inv X pins σ H s) (h : H p = some (.lst xs)) :
    ∃ (its : List Value) (n : Nat), Vals xs its ∧ s.heap.get? p = some { cls := .type "list", data := .seq its.toArray n } ∧ xs.length ≤ sizeLine := by
  obtain ⟨z, its, n, r, e⟩ := I.hok p _ h
  exact ⟨its, n, r, e, z⟩
theorem Inv.lstUpd {pins : List (Addr × Obj)} {σ : St} {H : Hp} {s : Shared} {p : Addr} {xs ys : List V} {its its' : List Value} {n n' : Nat} {f : Obj → Obj} (I : Inv X pins σ H s) (h : H p = some (.lst xs))
    (ho : s.heap.get? p = some { cls := .type "list", data := .seq its.toArray n }) (hf : f { cls := .type "list", data := .seq its.toArray n } = { cls := .type "list", data := .seq its'.toArray n' }) (r : Vals ys its') (hz : ys.length ≤ sizeLine) (t : Nat) :
    Inv X pins σ (upd H p (.lst ys)) { s with heap := s.heap.update p f, toks := t } := by
  have e : (s.heap.update p f).get? p = some { cls := .type "list", data := .seq its'.toArray n' } := by
    rw [Heap.get?_update_self f ho (by rw [hf] <;> rfl), hf]
  refine I.write (x := p) (e := p) (by rw [h]; trivial) (.inl rfl) (fun b u hb q => (Heap.get?_update_other _ _ (Ne.symm hb)).trans q) ⟨_, e⟩ ?_
  exact ⟨hz, its', n', r, e⟩
def rSetL : V → V → V → Hp → (Hp → Prop) → Prop := fun o i v H Q => ∃ p xs k j, o = .ref p ∧ i = .int k ∧ H p = some (.lst xs) ∧ ixN xs.length k = some j ∧ Q (upd H p (.lst (xs.set j v)))
theorem set_list : PSet X rSetL := by
  intro pins s σ H o i v ov iv u Q I ro ri rv h
  obtain ⟨p, xs, k, j, rfl, rfl, hp, hj, q⟩ := h
  cases ro
  obtain ⟨t, rfl⟩ := ri
  obtain ⟨its, n, r, ho, hz⟩ := I.lst hp
  obtain ⟨h1, h2, h3, h4⟩ := ixN_seq hj
  have hl := r.length
  have hn := line63
  have I' : Inv X pins σ (upd H p (.lst (xs.set j v))) { s with heap := s.heap.update p (Obj.mapSeq (·.setIfInBounds j u)) } :=
    I.lstUpd hp ho (mapSeq_set its n j u) (r.set rv j) (by rw [List.length_set]; exact hz) s.toks
  by_cases h0 : 0 ≤ k
  · have hk : k.toNat = j := by
      rw [seqIndex_of h0 h4] at h1
      exact Option.some.inj h1
    exact PySem.W.ki_setAt ho h0 (by omega) (by rw [List.size_toArray, ← hl]; exact h4) (by rw [hk]; exact ⟨_, I', q⟩)
  · have hk : (k + (its.toArray.size : Int)).toNat = j := by
      rw [seqIndex_neg (by omega) h3] at h1
      rw [List.size_toArray, ← hl]
      exact Option.some.inj h1
    exact PySem.W.ki_setBack ho (by omega) (by rw [List.size_toArray, ← hl]; exact h3) (by omega) (by rw [hk]; exact ⟨_, I', q⟩)
theorem slice_bounds (lo hi : Option Int) (n : Nat) : (sliceBounds lo hi none n).1 = ((HT.sIx n 0 lo : Nat) : Int) ∧ (sliceBounds lo hi none n).2.1 = ((HT.sIx n n hi : Nat) : Int) ∧ (sliceBounds lo hi none n).2.2 = 1 := by
  refine ⟨?_, ?_, rfl⟩
  · cases lo with
    | none => simp [sliceBounds, HT.sIx]
    | some i =>
      simp only [sliceBounds, HT.sIx, Option.getD_none, show (1 : Int) > 0 by decide, if_true]
      by_cases h : i < 0
      · simp only [h, if_true] <;> omega
      · simp only [h, if_false] <;> omega
  · cases hi with
    | none => simp [sliceBounds, HT.sIx]
    | some i =>
      simp only [sliceBounds, HT.sIx, Option.getD_none, show (1 : Int) > 0 by decide, if_true]
      by_cases h : i < 0
      · simp only [h, if_true] <;> omega
      · simp only [h, if_false] <;> omega
theorem slicePick_cut (its : List Value) (lo hi : Option Int) : slicePick its.toArray lo hi none = ((its.drop (HT.sIx its.length 0 lo)).take (HT.sIx its.length its.length hi - HT.sIx its.length 0 lo)).toArray := by
  obtain ⟨h1, h2, h3⟩ := slice_bounds lo hi its.toArray.size
  unfold slicePick
  rw [h1, h2, h3]
  simp only [sliceRange_one, pick_run, List.size_toArray] <;> rfl
def rSlL (K : PySem.W.Frag) : V → Option Int → Option Int → Hp → VK → Prop := fun x lo hi H Q => ∃ a xs, x = .ref a ∧ SqL K H a xs ∧ ∀ p, H p = none → Q (.ref p) (upd H p (.lst (cutV xs lo hi)))
theorem sl_list : SlR X (rSlL X.K) := by
  intro pins s σ H x v vl vu lo hi sl Q I rx hs pl pu h
  obtain ⟨a, xs, rfl, hx, q⟩ := h
  cases rx
  obtain ⟨its, r, ht, hz⟩ := I.list hx
  have hlen := r.length
  refine ⟨"list", _, slot_list_getitem.lookup, ht.isList.typeIs, ?_⟩
  refine wpAny_getItem_list_slice ht.isList hs pl pu .none (by simp) ?_ (by rw [List.size_toArray] <;> omega)
  rw [slicePick_cut, ← hlen]
  refine ⟨.ref s.heap.objs.size, _, I.laid (t' := s.toks) (o := .lst (cutV xs lo hi)) (fun b ob q => Heap.get?_push_of_some _ q) (Nat.le_refl _) ?_, rfl, q _ (I.hok.fresh (Nat.le_refl _))⟩
  exact ⟨Nat.le_trans (cutV_length xs lo hi) hz, _, 0, (r.drop (HT.sIx xs.length 0 lo)).take (HT.sIx xs.length xs.length hi - HT.sIx xs.length 0 lo), Heap.get?_push_size _ rfl⟩
def flatV : V → Bool
  | .non => true
  | .bl _ => true
  | .int _ => true
  | .str _ => true
  | _ => false
def eqV : V → V → Bool
  | .non, .non => true
  | .bl a, .bl b => a == b
  | .bl a, .int b => (if a then 1 else 0) == b
  | .int a, .bl b => a == (if b then 1 else 0)
  | .int a, .int b => a == b
  | .str a, .str b => a == b
  | _, _ => false
theorem eqAt_V {A : Around} {s : Shared} {y x : V} {u v : Value} (ry : RelV y u) (rx : RelV x v) (fy : flatV y = true) (fx : flatV x = true) : SeqAt.EqAt A s u v (eqV y x) := by
  cases y with
  | non =>
    cases ry
    cases x with
    | non => cases rx; exact SeqAt.EqAt.same _
    | bl b => cases rx; exact SeqAt.EqAt.none_bool b
    | int b => obtain ⟨t, rfl⟩ := rx; exact SeqAt.EqAt.none_int b t
    | str b => obtain ⟨t, rfl⟩ := rx; exact SeqAt.EqAt.none_str b t
    | _ => exact absurd (show false = true from fx) Bool.false_ne_true
  | bl a =>
    cases ry
    cases x with
    | non => cases rx; exact SeqAt.EqAt.bool_none a
    | bl b => cases rx; exact SeqAt.EqAt.bool_bool a b
    | int b => obtain ⟨t, rfl⟩ := rx; exact SeqAt.EqAt.bool_int a b t
    | str b => obtain ⟨t, rfl⟩ := rx; exact SeqAt.EqAt.bool_str a b t
    | _ => exact absurd (show false = true from fx) Bool.false_ne_true
  | int a =>
    obtain ⟨t', rfl⟩ := ry
    cases x with
    | non => cases rx; exact SeqAt.EqAt.int_none a t'
    | bl b => cases rx; exact SeqAt.EqAt.int_bool a t' b
    | int b => obtain ⟨t, rfl⟩ := rx; exact SeqAt.EqAt.int_int a t' b t
    | str b => obtain ⟨t, rfl⟩ := rx; exact SeqAt.EqAt.int_str a t' b t
    | _ => exact absurd (show false = true from fx) Bool.false_ne_true
  | str a =>
    obtain ⟨t', rfl⟩ := ry
    cases x with
    | non => cases rx; exact SeqAt.EqAt.str_none a t'
    | bl b => cases rx; exact SeqAt.EqAt.str_bool a t' b
    | int b => obtain ⟨t, rfl⟩ := rx; exact SeqAt.EqAt.str_int a t' b t
    | str b => obtain ⟨t, rfl⟩ := rx; exact SeqAt.EqAt.str_str a t' b t
    | _ => exact absurd (show false = true from fx) Bool.false_ne_true
  | _ => exact absurd (show false = true from fy) Bool.false_ne_true
def eqU (x : V) (u : Value) : Bool := match u with
  | .none => eqV .non x
  | .bool b => eqV (.bl b) x
  | .int i _ => eqV (.int i) x
  | .str z _ => eqV (.str z) x
  | _ => false
theorem eqU_of {x y : V} {u : Value} (r : RelV y u) (f : flatV y = true) : eqU x u = eqV y x := by
  cases y with
  | non => cases r; rfl
  | bl b => cases r; rfl
  | int i => obtain ⟨t, rfl⟩ := r; rfl
  | str z => obtain ⟨t, rfl⟩ := r; rfl
  | _ => exact absurd (show false = true from f) Bool.false_ne_true
theorem any_eqU {x : V} : ∀ {xs : List V} {us : List Value}, Vals xs us → xs.all flatV = true → us.any (eqU x) = xs.any fun y => eqV y x
  | _, _, .nil, _ => rfl
  | y :: xs, u :: us, .cons r t, f => by
    rw [List.all_cons, Bool.and_eq_true] at f
    rw [List.any_cons, List.any_cons, eqU_of r f.1, any_eqU t f.2]
theorem mem_eqAt {A : Around} {s : Shared} {x : V} {v : Value} (rx : RelV x v) (fx : flatV x = true) : ∀ {xs : List V} {us : List Value}, Vals xs us → xs.all flatV = true → ∀ u ∈ us, SeqAt.EqAt A s u v (eqU x u)
  | _, _, .nil, _ => fun u hu => by cases hu
  | y :: xs, u :: us, .cons r t, f => fun u' hu => by
    rw [List.all_cons, Bool.and_eq_true] at f
    rcases List.mem_cons.mp hu with rfl | hu
    · rw [eqU_of r f.1]; exact eqAt_V r rx f.1 fx
    · exact mem_eqAt rx fx t f.2 u' hu
def inV (x : V) (xs : List V) : Bool := xs.any fun y => eqV y x
def rIn (K : PySem.W.Frag) (neg : Bool) : R2 := fun x y H Q => ∃ p xs, y = .ref p ∧ (SqL K H p xs ∨ SqT K H p xs) ∧ flatV x = true ∧ xs.all flatV = true ∧ Q (.bl (if neg then !inV x xs else inV x xs)) H
theorem op_in_seq : OpR X (compareOp .In) (rIn X.K false) := by
  intro pins s σ H x y v u Q I rx ry h
  obtain ⟨p, xs, rfl, hq, fx, fs, q⟩ := h
  cases ry
  rcases hq with hq | hq
  · obtain ⟨its, r, pl, hz⟩ := I.list hq
    refine SeqAt.in_listAt (eqU x) pl.isList (fun w hw => mem_eqAt rx fx r fs w (by simpa using hw)) ⟨.bl _, H, I, rfl, ?_⟩
    rw [show its.toArray.any (eqU x) = its.any (eqU x) by simp, any_eqU r fs]
    exact q
  · obtain ⟨its, r, pl, hz⟩ := I.tuple hq
    refine SeqAt.in_tupleAt (eqU x) pl (fun w hw => mem_eqAt rx fx r fs w (by simpa using hw)) ⟨.bl _, H, I, rfl, ?_⟩
    rw [show its.toArray.any (eqU x) = its.any (eqU x) by simp, any_eqU r fs]
    exact q
theorem op_notIn_seq : OpR X (compareOp .NotIn) (rIn X.K true) := by
  intro pins s σ H x y v u Q I rx ry h
  obtain ⟨p, xs, rfl, hq, fx, fs, q⟩ := h
  cases ry
  rcases hq with hq | hq
  · obtain ⟨its, r, pl, hz⟩ := I.list hq
    refine SeqAt.notIn_listAt (eqU x) pl.isList (fun w hw => mem_eqAt rx fx r fs w (by simpa using hw)) ⟨.bl _, H, I, rfl, ?_⟩
    rw [show its.toArray.any (eqU x) = its.any (eqU x) by simp, any_eqU r fs]
    exact q
  · obtain ⟨its, r, pl, hz⟩ := I.tuple hq
    refine SeqAt.notIn_tupleAt (eqU x) pl (fun w hw => mem_eqAt rx fx r fs w (by simpa using hw)) ⟨.bl _, H, I, rfl, ?_⟩
    rw [show its.toArray.any (eqU x) = its.any (eqU x) by simp, any_eqU r fs]
    exact q
theorem call_len_seq : CallR X (.builtin "len") (fun xs H Q => ∃ p ys, xs = [.ref p] ∧ (SqL X.K H p ys ∨ SqT X.K H p ys) ∧ Q (.int ys.length) H) := by
  intro pins s σ H xs us Q I r h
  obtain ⟨p, ys, rfl, hq, q⟩ := h
  obtain ⟨u, rfl, rx⟩ := vals1 r
  cases rx
  have hn := line63
  rcases hq with hq | hq
  · obtain ⟨its, r', pl, hz⟩ := I.list hq
    have hlen := r'.length
    exact Calls.call_len_list pl.isList (by simp only [List.size_toArray] <;> omega) ⟨.int ys.length, H, I.tok _, ⟨s.toks + 1, by rw [List.size_toArray, hlen]⟩, q⟩
  · obtain ⟨its, r', pl, hz⟩ := I.tuple hq
    have hlen := r'.length
    exact len_tuple pl (by simp only [List.size_toArray] <;> omega) ⟨.int ys.length, H, I.tok _, ⟨s.toks + 1, by rw [List.size_toArray, hlen]⟩, q⟩
def tyV (K : PySem.W.Frag) (T : String) (x : V) (H : Hp) : Prop := match x with
  | .str _ => T = "str"
  | .int _ => T = "int"
  | .ref p => (T = "list" ∧ ∃ xs, SqL K H p xs) ∨ (T = "tuple" ∧ ∃ o, K.lookup p = some o ∧ o.cls = .type "tuple" ∧ o.dict = none) ∨
      (T = "dict" ∧ ((∃ kvs, H p = some (.dK kvs)) ∨ ∃ kvs, H p = some (.dT kvs))) ∨ (T = "set" ∧ ∃ S n, H p = some (.set S n))
  | _ => False
theorem tyV_is {pins : List (Addr × Obj)} {σ : St} {H : Hp} {s : Shared} {T : String} {x : V} {v : Value} (I : Inv X pins σ H s) (r : RelV x v) (ty : tyV X.K T x H) :
    s.TypeIs v T ∧ ∀ a, v = .ref a → ∃ ob, s.heap.get? a = some ob ∧ ob.dict = none := by
  cases x with
  | str z =>
    obtain ⟨t, rfl⟩ := r
    cases (show T = "str" from ty)
    exact ⟨typeIs_str s z t, fun _ e => nomatch e⟩
  | int i =>
    obtain ⟨t, rfl⟩ := r
    cases (show T = "int" from ty)
    exact ⟨typeIs_int s i t, fun _ e => nomatch e⟩
  | ref p =>
    cases r
    rcases ty with ⟨rfl, xs, hq⟩ | ⟨rfl, o, hk, hc, hd⟩ | ⟨rfl, hk⟩ | ⟨rfl, S, n, hk⟩
    · obtain ⟨its, _, pl, _⟩ := I.list hq
      refine ⟨pl.isList.typeIs, fun a e => ?_⟩
      cases e
      obtain ⟨o, n, e, c, hd, _⟩ := pl
      exact ⟨o, e, hd⟩
    · refine ⟨⟨o, I.kIn p o hk, hc⟩, fun a e => ?_⟩
      cases e
      exact ⟨o, I.kIn _ o hk, hd⟩
    · have z : ∃ o, s.heap.get? p = some o ∧ o.ExactDict := by
        rcases hk with ⟨kvs, hk⟩ | ⟨kvs, hk⟩
        · obtain ⟨_, _, _, _, o, _, _, e, ex, _⟩ := I.hok p _ hk
          exact ⟨o, e, ex⟩
        · obtain ⟨_, _, _, _, o, _, _, e, ex, _⟩ := I.hok p _ hk
          exact ⟨o, e, ex⟩
      obtain ⟨o, e, ex⟩ := z
      refine ⟨⟨o, e, ex.1⟩, fun a e2 => ?_⟩
      cases e2
      exact ⟨o, e, ex.2.1⟩
    · obtain ⟨o, _, _, _, e, ex, _⟩ := I.hok p _ hk
      refine ⟨⟨o, e, ex.1⟩, fun a e2 => ?_⟩
      cases e2
      exact ⟨o, e, ex.2.1⟩
  | _ => exact False.elim ty
def tBM0 (K : PySem.W.Frag) (T : String) (r : V → List V → Hp → VK → Prop) (to : TE) : TE := fun σ H Q => to σ H fun x H1 => tyV K T x H1 ∧ r x [] H1 Q
def tBM (K : PySem.W.Frag) (T : String) (r : V → List V → Hp → VK → Prop) (to : TE) (t : TA) : TE := fun σ H Q => to σ H fun x H1 => tyV K T x H1 ∧ t σ H1 fun xs H2 => r x xs H2 Q
variable {o e : Expr} {es : List Expr} {to : TE} {t : TA} {name : Str} {apos cpos : Pos} {T id : String} {r : V → List V → Hp → VK → Prop}
theorem pe_bm0 (pa : PlainAttrs T) (slot : Slot T name id) (hty : typeOf (.builtin id) = pure (.type "method_descriptor")) (hm : MtR X id r) (ho : PE X o to)
    (hbase : attributeBase o name X.env (eval o X.env) = eval o X.env := by rfl) (hline : (apos.endLine == cpos.line) = true := by rfl) : PE X (.Call (.Attribute o name apos) [] [] cpos) (tBM0 X.K T r to) := by
  intro pins s σ H Q I h
  refine wpAny_Call_method0_late hbase hline (thn (ho pins s σ H _ I h) fun v s1 ⟨x, H1, I1, r1, ty, q1⟩ => ?_)
  obtain ⟨h1, h2⟩ := tyV_is I1 r1 ty
  exact ⟨T, id, pa, slot, hty, h1, h2, Calls.callWith_builtin rfl (PySem.evalArgs_none (hm pins s1 σ H1 x [] v [] Q I1 r1 .nil q1))⟩
theorem pe_bm (pa : PlainAttrs T) (slot : Slot T name id) (hty : typeOf (.builtin id) = pure (.type "method_descriptor")) (hm : MtR X id r) (ho : PE X o to) (ha : PA X (e :: es) t)
    (hbase : attributeBase o name X.env (eval o X.env) = eval o X.env := by rfl)
    (hfew : ((backTo cpos (starEach (e :: es) X.env)).all (fun x => !x.1) && (backToKw cpos (keywordEach [] X.env)).all (fun x => x.1.isSome)
      && decide ((e :: es).length + ([] : List Keyword).length + (if ([] : List Keyword).isEmpty then 0 else 1) < 30)) = true := by rfl)
    (hline : (apos.endLine == cpos.line) = true := by rfl) (hs : starEach (e :: es) X.env = (false, eval e X.env) :: starEach es X.env := by rfl) (hplain : (backTo cpos (starEach es X.env)).any (·.1) = false := by rfl) :
    PE X (.Call (.Attribute o name apos) (e :: es) [] cpos) (tBM X.K T r to t) := by
  intro pins s σ H Q I h
  refine wpAny_Call_method_late hbase hfew hline rfl (thn (ho pins s σ H _ I h) fun v s1 ⟨x, H1, I1, r1, ty, q1⟩ => ?_)
  obtain ⟨h1, h2⟩ := tyV_is I1 r1 ty
  refine ⟨T, id, pa, slot, hty, h1, h2, ?_⟩
  have hA := ha cpos pins s1 σ H1 _ I1 q1
  rw [hs] at hA ⊢
  refine Calls.callWith_builtin (by show (false || (backTo cpos (starEach es X.env)).any (·.1)) = false; rw [hplain] <;> rfl) (Calls.evalArgs_plain ?_)
  exact thn hA fun us s2 ⟨vs, H2, I2, r2, q2⟩ => hm pins s2 σ H2 x vs v us Q I2 r1 r2 q2
end
end L2
namespace L2
open PySem PySem.Spec PyProof.Rows
def MtM (X : Cx) (id : String) (r : V → List V → Hp → VK → Prop) : Prop :=
  ∀ (pins : List (Addr × Obj)) (s : Shared) (σ : St) (H : Hp) (x : V) (xs : List V) (v : Value) (us : List Value) (Q : VK), Inv X pins σ H s → RelV x v → Vals xs us → r x xs H Q →
    wpAny (model X.prog X.w) X.A (call (.builtin id) (v :: us)) (EP X pins σ Q) X.xe s
theorem Vals.one : ∀ {x : V} {us : List Value}, Vals [x] us → ∃ u, us = [u] ∧ RelV x u
  | _, _, .cons r .nil => ⟨_, rfl, r⟩
theorem Vals.two : ∀ {x y : V} {us : List Value}, Vals [x, y] us → ∃ u v, us = [u, v] ∧ RelV x u ∧ RelV y v
  | _, _, _, .cons r (.cons q .nil) => ⟨_, _, rfl, r, q⟩
theorem Vals.zero : ∀ {us : List Value}, Vals [] us → us = []
  | _, .nil => rfl
theorem Vals.dropLast {xs : List V} {us : List Value} (h : Vals xs us) : Vals xs.dropLast us.dropLast := by
  induction h with
  | nil => exact .nil
  | cons r t ih =>
    cases t with
    | nil => exact .nil
    | cons q t' => exact .cons r ih
theorem Vals.rep {xs : List V} {us : List Value} (h : Vals xs us) : ∀ k : Nat, Vals (List.replicate k xs).flatten (List.replicate k us).flatten
  | 0 => .nil
  | k + 1 => by
    rw [List.replicate_succ, List.replicate_succ, List.flatten_cons, List.flatten_cons]
    exact Vals.append h (Vals.rep h k)
theorem erase_last {α : Type} (l : List α) : l.eraseIdx (l.length - 1) = l.dropLast := by
  induction l with
  | nil => rfl
  | cons a r ih =>
    cases r with
    | nil => rfl
    | cons b r =>
      have e : (a :: b :: r).length - 1 = ((b :: r).length - 1) + 1 := by
        have h1 : (a :: b :: r).length = r.length + 2 := rfl
        have h2 : (b :: r).length = r.length + 1 := rfl
        omega
      rw [e, List.eraseIdx_cons_succ, ih]
      all_goals rfl
theorem foldl_rep (its : List Value) : ∀ (k : Nat) (acc : List Value),
    List.foldl (fun x1 x2 => x1 ++ x2) acc.toArray (List.replicate k its.toArray) = (acc ++ (List.replicate k its).flatten).toArray
  | 0, acc => by simp
  | k + 1, acc => by
    have e : acc.toArray ++ its.toArray = (acc ++ its).toArray := by simp
    have e2 : (acc ++ its) ++ (List.replicate k its).flatten = acc ++ (List.replicate (k + 1) its).flatten := by
      rw [List.replicate_succ, List.flatten_cons, List.append_assoc]
    rw [← e2, ← foldl_rep its k (acc ++ its), ← e, List.replicate_succ, List.foldl_cons]
section
variable {X : Cx} {pins : List (Addr × Obj)} {σ : St} {H : Hp} {s : Shared} {l b : Addr} {xs ys zs : List V}
theorem Inv.lset {its its' : List Value} {n : Nat} {f : Array Value → Array Value} {t' : Nat} (I : Inv X pins σ H s) (hH : H l = some (.lst xs))
    (e : s.heap.get? l = some { cls := .type "list", data := .seq its.toArray n }) (hf : f its.toArray = its'.toArray) (hv : Vals ys its') (hz : ys.length ≤ sizeLine) :
    Inv X pins σ (upd H l (.lst ys)) { s with heap := s.heap.update l (Obj.mapSeq f), toks := t' } := by
  have q := PySem.IsL.update e f
  rw [hf] at q
  refine I.write (x := l) (e := l) (by rw [hH]; exact trivial) (.inl rfl) (fun b' u hb hu => (Heap.get?_update_other s.heap (Obj.mapSeq f) (Ne.symm hb)).trans hu) ⟨_, q⟩ ?_
  exact ⟨hz, its', _, hv, q⟩
theorem Inv.lnew {its : List Value} {t' : Nat} (I : Inv X pins σ H s) (hv : Vals ys its) (hz : ys.length ≤ sizeLine) :
    Inv X pins σ (upd H s.heap.objs.size (.lst ys)) { s with heap := s.heap.push { cls := .type "list", data := .seq its.toArray }, toks := t' } :=
  I.laid (fun _ _ q => Heap.get?_push_of_some _ q) (Nat.le_refl _) ⟨hz, its, 0, hv, Heap.get?_push_size _ rfl⟩
theorem Inv.fresh (I : Inv X pins σ H s) : H s.heap.objs.size = none := I.hok.fresh (Nat.le_refl _)
theorem Inv.lstM (I : Inv X pins σ H s) (hH : H l = some (.lst xs)) : xs.length ≤ sizeLine ∧ ∃ (its : List Value) (n : Nat), Vals xs its ∧ xs.length = its.length ∧ s.heap.get? l = some { cls := .type "list", data := .seq its.toArray n } := by
  obtain ⟨z, its, n, r, e⟩ := I.hok l _ hH
  exact ⟨z, its, n, r, r.length, e⟩
theorem notLongL {n : Nat} (h : n ≤ sizeLine) : Builtin.List.listTooLong n = false := by
  unfold Builtin.List.listTooLong
  exact decide_eq_false (by omega)
end
section
variable {X : Cx}
def rAppend : V → List V → Hp → VK → Prop := fun x vs H Q => ∃ l xs y, x = .ref l ∧ vs = [y] ∧ H l = some (.lst xs) ∧ xs.length < sizeLine ∧ Q .non (upd H l (.lst (xs ++ [y])))
theorem mt_append : MtM X "list.append" rAppend := by
  intro pins s σ H x vs v us Q I rx rv h
  obtain ⟨l, xs, y, rfl, rfl, hH, hz, q⟩ := h
  cases rx
  obtain ⟨u, rfl, ru⟩ := rv.one
  obtain ⟨z, its, n, r, hl, e⟩ := I.lstM hH
  refine call_meets F.slot_list_append ⟨_, e, rfl⟩ F.entry_list_append (F.args_list_append_2 _ _) (PySem.list_append l its.toArray n u (by rw [List.size_toArray]; omega)) ⟨e, ?_⟩
  refine ⟨.non, _, I.lset (its' := its ++ [u]) hH e (by simp) (r.append (.cons ru .nil)) ?_, rfl, q⟩
  rw [List.length_append, List.length_singleton]
  omega
def rExtend : V → List V → Hp → VK → Prop := fun x vs H Q => ∃ l b xs zs, x = .ref l ∧ vs = [.ref b] ∧ H l = some (.lst xs) ∧ H b = some (.lst zs) ∧ xs.length + zs.length ≤ sizeLine ∧ Q .non (upd H l (.lst (xs ++ zs)))
theorem mt_extend : MtM X "list.extend" rExtend := by
  intro pins s σ H x vs v us Q I rx rv h
  obtain ⟨l, b, xs, zs, rfl, rfl, hH, hB, hz, q⟩ := h
  cases rx
  obtain ⟨u, rfl, ru⟩ := rv.one
  cases ru
  obtain ⟨z, its, n, r, hl, e⟩ := I.lstM hH
  obtain ⟨z2, its2, n2, r2, hl2, e2⟩ := I.lstM hB
  have hsz : its.toArray.size + its2.toArray.size ≤ sizeLine := by rw [List.size_toArray, List.size_toArray]; omega
  have hlong : ¬ (!its.toArray.isEmpty && Builtin.List.listTooLong (its.toArray.size + its2.toArray.size)) = true := by
    rw [notLongL hsz, Bool.and_false]
    exact Bool.false_ne_true
  refine call_meets F.slot_list_extend ⟨_, e, rfl⟩ F.entry_list_extend (F.args_list_extend_2 _ _)
    (AutoSeq1.list_extend_list_list_0 l its.toArray n b its2.toArray n2 hlong (by rw [List.size_toArray]; omega) (by omega)) ⟨e, e2, ?_⟩
  refine ⟨.non, _, I.lset (its' := its ++ its2) hH e (by simp) (r.append r2) ?_, rfl, q⟩
  rw [List.length_append]
  omega
def rPop : V → List V → Hp → VK → Prop := fun x vs H Q => ∃ l xs y, x = .ref l ∧ vs = [] ∧ H l = some (.lst xs) ∧ xs[xs.length - 1]? = some y ∧ Q y (upd H l (.lst xs.dropLast))
theorem mt_pop : MtM X "list.pop" rPop := by
  intro pins s σ H x vs v us Q I rx rv h
  obtain ⟨l, xs, y, rfl, rfl, hH, hy, q⟩ := h
  cases rx
  have hus := rv.zero
  subst hus
  obtain ⟨z, its, n, r, hl, e⟩ := I.lstM hH
  obtain ⟨u, hu, ru⟩ := r.get hy
  have hy' : its.toArray[its.toArray.size - 1]? = some u := by
    show its.toArray[its.length - 1]? = some u
    rw [← Array.getElem?_toList, ← hl]
    exact hu
  refine call_meets F.slot_list_pop ⟨_, e, rfl⟩ F.entry_list_pop (F.args_list_pop_1 _) (MeetsSeq.list_pop_last l its.toArray n u hy' (by rw [List.size_toArray]; omega)) ⟨e, ?_⟩
  refine ⟨y, _, I.lset (its' := its.dropLast) hH e ?_ r.dropLast ?_, ru, q⟩
  · show its.toArray.eraseIdxIfInBounds (its.toArray.size - 1) = its.dropLast.toArray
    rw [List.size_toArray, List.eraseIdxIfInBounds_toArray, erase_last]
  · rw [List.length_dropLast]
    omega
def rCat : R2 := fun x y H Q => ∃ l b xs zs, x = .ref l ∧ y = .ref b ∧ H l = some (.lst xs) ∧ H b = some (.lst zs) ∧ xs.length + zs.length ≤ sizeLine ∧ ∀ p, H p = none → Q (.ref p) (upd H p (.lst (xs ++ zs)))
theorem op_cat : OpR X (binaryOp .Add) rCat := by
  intro pins s σ H x y v u Q I rx ry h
  obtain ⟨l, b, xs, zs, rfl, rfl, hH, hB, hz, q⟩ := h
  cases rx
  cases ry
  obtain ⟨z, its, n, r, hl, e⟩ := I.lstM hH
  obtain ⟨z2, its2, n2, r2, hl2, e2⟩ := I.lstM hB
  refine PySem.P.add_list e e2 ?_ (by rw [List.size_toArray, List.size_toArray]; omega)
  have ea : its.toArray ++ its2.toArray = (its ++ its2).toArray := by simp
  rw [ea]
  exact ⟨.ref _, _, I.lnew (t' := s.toks) (r.append r2) (by rw [List.length_append]; omega), rfl, q _ I.fresh⟩
def rRep : R2 := fun x y H Q => ∃ l k xs, x = .ref l ∧ y = .int k ∧ H l = some (.lst xs) ∧ -(2 ^ 63) ≤ k ∧ k < 2 ^ 63 ∧ xs.length * k.toNat ≤ sizeLine ∧
  ∀ p, H p = none → Q (.ref p) (upd H p (.lst (List.replicate k.toNat xs).flatten))
theorem len_rep {α : Type} (xs : List α) (k : Nat) : (List.replicate k xs).flatten.length = k * xs.length := by
  induction k with
  | zero => simp
  | succ k ih => rw [List.replicate_succ, List.flatten_cons, List.length_append, ih, Nat.succ_mul, Nat.add_comm]
theorem op_rep : OpR X (binaryOp .Mult) rRep := by
  intro pins s σ H x y v u Q I rx ry h
  obtain ⟨l, k, xs, rfl, rfl, hH, h1, h2, hz, q⟩ := h
  cases rx
  obtain ⟨t, rfl⟩ := ry
  obtain ⟨z, its, n, r, hl, e⟩ := I.lstM hH
  have hlen : its.toArray.size * k.toNat ≤ sizeLine := by rw [List.size_toArray, ← hl]; exact hz
  have hcap : ¬ its.toArray.size * k.toNat > (2 ^ 63 - 1) / 8 := by
    have : (sizeLine : Nat) ≤ (2 ^ 63 - 1) / 8 := by decide
    omega
  have hfit : ¬ (!Builtin.List.listFitsIndex k) = true := by
    rw [fitsIndex_both h1 h2]
    exact Bool.false_ne_true
  have hlong : ¬ Builtin.List.listTooLong (its.toArray.size * k.toNat) = true := by
    rw [notLongL hlen]
    exact Bool.false_ne_true
  have hnew : List.foldl (fun x1 x2 => x1 ++ x2) #[] (List.replicate (if its.toArray.isEmpty = true then 0 else k.toNat) its.toArray) = (List.replicate k.toNat its).flatten.toArray := by
    have f0 : ∀ m : Nat, List.foldl (fun x1 x2 => x1 ++ x2) #[] (List.replicate m its.toArray) = (List.replicate m its).flatten.toArray := fun m => by
      have := foldl_rep its m []
      rw [List.nil_append] at this
      exact this
    rw [f0]
    cases its with
    | nil => simp
    | cons a r' => rw [if_neg (by simp)]
  refine wpAny_binaryOp_repeat_ref (T := "list") (U := "int") (by decide) ⟨_, e, rfl⟩ (fun s' => typeIs_int s' k t) noFill_list_mul F.fills_int_mul F.slot_int_rmul repeat_list F.slot_int_index.lookup
    (call_meets F.slot_int_rmul (typeIs_int s k t) F.entry_int_rmul (F.args_int_rmul_2 _ _) (int___rmul___int_list k t l its.toArray n)
      ⟨e, rfl, ⟨_, e, rfl⟩, call_meets F.slot_list_mul ⟨_, e, rfl⟩ F.entry_list_mul (F.args_list_mul_2 _ _) (AutoListH.list___mul___list_int_3 l its.toArray n k t hfit hcap hlong) ⟨e, ?_⟩⟩)
  rw [hnew]
  exact ⟨.ref _, _, I.lnew (t' := s.toks) (r.rep k.toNat) (by rw [len_rep, Nat.mul_comm]; exact hz), rfl, q _ I.fresh⟩
end
section
variable {prog : Program} {w : World} {A : Around} {E : Value → Shared → Prop} {s : Shared}
end
section
variable {X : Cx}
end
end L2
namespace L2
open PySem PySem.Spec PyProof.Rows
section
variable {prog : Program} {w : World} {A : Around} {E : Value → Shared → Prop} {s : Shared} {l : Addr} {its : List Value} {ns : List Int} {Q : Value → Shared → Prop}
end
section
variable {X : Cx}
end
section
variable {X : Cx}
end
section
variable {X : Cx}
end
section
variable {X : Cx}
end
mutual
inductive Dp (K : PySem.W.Frag) (H : Hp) : V → PyData → Prop
  | non : Dp K H .non .none
  | bl (b : Bool) : Dp K H (.bl b) (.bool b)
  | int (i : Int) : Dp K H (.int i) (.int i)
  | str (x : Str) : Dp K H (.str x) (.str x)
  | lst {a : Addr} {xs : List V} {ds : List PyData} : SqL K H a xs → DpAll K H xs ds → Dp K H (.ref a) (.list ds)
  | tup {a : Addr} {xs : List V} {ds : List PyData} : SqT K H a xs → DpAll K H xs ds → Dp K H (.ref a) (.tuple ds)
inductive DpAll (K : PySem.W.Frag) (H : Hp) : List V → List PyData → Prop
  | nil : DpAll K H [] []
  | cons {v : V} {vs : List V} {d : PyData} {ds : List PyData} : Dp K H v d → DpAll K H vs ds → DpAll K H (v :: vs) (d :: ds)
end
section
variable {X : Cx} {pins : List (Addr × Obj)} {σ : St} {H : Hp} {s : Shared}
mutual
theorem Dp.reads (I : Inv X pins σ H s) : ∀ (d : PyData) (v : V) (u : Value), Dp X.K H v d → RelV v u → ∃ as, Reads s.heap u d as
  | .none, _, _, h, r => by
    cases h
    cases r
    exact ⟨_, Reads.none⟩
  | .bool b, _, _, h, r => by
    cases h
    cases r
    exact ⟨_, Reads.bool b⟩
  | .int i, _, _, h, r => by
    cases h
    obtain ⟨t, rfl⟩ := r
    exact ⟨_, Reads.int i t⟩
  | .str x, _, _, h, r => by
    cases h
    obtain ⟨t, rfl⟩ := r
    exact ⟨_, Reads.str x t⟩
  | .list ds, _, _, h, r => by
    cases h with
    | lst hs ha =>
      cases r
      obtain ⟨its, rv, ⟨o, n, ho, hc, _, hd⟩, _⟩ := I.list hs
      obtain ⟨as, hr⟩ := Dp.readsAll I ds _ its ha rv
      exact ⟨_, Reads.list ho hc hd hr⟩
  | .tuple ds, _, _, h, r => by
    cases h with
    | tup hs ha =>
      cases r
      obtain ⟨its, rv, ⟨o, ho, hc, n, hd⟩, _⟩ := I.tuple hs
      obtain ⟨as, hr⟩ := Dp.readsAll I ds _ its ha rv
      exact ⟨_, Reads.tuple ho hc hd hr⟩
  | .dict _, _, _, h, _ => by cases h
theorem Dp.readsAll (I : Inv X pins σ H s) : ∀ (ds : List PyData) (vs : List V) (us : List Value), DpAll X.K H vs ds → Vals vs us → ∃ as, ReadsAll s.heap us ds as
  | [], _, _, h, r => by
    cases h
    cases r
    exact ⟨_, ReadsAll.nil⟩
  | d :: ds, _, _, h, r => by
    cases h with
    | cons h1 h2 =>
      cases r with
      | cons r1 r2 =>
        obtain ⟨as, q1⟩ := Dp.reads I d _ _ h1 r1
        obtain ⟨bs, q2⟩ := Dp.readsAll I ds _ _ h2 r2
        exact ⟨_, ReadsAll.cons q1 q2⟩
end
end
section
variable {X : Cx}
def rEqD (K : PySem.W.Frag) : R2 := fun x y H Q => ∃ d e, Dp K H x d ∧ Dp K H y e ∧ SeqAt.shaped d = true ∧ SeqAt.shaped e = true ∧ Q (.bl (PyData.eqv d e)) H
theorem op_eqD (hu : X.A.units + 64 < cLine) : OpR X (compareOp .Eq) (rEqD X.K) := by
  intro pins s σ H x y v u Q I rx ry h
  obtain ⟨d, e, hd, he, sd, se, q⟩ := h
  obtain ⟨as, r1⟩ := Dp.reads I d x v hd rx
  obtain ⟨bs, r2⟩ := Dp.reads I e y u he ry
  exact SeqAt.compareEq_shaped r1 r2 sd se hu ⟨.bl _, H, I, rfl, q⟩
end
end L2
namespace L2
open PySem PySem.Spec PyProof.Rows
abbrev CellAt (h : Heap) (c : Addr) (v : Option Value) : Prop := h.IsCell c v
def relS (scope sc : Scope) : Scope :=
  { scope with names := scope.names.map fun (n, k) => if (k == .free && sc.kind == .function && sc.names.lookup n == some .cell) then (n, .cell) else (n, k) }
def cloFrom (cells : List (Str × Addr)) : List (Str × NameKind) → List (Str × Addr) → List (Str × Addr)
  | [], acc => acc
  | (n, k) :: r, acc => if k == .free then cloFrom cells r ((n, (cells.lookup n).getD 0) :: acc) else cloFrom cells r acc
theorem closure_loop (env : Env) (f : Str × NameKind → List (Str × Addr) → Sem (ForInStep (List (Str × Addr))))
    (hf : ∀ n k c, f (n, k) c = if k == .free then (do let a ← cellOf env n; pure (.yield ((n, a) :: c))) else pure (.yield c)) :
    ∀ (names : List (Str × NameKind)) (acc : List (Str × Addr)), (∀ y ∈ names, y.2 = .free → ∃ c, env.cells.lookup y.1 = some c) → forIn names acc f = pure (cloFrom env.cells names acc)
  | [], acc, _ => by rw [List.forIn_nil]; rfl
  | (n, k) :: r, acc, h => by
    rw [List.forIn_cons, hf]
    have ih := fun acc => closure_loop env f hf r acc fun y hy => h y (List.mem_cons_of_mem _ hy)
    unfold cloFrom
    by_cases hk : (k == NameKind.free) = true
    · rw [if_pos hk, if_pos hk]
      obtain ⟨c, hc⟩ := h (n, k) List.mem_cons_self (by simpa using hk)
      have e : cellOf env n = pure c := by unfold cellOf; rw [hc]
      rw [e]
      have e2 : (env.cells.lookup n).getD 0 = c := by rw [hc]; rfl
      rw [e2]
      exact ih _
    · rw [if_neg hk, if_neg hk]
      exact ih _
theorem closure_ok {scope : Scope} {env : Env} (h : ∀ y ∈ scope.names, y.2 = .free → ∃ c, env.cells.lookup y.1 = some c) : closureFor scope env = pure (cloFrom env.cells scope.names []) := by
  simp only [closureFor]
  rw [closure_loop env _ (fun n k c => rfl) scope.names [] h]
  rfl
theorem mem_lookup {α : Type} : ∀ {l : List (Str × α)} {n : Str} {c : α}, (n, c) ∈ l → ∃ c', l.lookup n = some c'
  | (k, v) :: r, n, c, h => by
    rw [List.lookup_cons]
    cases hb : n == k with
    | true => exact ⟨_, rfl⟩
    | false =>
      rcases List.mem_cons.mp h with e | h
      · cases e; simp at hb
      · exact mem_lookup h
theorem cloFrom_mem {cells : List (Str × Addr)} : ∀ {names : List (Str × NameKind)} {acc : List (Str × Addr)} {n : Str} {c : Addr}, (n, c) ∈ cloFrom cells names acc → (n, c) ∈ acc ∨ ((n, .free) ∈ names ∧ c = (cells.lookup n).getD 0)
  | [], _, _, _, h => .inl h
  | (m, k) :: r, acc, n, c, h => by
    unfold cloFrom at h
    split at h
    · rename_i hk
      have hk : k = .free := by simpa using hk
      rcases cloFrom_mem h with h | ⟨h1, h2⟩
      · rcases List.mem_cons.mp h with e | h
        · cases e; exact .inr ⟨hk ▸ List.mem_cons_self, rfl⟩
        · exact .inl h
      · exact .inr ⟨List.mem_cons_of_mem _ h1, h2⟩
    · rcases cloFrom_mem h with h | ⟨h1, h2⟩
      · exact .inl h
      · exact .inr ⟨List.mem_cons_of_mem _ h1, h2⟩
theorem cloFrom_acc {cells : List (Str × Addr)} : ∀ {names : List (Str × NameKind)} {acc : List (Str × Addr)} {p : Str × Addr}, p ∈ acc → p ∈ cloFrom cells names acc
  | [], _, _, h => h
  | (m, k) :: r, acc, p, h => by
    unfold cloFrom
    split
    · exact cloFrom_acc (List.mem_cons_of_mem _ h)
    · exact cloFrom_acc h
theorem cloFrom_has {cells : List (Str × Addr)} : ∀ {names : List (Str × NameKind)} {acc : List (Str × Addr)} {n : Str}, (n, .free) ∈ names → (n, (cells.lookup n).getD 0) ∈ cloFrom cells names acc
  | (m, k) :: r, acc, n, h => by
    unfold cloFrom
    rcases List.mem_cons.mp h with e | h
    · cases e
      exact cloFrom_acc List.mem_cons_self
    · split
      · exact cloFrom_has h
      · exact cloFrom_has h
theorem cells_mem : ∀ {names : List (Str × NameKind)} {h : Heap} {acc : List (Str × Addr)} {x : Str} {c : Addr}, (x, c) ∈ cellsFrom h.objs.size names acc →
    (x, c) ∈ acc ∨ ((x, .cell) ∈ names ∧ h.objs.size ≤ c ∧ CellAt (pushCells h names) c none)
  | [], _, _, _, _, h => .inl h
  | (n, k) :: r, h, acc, x, c, hm => by
    unfold cellsFrom at hm
    unfold pushCells
    split at hm
    · rename_i hk
      rw [if_pos hk]
      have hk : k = .cell := by simpa using hk
      rw [← Heap.size_push h { cls := .type "cell", data := .cell none }] at hm
      rcases cells_mem hm with hm | ⟨h1, h2, h3⟩
      · rcases List.mem_cons.mp hm with e | hm
        · cases e
          exact .inr ⟨hk ▸ List.mem_cons_self, Nat.le_refl _, _, pushCells_keeps r _ _ _ (Heap.get?_push_size _ rfl), rfl⟩
        · exact .inl hm
      · rw [Heap.size_push] at h2
        exact .inr ⟨List.mem_cons_of_mem _ h1, Nat.le_of_succ_le h2, h3⟩
    · rename_i hk
      rw [if_neg hk]
      rcases cells_mem hm with hm | ⟨h1, h2, h3⟩
      · exact .inl hm
      · exact .inr ⟨List.mem_cons_of_mem _ h1, h2, h3⟩
theorem cells_acc : ∀ {names : List (Str × NameKind)} {n : Nat} {acc : List (Str × Addr)} {p : Str × Addr}, p ∈ acc → p ∈ cellsFrom n names acc
  | [], _, _, _, h => h
  | (m, k) :: r, n, acc, p, h => by
    unfold cellsFrom
    split
    · exact cells_acc (List.mem_cons_of_mem _ h)
    · exact cells_acc h
theorem cells_has : ∀ {names : List (Str × NameKind)} {n : Nat} {acc : List (Str × Addr)} {x : Str}, (x, .cell) ∈ names → ∃ c, (x, c) ∈ cellsFrom n names acc
  | (m, k) :: r, n, acc, x, h => by
    unfold cellsFrom
    rcases List.mem_cons.mp h with e | h
    · cases e
      exact ⟨n, cells_acc List.mem_cons_self⟩
    · split
      · exact cells_has h
      · exact cells_has h
theorem cells_inj : ∀ {names : List (Str × NameKind)} {h : Heap} {acc : List (Str × Addr)} {x y : Str} {c : Addr}, (∀ p ∈ acc, p.2 < h.objs.size) → (∀ x y c, (x, c) ∈ acc → (y, c) ∈ acc → x = y) →
    (x, c) ∈ cellsFrom h.objs.size names acc → (y, c) ∈ cellsFrom h.objs.size names acc → x = y
  | [], _, _, _, _, _, _, hi, h1, h2 => hi _ _ _ h1 h2
  | (n, k) :: r, h, acc, x, y, c, hl, hi, h1, h2 => by
    unfold cellsFrom at h1 h2
    split at h1
    · rename_i hk
      rw [if_pos hk] at h2
      rw [← Heap.size_push h { cls := .type "cell", data := .cell none }] at h1 h2
      refine cells_inj (h := h.push _) (fun p hp => ?_) (fun x y c a b => ?_) h1 h2
      · rw [Heap.size_push]
        rcases List.mem_cons.mp hp with rfl | hp
        · exact Nat.lt_succ_self _
        · exact Nat.lt_succ_of_lt (hl p hp)
      · rcases List.mem_cons.mp a with e | a <;> rcases List.mem_cons.mp b with e' | b
        · cases e; cases e'; rfl
        · cases e; exact absurd (hl _ b) (Nat.lt_irrefl _)
        · cases e'; exact absurd (hl _ a) (Nat.lt_irrefl _)
        · exact hi _ _ _ a b
    · rename_i hk
      rw [if_neg hk] at h2
      exact cells_inj hl hi h1 h2
theorem newEnv_comp {M : Model} {A : Around} {E : Value → Shared → Prop} {s : Shared} {scope : Scope} {globals : Addr} {closure : List (Str × Addr)} {qual : Str} {func : Option Addr} {code : Value} {around : Env} {builtins : Addr} {Q : Env → Shared → Prop}
    (h : Q (newEnv scope s.heap.objs.size globals (cellsFrom (s.heap.objs.size + 1) scope.names closure) qual func code (some around) builtins)
      { s with heap := pushCells (s.heap.push { cls := .type "dict", data := .dict #[] }) scope.names }) :
    wpAny M A (newFunctionEnv scope globals closure [] qual func code (some around) builtins) Q E s := by
  simp only [newFunctionEnv, Option.isSome_some, if_true]
  refine wpAny_bind (wpAny_alloc ?_)
  refine wpAny_bind (wpAny_layCells _ (fun n k c => rfl) scope.names closure _ _ ?_)
  rw [show ({ s with heap := s.heap.push { cls := .type "dict", data := .dict #[] } } : Shared).heap.objs.size = s.heap.objs.size + 1 from Heap.size_push ..]
  rw [List.forIn_nil]
  exact wpAny_bind (wpAny_pure (wpAny_pure h))
theorem lookup_relS {sc : Scope} : ∀ {names : List (Str × NameKind)} {x : Str} {k : NameKind},
    (names.map fun (n, k) => if (k == NameKind.free && sc.kind == .function && sc.names.lookup n == some .cell) then (n, NameKind.cell) else (n, k)).lookup x = some k →
    ∃ k', names.lookup x = some k' ∧ (k = k' ∨ (k' = .free ∧ k = .cell))
  | [], _, _, h => by simp at h
  | (n, k₀) :: r, x, k, h => by
    have ih := @lookup_relS sc r x k
    have h' : List.lookup x ((if (k₀ == NameKind.free && sc.kind == .function && sc.names.lookup n == some .cell) = true then (n, NameKind.cell) else (n, k₀)) :: (r.map _)) = some k := h
    cases hx : x == n with
    | true =>
      simp only [List.lookup_cons, hx]
      by_cases hc : (k₀ == NameKind.free && sc.kind == .function && sc.names.lookup n == some .cell) = true
      · rw [if_pos hc] at h'
        simp only [List.lookup_cons, hx] at h'
        cases h'
        simp only [Bool.and_eq_true, beq_iff_eq] at hc
        exact ⟨k₀, rfl, .inr ⟨hc.1.1, rfl⟩⟩
      · rw [if_neg hc] at h'
        simp only [List.lookup_cons, hx] at h'
        cases h'
        exact ⟨_, rfl, .inl rfl⟩
    | false =>
      simp only [List.lookup_cons, hx]
      by_cases hc : (k₀ == NameKind.free && sc.kind == .function && sc.names.lookup n == some .cell) = true
      · rw [if_pos hc] at h'
        simp only [List.lookup_cons, hx] at h'
        exact ih h'
      · rw [if_neg hc] at h'
        simp only [List.lookup_cons, hx] at h'
        exact ih h'
structure BlkOk (N : List Str) (sc scope : Scope) (own : List (Str × Nat)) : Prop where
  kind : scope.kind = .function
  uniq : ∀ y ∈ scope.names, scope.names.lookup y.1 = some y.2
  ix : ∀ p ∈ own, N[p.2]? = some p.1
  free : ∀ y ∈ scope.names, y.2 = .free → sc.names.lookup y.1 = some .cell ∨ sc.names.lookup y.1 = some .free
  own : ∀ y ∈ scope.names, y.2 = .local ∨ y.2 = .cell → y.1 ∈ own.map (·.1) ∨ y.1 ∉ N
def wipe (σ : St) : List Nat → St
  | [] => σ
  | v :: vs => (wipe σ vs).set v none
theorem wipe_length (σ : St) : ∀ vs : List Nat, (wipe σ vs).length = σ.length
  | [] => rfl
  | v :: vs => by unfold wipe; rw [List.length_set, wipe_length σ vs]
theorem wipe_some {σ : St} {i : Nat} {x : V} : ∀ {vs : List Nat}, (wipe σ vs)[i]? = some (some x) → σ[i]? = some (some x) ∧ i ∉ vs
  | [], h => ⟨h, by simp⟩
  | v :: vs, h => by
    unfold wipe at h
    by_cases hi : v = i
    · subst hi
      by_cases hv : v < (wipe σ vs).length
      · rw [List.getElem?_set_self hv] at h; cases h
      · rw [List.getElem?_eq_none (by simpa using hv)] at h; cases h
    · rw [List.getElem?_set_ne hi] at h
      obtain ⟨h1, h2⟩ := wipe_some h
      exact ⟨h1, by simp only [List.mem_cons, not_or]; exact ⟨fun e => hi e.symm, h2⟩⟩
abbrev Cx.blk (X : Cx) (s : Shared) (H : Hp) (scope : Scope) (cenv : Env) (fp : List Addr) : Cx := { X with s_0 := s, H_0 := H, env := cenv, outer := X.stack, ex := fp, fn := fun x => scope.names.lookup x == some .cell, pn := [], xe := fun _ _ => False }
section
variable {X : Cx} {pins : List (Addr × Obj)} {σ : St} {H : Hp} {s : Shared}
theorem block_start {scope : Scope} {own : List (Str × Nat)} {fp : List Addr} (I : Inv X pins σ H s) (ok : BlkOk X.N X.env.scope scope own) (hN : X.N.Nodup) (hfp : ∀ b ∈ fp, FpOk X pins H b ∧ b < s.heap.objs.size) :
    Inv (X.blk s H scope (compEnvC scope (cellsFrom (s.heap.objs.size + 1) scope.names (cloFrom X.env.cells scope.names [])) s.heap.objs.size X.env) fp) [] (wipe σ (own.map (·.2))) H { s with heap := pushCells (s.heap.push { cls := .type "dict", data := .dict #[] }) scope.names } := by
  have hfree : ∀ y ∈ scope.names, y.2 = .free → ∃ c, X.env.cells.lookup y.1 = some c := fun y hy e => by
    rcases ok.free y hy e with k | k
    · exact I.ok.has _ (.inl k)
    · exact I.ok.has _ (.inr k)
  generalize hcenv : compEnvC scope (cellsFrom (s.heap.objs.size + 1) scope.names (cloFrom X.env.cells scope.names [])) s.heap.objs.size X.env = cenv
  have kp : ∀ b o, s.heap.get? b = some o → (pushCells (s.heap.push { cls := .type "dict", data := .dict #[] }) scope.names).get? b = some o := fun b o e => pushCells_keeps _ _ _ _ (Heap.get?_push_of_some _ e)
  have hL : cenv.locals = s.heap.objs.size := by rw [← hcenv]; rfl
  have hcl : cenv.cells = cellsFrom (s.heap.objs.size + 1) scope.names (cloFrom X.env.cells scope.names []) := by rw [← hcenv]; rfl
  have hsc : cenv.scope = relS scope X.env.scope := by rw [← hcenv]; rfl
  rw [← Heap.size_push s.heap { cls := .type "dict", data := .dict #[] }] at hcl
  have cm : ∀ {y c}, (y, c) ∈ cloFrom X.env.cells scope.names [] → X.env.cells.lookup y = some c ∧ c < s.heap.objs.size := fun {y c} hm => by
    rcases cloFrom_mem hm with hm | ⟨h1, rfl⟩
    · cases hm
    · obtain ⟨c, hc⟩ := hfree _ h1 rfl
      rw [hc]
      obtain ⟨w, z⟩ := I.cell _ _ hc
      exact ⟨rfl, z.lt⟩
  have mem : ∀ {y c}, cenv.cells.lookup y = some c → (X.env.cells.lookup y = some c ∧ c < s.heap.objs.size) ∨ (s.heap.objs.size + 1 ≤ c ∧ CellAt (pushCells (s.heap.push { cls := .type "dict", data := .dict #[] }) scope.names) c none) := fun {y c} e => by
    rw [hcl] at e
    rcases cells_mem (PySem.mem_of_lookup e) with hm | ⟨_, h2, h3⟩
    · exact .inl (cm hm)
    · rw [Heap.size_push] at h2; exact .inr ⟨h2, h3⟩
  have look : ∀ {y}, scope.names.lookup y = some .free → ∃ c, cenv.cells.lookup y = some c ∧ X.env.cells.lookup y = some c := fun {y} hl => by
    have hy : (y, NameKind.free) ∈ scope.names := PySem.mem_of_lookup hl
    obtain ⟨c', e'⟩ := mem_lookup (cells_acc (names := scope.names) (n := (s.heap.push { cls := .type "dict", data := .dict #[] }).objs.size) (cloFrom_has (cells := X.env.cells) (acc := []) hy))
    rw [← hcl] at e'
    refine ⟨c', e', ?_⟩
    rw [hcl] at e'
    rcases cells_mem (PySem.mem_of_lookup e') with hm | ⟨h1, _, _⟩
    · exact (cm hm).1
    · have := ok.uniq _ h1
      rw [hl] at this; cases this
  have okB : (X.blk s H scope cenv fp).Ok := by
    refine ⟨I.ok.mod, by show cenv.scope.kind = _; rw [hsc]; exact ok.kind, by show cenv.globals = _; rw [← hcenv]; exact I.ok.glob, by show cenv.builtins = _; rw [← hcenv]; exact I.ok.blt, by show s.heap.objs.size ≤ cenv.locals; rw [hL]; exact Nat.le_refl _,
      fun y z c e1 e2 => ?_, fun y hy => ?_, fun y c z e => ?_, I.ok.hd, I.ok.frames, .inl rfl, fun b hb => ⟨?_, fun y c e z => ?_⟩, I.bs, Nat.le_trans I.ok.bsz I.sz, fun b o e hb => ?_, fun b hb z => ?_, I.stack, I.stkFree⟩
    · have e1 : cenv.cells.lookup y = some c := e1
      have e2 : cenv.cells.lookup z = some c := e2
      rw [hcl] at e1 e2
      refine cells_inj (fun p hp => ?_) (fun y z c a b => I.ok.inj y z c (cm a).1 (cm b).1) (PySem.mem_of_lookup e1) (PySem.mem_of_lookup e2)
      rw [Heap.size_push]
      exact Nat.lt_succ_of_lt (cm (y := p.1) (c := p.2) hp).2
    · show ∃ c, cenv.cells.lookup y = some c
      have key : ∀ k, cenv.kindOf y = some k → (k = .cell ∨ k = .free) → ∃ c, cenv.cells.lookup y = some c := fun k hk hk' => by
        unfold Env.kindOf at hk
        rw [hsc] at hk
        obtain ⟨k', e, r⟩ := lookup_relS hk
        have : k' = .cell ∨ k' = .free := by
          rcases r with rfl | ⟨rfl, _⟩
          · exact hk'
          · exact .inr rfl
        rcases this with rfl | rfl
        · obtain ⟨c, hm⟩ := cells_has (n := (s.heap.push { cls := .type "dict", data := .dict #[] }).objs.size) (acc := cloFrom X.env.cells scope.names []) (PySem.mem_of_lookup e)
          obtain ⟨c', e'⟩ := mem_lookup hm
          exact ⟨c', by rw [hcl]; exact e'⟩
        · obtain ⟨c, h1, _⟩ := look e
          exact ⟨c, h1⟩
      rcases hy with hy | hy
      · exact key _ hy (.inl rfl)
      · exact key _ hy (.inr rfl)
    · have z : (scope.names.lookup y == some NameKind.cell) = true := z
      have z : scope.names.lookup y = some .cell := by simpa using z
      have e : cenv.cells.lookup y = some c := e
      rw [hcl] at e
      rcases cells_mem (PySem.mem_of_lookup e) with hm | ⟨_, h2, _⟩
      · rcases cloFrom_mem hm with hm | ⟨h1, _⟩
        · cases hm
        · have q := ok.uniq _ h1
          rw [z] at q; cases q
      · rw [Heap.size_push] at h2
        exact Nat.le_of_succ_le h2
    · show b ≠ cenv.locals
      rw [hL]; exact Nat.ne_of_lt (hfp b hb).2
    · have e : cenv.cells.lookup y = some c := e
      rcases mem e with ⟨h1, _⟩ | ⟨h1, _⟩
      · exact (hfp b hb).1.2.2.2.2.1 y c h1 z
      · have h2 : s.heap.objs.size + 1 ≤ b := by rw [← z]; exact h1
        exact absurd (Nat.lt_of_lt_of_le (hfp b hb).2 (Nat.le_of_succ_le h2)) (Nat.lt_irrefl _)
    · rcases (hfp b hb).1.2.2.2.1 with z | z
      · exact I.ok.noex b o e z
      · exact absurd (Nat.lt_of_lt_of_le (Heap.lt_size e) (Nat.le_trans I.ok.bsz z)) (Nat.lt_irrefl _)
    · rcases List.mem_cons.mp (I.stkSub b z) with z | z
      · exact (hfp b hb).1.2.1 z
      · exact (hfp b hb).1.2.2.1 z
  refine ⟨okB, rfl, I.bare, Un.kept kp, ⟨fun _ => none, ?_, fun i y av e1 e2 e3 => ?_⟩, fun y c e => ?_, ?_, fun y c e => ?_, fun p hp => ?_, I.hok.kept kp, by rw [wipe_length]; exact I.len⟩
  · show Heap.Ns _ cenv.locals _
    rw [hL]
    exact Heap.Ns.keeps (Heap.Ns.new ..) fun b o e => pushCells_keeps _ _ _ _ e
  · obtain ⟨e2, hne⟩ := wipe_some e2
    have hfr : scope.names.lookup y = some .free ∧ (cenv.kindOf y = some .cell ∨ cenv.kindOf y = some .free) := by
      have key : ∀ k, cenv.scope.names.lookup y = some k → k = .local ∨ k = .cell ∨ k = .free → scope.names.lookup y = some .free ∧ (cenv.kindOf y = some .cell ∨ cenv.kindOf y = some .free) := fun k hk hk' => by
        have hk0 := hk
        rw [hsc] at hk
        obtain ⟨k', e, r⟩ := lookup_relS hk
        have no : ¬ (k' = .local ∨ k' = .cell) := fun hh => by
          rcases ok.own _ (PySem.mem_of_lookup e) hh with e' | e'
          · obtain ⟨p, hp, hpy⟩ := List.mem_map.mp e'
            have e3 := ok.ix p hp
            have : p.1 = y := hpy
            rw [this] at e3
            exact hne (List.mem_map.mpr ⟨p, hp, nodup_ix hN e3 e1⟩)
          · exact e' (List.mem_of_getElem? e1)
        rcases r with rfl | ⟨rfl, rfl⟩
        · rcases hk' with rfl | rfl | rfl
          · exact absurd (.inl rfl) no
          · exact absurd (.inr rfl) no
          · exact ⟨e, .inr hk0⟩
        · exact ⟨e, .inl hk0⟩
      have e3 : Vis cenv.scope y := e3
      rcases e3 with e3 | e3 | e3
      · exact key _ e3 (.inl rfl)
      · exact key _ e3 (.inr (.inl rfl))
      · exact key _ e3 (.inr (.inr rfl))
    obtain ⟨m, hn, hl⟩ := I.loc
    have hvis : Vis X.env.scope y := (ok.free _ (PySem.mem_of_lookup hfr.1) rfl).elim (fun k => .inr (.inl k)) (fun k => .inr (.inr k))
    obtain ⟨w, r, q⟩ := hl i y av e1 e2 hvis
    refine ⟨w, r, .inr ⟨hfr.2, ?_⟩⟩
    obtain ⟨c, h1, h2⟩ := look hfr.1
    rcases q with ⟨k, _⟩ | ⟨_, c', e', z⟩
    · have k : X.env.scope.names.lookup y = some .local := k
      rcases ok.free _ (PySem.mem_of_lookup hfr.1) rfl with k' | k' <;> rw [show X.env.scope.names.lookup y = _ from k'] at k <;> cases k
    · rw [h2] at e'; cases e'
      exact ⟨c, h1, z.keeps kp⟩
  · have e : cenv.cells.lookup y = some c := e
    rcases mem e with ⟨h1, _⟩ | ⟨_, z⟩
    · obtain ⟨w, z⟩ := I.cell y c h1
      exact ⟨w, z.keeps kp⟩
    · exact ⟨_, z⟩
  · show H cenv.locals = none
    rw [hL]; exact I.hok.fresh (Nat.le_refl _)
  · have e : cenv.cells.lookup y = some c := e
    rcases mem e with ⟨h1, _⟩ | ⟨h1, _⟩
    · exact I.freeC y c h1
    · exact I.hok.fresh (Nat.le_of_succ_le h1)
  · exact absurd (show p ∈ ([] : List (Addr × Obj)) ++ [] from hp) (by simp)
theorem app_ok {E : Value → Shared → Prop} {D : Addr} {xs : List V} {y : V} {v : Value} {Q : Value → Shared → Prop} (I : Inv X pins σ H s) (hD : H D = some (.lst xs)) (hz : xs.length < sizeLine) (r : RelV y v)
    (h : ∀ s', Inv X pins σ (upd H D (.lst (xs ++ [y]))) s' → Q .none s') : wpAny (model X.prog X.w) X.A (call (.builtin "list.append") [.ref D, v]) Q E s := by
  obtain ⟨hz', its, n, ri, e⟩ := I.hok D _ hD
  have hl := ri.length
  refine append_at (hsz := by rw [List.size_toArray]; omega) e fun h' sb ho' => ?_
  refine h { s with heap := h' } (I.write (t' := s.toks) (by rw [hD]; trivial) (.inl rfl) (fun b u hb q => (sb.2 b hb).trans q) ⟨_, ho'⟩ ⟨by rw [List.length_append]; exact hz, its ++ [v], n + 1, ri.append (.cons r .nil), ?_⟩)
  rw [ho']
  simp
def PTs (X : Cx) (ifs : List Expr) (t : TT) : Prop :=
  ∀ (pins : List (Addr × Obj)) (s : Shared) (σ : St) (H : Hp) (Q : Bool → Hp → Prop), Inv X pins σ H s → t σ H Q →
    wpAny (model X.prog X.w) X.A (forIn ifs true fun c r => if r = true then do let ok ← isTrue c X.env (eval c X.env); pure (ForInStep.yield ok) else pure (ForInStep.yield r)) (TP X pins σ Q) X.xe s
def tYes : TT := fun _ H Q => Q true H
theorem pts_nil : PTs X [] tYes := fun _ _ _ H _ I h => wpAny_tests_nil ⟨H, I, h⟩
end
theorem thnF {α : Type} {t : Sem α} {Q Q' : α → Shared → Prop} {M : Model} {A : Around} {E : Value → Shared → Prop} {s : Shared} (h : wpAny M A t Q (fun _ _ => False) s) (hQ : ∀ a s, Q a s → Q' a s) : wpAny M A t Q' E s := wpAny_mono h hQ fun _ _ z => False.elim z
theorem compLoop_any {prog : Program} {w : World} {A : Around} {R : Result → Shared → Prop} {s : Shared} {elt target iter : Expr} {ifs : List Expr} {scope : Scope} {pos : Pos} {it acc : Value} {env : Env} (I : Nat → Shared → Prop)
    (turn : ∀ n s, I n s → wpAny (model prog w) A (pyNext it) (fun r s₁ => match r with
      | none => R (.ok .next) s₁
      | some v => wpAny (model prog w) A (letOwnedTupleGo target it v) (fun _ s₁' => wpAny (model prog w) A (assign target env v) (fun _ s₂ =>
          wpAny (model prog w) A (forIn ifs true fun c r => if r = true then do let ok ← isTrue c env (eval c env); pure (ForInStep.yield ok) else pure (ForInStep.yield r)) (fun ok s₃ =>
            if ok = true then wpAny (model prog w) A (eval elt env) (fun x s₄ =>
              wpAny (model prog w) A (call (.builtin "list.append") [acc, x]) (fun _ s₅ => ∃ m, m < n ∧ I m s₅) (notedBy (model prog w) A env fun e s' => R (.error e) s') s₄) (notedBy (model prog w) A env fun e s' => R (.error e) s') s₃
            else ∃ m, m < n ∧ I m s₃) (notedBy (model prog w) A env fun e s' => R (.error e) s') s₂) (notedBy (model prog w) A env fun e s' => R (.error e) s') s₁') (notedBy (model prog w) A env fun e s' => R (.error e) s') s₁) (notedBy (model prog w) A env fun e s' => R (.error e) s') s)
    (n : Nat) (h : I n s) :
    codeAny (model prog w) A (.compLoop (.ListComp elt [⟨target, iter, ifs, 0⟩] scope pos) 0 it acc env) R s := by
  refine codeAny_loop rfl I (fun n s hI => ?_) n h
  show wpAny _ A ((compTurn (.ListComp elt [⟨target, iter, ifs, 0⟩] scope pos) 0 it acc env).onRaise (fun x => do noteFrame x env; theTreesLotGoes x)) _ _ s
  refine wpAny_noted ?_
  rw [compTurn_list]
  refine wpAny_bind (wpAny_standAt (wpAny_bind (wpAny_mono (turn n s hI) (fun r s₁ h₁ => ?_) fun _ _ h' => h')))
  cases r with
  | none => exact wpAny_pure h₁
  | some v =>
    refine wpAny_bind (wpAny_mono h₁ (fun _ s₁' h₁' => ?_) fun _ _ h' => h')
    refine wpAny_bind (wpAny_mono h₁' (fun _ s₂ h₂ => wpAny_bind (wpAny_mono h₂ (fun ok s₃ h₃ => ?_) fun _ _ h' => h')) fun _ _ h' => h')
    cases ok with
    | false => exact wpAny_pure ⟨rfl, h₃⟩
    | true =>
      exact wpAny_bind (wpAny_bind (wpAny_mono h₃ (fun x s₄ h₄ => wpAny_bind (wpAny_mono h₄ (fun _ s₅ h₅ => wpAny_pure (wpAny_pure ⟨rfl, h₅⟩)) fun _ _ h' => h')) fun _ _ h' => h'))
section
variable {X : Cx}
def tLc (wi : TI) (g : TG) (tt : TT) (te : TE) (vs : List Nat) : TE := fun σ H Q => wi σ H fun J H1 => ∀ D, H1 D = none → ∃ W : Nat → Nat → Hp → Prop, (∃ m, W 0 m (upd H1 D (.lst []))) ∧ ∀ i m H, W i m H →
  (J.stop i H ∧ Q (.ref D) H) ∨ (J.go i H ∧ ∃ Nx : Hp → Prop, (∀ H', Nx H' → ∃ m', m' < m ∧ W (i + 1) m' H') ∧ ∀ x H', J.yld i H x H' → g x (wipe σ vs) H' fun σ2 H2 => wipe σ2 vs = wipe σ vs ∧ tt σ2 H2 fun b H3 =>
    if b = true then te σ2 H3 fun y H4 => ∃ acc, H4 D = some (.lst acc) ∧ acc.length < sizeLine ∧ Nx (upd H4 D (.lst (acc ++ [y]))) else Nx H3)
theorem lc_core {pins : List (Addr × Obj)} {s : Shared} {σ : St} {H : Hp} {Q : VK} {elt tg iter : Expr} {ifs : List Expr} {scope : Scope} {own : List (Str × Nat)} {pos pos' : Pos} {wi : TI} {g : TG} {tt : TT} {te : TE} {use : Option (Value → Sem Unit)} {Qf : Value → Shared → Prop}
    (hc : X.calm = true) (hN : X.N.Nodup) (I : Inv X pins σ H s) (hi : PI X tg iter wi) (ok : BlkOk X.N X.env.scope scope own)
    (hg : ∀ (s : Shared) (H : Hp) (C : Addr) (cl : List (Str × Addr)) (fp : List Addr), PG (X.blk s H scope (compEnvC scope cl C X.env) fp) tg g) (ht : ∀ (s : Shared) (H : Hp) (C : Addr) (cl : List (Str × Addr)) (fp : List Addr), PTs (X.blk s H scope (compEnvC scope cl C X.env) fp) ifs tt)
    (he : ∀ (s : Shared) (H : Hp) (C : Addr) (cl : List (Str × Addr)) (fp : List Addr), PE (X.blk s H scope (compEnvC scope cl C X.env) fp) elt te) (hs : ∀ x, foldedSetIterable iter X.env x = pure x)
    (h : tLc wi g tt te (own.map (·.2)) σ H Q)
    (hRR : ∀ D C s' m H', Inv X pins σ H' s' → Q (.ref D) H' → s'.heap.Ns C m → FpOk X pins H' C → compPost (model X.prog X.w) X.A X.xe use Qf (.ref D) C (.ok .next) s') :
    wpAny (model X.prog X.w) X.A (comprehension (.ListComp elt [⟨tg, iter, ifs, 0⟩] scope pos) scope X.env pos' (newList []) false (eval iter X.env) use) Qf X.xe s := by
  have hfree : ∀ y ∈ scope.names, y.2 = .free → ∃ c, X.env.cells.lookup y.1 = some c := fun y hy e => by
    rcases ok.free y hy e with k | k
    · exact I.ok.has _ (.inl k)
    · exact I.ok.has _ (.inr k)
  refine wpAny_comprehension_free (use := use) rfl hs (closure_ok hfree) ok.kind (fun y hy e => by rw [ok.uniq y hy, e])
    (thn (hi pins s σ H _ I h) fun xv s1 hx => thn hx fun itv s2 h2 => ?_)
  obtain ⟨it, fp, tn, J, H2, e, I2, T, st2, f2, q⟩ := h2
  subst e
  refine wpAny_newObj_type (newEnv_comp ?_) (by show 0 ≤ sizeLine; decide)
  generalize hD : s2.heap.objs.size = D
  have hDn : H2 D = none := I2.hok.fresh (Nat.le_of_eq hD)
  obtain ⟨W, ⟨m0, w0⟩, turn⟩ := q D hDn
  -- the new list
  generalize hs3 : ({ s2 with heap := s2.heap.push { cls := .type "list", data := .seq ([] : List Value).toArray } } : Shared) = s3
  have I3 : Inv X pins σ (upd H2 D (.lst [])) s3 := by
    rw [← hs3]
    refine I2.laid (t' := s2.toks) (fun b o e => Heap.get?_push_of_some _ e) (Nat.le_of_eq hD) ⟨Nat.zero_le _, [], 0, .nil, ?_⟩
    rw [← hD]
    exact Heap.get?_push_size _ rfl
  have h3 : s3.heap = s2.heap.push { cls := .type "list", data := .seq ([] : List Value).toArray } := by rw [← hs3]
  have sz : ∀ b ∈ fp, b < s2.heap.objs.size := fun b hb => by
    obtain ⟨o, e, _⟩ := T.obj _ _ st2 b hb
    exact Heap.lt_size e
  have f3 : ∀ b ∈ fp, FpOk X pins (upd H2 D (.lst [])) b ∧ b < s3.heap.objs.size := fun b hb => by
    have hlt := sz b hb
    refine ⟨⟨?_, (f2 b hb).2⟩, by rw [h3, Heap.size_push]; exact Nat.lt_succ_of_lt hlt⟩
    rw [upd_ne (by rw [← hD]; exact Nat.ne_of_lt hlt)]
    exact (f2 b hb).1
  have st3 : tn 0 s3.heap := T.keep _ _ _ st2 fun b _ o e => by rw [h3]; exact Heap.get?_push_of_some _ e
  have I4 := block_start I3 ok hN f3
  have pg := hg s3 (upd H2 D (.lst [])) s3.heap.objs.size (cellsFrom (s3.heap.objs.size + 1) scope.names (cloFrom X.env.cells scope.names [])) fp
  have pt := ht s3 (upd H2 D (.lst [])) s3.heap.objs.size (cellsFrom (s3.heap.objs.size + 1) scope.names (cloFrom X.env.cells scope.names [])) fp
  have pe := he s3 (upd H2 D (.lst [])) s3.heap.objs.size (cellsFrom (s3.heap.objs.size + 1) scope.names (cloFrom X.env.cells scope.names [])) fp
  show codeAny _ _ (.compStart (.ListComp elt [⟨tg, iter, ifs, 0⟩] scope pos) 0 (.ref it) (.ref D) (compEnvC scope (cellsFrom (s3.heap.objs.size + 1) scope.names (cloFrom X.env.cells scope.names [])) s3.heap.objs.size X.env)) (compPost (model X.prog X.w) X.A X.xe use Qf (.ref D) s3.heap.objs.size) { s3 with heap := pushCells (s3.heap.push { cls := .type "dict", data := .dict #[] }) scope.names }
  have nfp : ∀ b ∈ fp, (upd H2 D (.lst [])) b = none := fun b hb => (f3 b hb).1.1
  generalize hce : compEnvC scope (cellsFrom (s3.heap.objs.size + 1) scope.names (cloFrom X.env.cells scope.names [])) s3.heap.objs.size X.env = ce at I4 pg pt pe ⊢
  have cL : ce.locals = s3.heap.objs.size := by subst hce; rfl
  generalize hH3 : upd H2 D (.lst []) = H3 at I3 I4 pg pt pe w0 nfp f3
  generalize hs4 : ({ s3 with heap := pushCells (s3.heap.push { cls := .type "dict", data := .dict #[] }) scope.names } : Shared) = s4 at I4 ⊢
  have st4 : tn 0 s4.heap := T.keep _ _ _ st3 fun b _ o e => by rw [← hs4]; exact pushCells_keeps _ _ _ _ (Heap.get?_push_of_some _ e)
  have stat : ∀ {σ' : St} {H' : Hp} {s' : Shared}, Inv (X.blk s3 H3 scope ce fp) [] σ' H' s' → (∀ b ∈ fp, H' b = none) → ∀ b ∈ fp, FpOk (X.blk s3 H3 scope ce fp) [] H' b := fun {σ' H' s'} I' hn b hb =>
    ⟨hn b hb, (I'.ok.exf b hb).1, I'.ok.exfs b hb, .inl hb, fun x c e => (I'.ok.exf b hb).2 x c e, fun p hp => absurd (show p ∈ ([] : List (Addr × Obj)) ++ [] from hp) (by simp)⟩
  have loop : codeAny (model X.prog X.w) X.A (.compLoop (.ListComp elt [⟨tg, iter, ifs, 0⟩] scope pos) 0 (.ref it) (.ref D) ce) (compPost (model X.prog X.w) X.A X.xe use Qf (.ref D) s3.heap.objs.size) s4 := by
    refine compLoop_any (fun n s' => ∃ i H', Inv (X.blk s3 H3 scope ce fp) [] (wipe σ (own.map (·.2))) H' s' ∧ tn i s'.heap ∧ (∀ b ∈ fp, H' b = none) ∧ W i n H') ?_ m0 ⟨0, H3, I4, st4, nfp, w0⟩
    rintro n s5 ⟨i, H5, I5, st5, n5, w5⟩
    rcases turn i n H5 w5 with ⟨stop, qq⟩ | ⟨go, Nx, hNx, step⟩
    · have td := T.done (X.blk s3 H3 scope ce fp) rfl rfl rfl hc i [] s5 _ H5 (fun _ _ => False) I5 (stat I5 n5) st5 stop
      refine thnF td fun r s6 ⟨hr, I6⟩ => ?_
      subst hr
      -- back in the def's context
      have I7 : Inv X pins σ H5 s6 := I3.call' (ch := fp) I6.os I6.base I6.hok I6.bare fun b hb => ⟨(f3 b hb).1.2.2.2.1, (f3 b hb).1.2.1, (f3 b hb).1.2.2.2.2.1, (f3 b hb).1.2.2.2.2.2⟩
      have nC : H5 s3.heap.objs.size = none := by
        have z : H5 ce.locals = none := I6.free
        rw [cL] at z
        exact z
      obtain ⟨m, hn, _⟩ := I6.loc
      have hn : s6.heap.Ns ce.locals m := hn
      rw [cL] at hn
      exact hRR D s3.heap.objs.size s6 m H5 I7 qq hn (I3.fpOk (Nat.le_refl _) nC)
    · have ti := T.item (X.blk s3 H3 scope ce fp) rfl rfl rfl hc i [] s5 _ H5 (fun _ _ => False) I5 (stat I5 n5) st5 go
      refine thnF ti fun r s6 ⟨u, hr, h6⟩ => ?_
      subst hr
      refine thnF h6 fun _ s7 ⟨x, H7, I7, r7, y7, st7, n7⟩ => ?_
      have I7' := I7.pinned (stat I7 n7) (T.obj _ _ st7)
      refine thnF (pg _ s7 _ H7 x u _ I7' r7 (step x H7 y7)) fun _ s8 ⟨σ8, H8, I8, hw8, q8⟩ => ?_
      refine thnF (pt _ s8 σ8 H8 _ I8 q8) fun b s9 ⟨H9, I9, q9⟩ => ?_
      -- the turn's end
      have fin : ∀ {s' : Shared} {H' : Hp}, Inv (X.blk s3 H3 scope ce fp) ([] ++ pinsAt fp s7.heap) σ8 H' s' → Nx H' → ∃ m, m < n ∧ ∃ i H', Inv (X.blk s3 H3 scope ce fp) [] (wipe σ (own.map (·.2))) H' s' ∧ tn i s'.heap ∧ (∀ b ∈ fp, H' b = none) ∧ W i m H' := fun {s' H'} I' nx => by
        obtain ⟨m', hm, w'⟩ := hNx H' nx
        have pin' : ∀ b ∈ fp, ∀ o, s7.heap.get? b = some o → s'.heap.get? b = some o ∧ H' b = none := fun b hb o e =>
          let z := I'.pin (b, o) (List.mem_append_right _ (List.mem_append_right _ (mem_pinsAt hb e)))
          ⟨z.1, z.2.1⟩
        have hl : (wipe σ (own.map (·.2))).length = σ8.length := by rw [← hw8, wipe_length]
        refine ⟨m', hm, i + 1, H', (I'.unpinned (pins := [])).weak hl (fun j v e => ?_), T.keep _ _ _ st7 fun b hb o e => (pin' b hb o e).1, fun b hb => ?_, w'⟩
        · rw [← hw8] at e
          exact (wipe_some e).1
        · obtain ⟨o, e, _⟩ := T.obj _ _ st7 b hb
          exact (pin' b hb o e).2
      cases b with
      | false =>
        simp only [Bool.false_eq_true, if_false] at q9 ⊢
        exact fin I9 q9
      | true =>
        simp only [if_true] at q9 ⊢
        refine thnF (pe _ s9 σ8 H9 _ I9 q9) fun z s10 ⟨yv, H10, I10, r10, acc, hD10, hz10, nx⟩ => ?_
        exact app_ok (X := X.blk s3 H3 scope ce fp) I10 hD10 hz10 r10 fun s11 I11 => fin I11 nx
  exact codeAny_compStart_list loop (T.self X.A 0 _ _ _ st4 loop)
theorem pe_lc {elt tg iter : Expr} {ifs : List Expr} {scope : Scope} {own : List (Str × Nat)} {pos : Pos} {wi : TI} {g : TG} {tt : TT} {te : TE} (hc : X.calm = true) (hN : X.N.Nodup) (hi : PI X tg iter wi) (ok : BlkOk X.N X.env.scope scope own)
    (hg : ∀ (s : Shared) (H : Hp) (C : Addr) (cl : List (Str × Addr)) (fp : List Addr), PG (X.blk s H scope (compEnvC scope cl C X.env) fp) tg g) (ht : ∀ (s : Shared) (H : Hp) (C : Addr) (cl : List (Str × Addr)) (fp : List Addr), PTs (X.blk s H scope (compEnvC scope cl C X.env) fp) ifs tt)
    (he : ∀ (s : Shared) (H : Hp) (C : Addr) (cl : List (Str × Addr)) (fp : List Addr), PE (X.blk s H scope (compEnvC scope cl C X.env) fp) elt te) (hs : ∀ x, foldedSetIterable iter X.env x = pure x := by intro _; rfl) :
    PE X (.ListComp elt [⟨tg, iter, ifs, 0⟩] scope pos) (tLc wi g tt te (own.map (·.2))) := by
  intro pins s σ H Q I h
  rw [eval_ListComp]
  refine lc_core hc hN I hi ok hg ht he hs h fun D C s' m H' I' q hn f => ⟨m, hn, fun h'' sb => ?_⟩
  obtain ⟨f0, f1, f2, f3, f4, f5⟩ := f
  exact ⟨.ref D, H', I'.turned (t' := s'.toks) (fun b o hb e => (sb.2 b hb).trans e) f0 f1 f3 f4 f5, rfl, q⟩
end
theorem lc_list {K : PySem.W.Frag} {a : Addr} {xs : List V} {g : TG} {tt : TT} {te : TE} {vs : List Nat} {σ : St} {H1 : Hp} {D : Addr} {Qd : Hp → Prop} (Pv : Nat → Hp → Prop) (h0 : Pv 0 (upd H1 D (.lst []))) (hl : ∀ i H, i ≤ xs.length → Pv i H → SqL K H a xs)
    (hs : ∀ i x H, xs[i]? = some x → Pv i H → g x (wipe σ vs) H fun σ2 H2 => wipe σ2 vs = wipe σ vs ∧ tt σ2 H2 fun b H3 =>
      if b = true then te σ2 H3 fun y H4 => ∃ acc, H4 D = some (.lst acc) ∧ acc.length < sizeLine ∧ Pv (i + 1) (upd H4 D (.lst (acc ++ [y]))) else Pv (i + 1) H3) (hd : ∀ H, Pv xs.length H → Qd H) :
    ∃ W : Nat → Nat → Hp → Prop, (∃ m, W 0 m (upd H1 D (.lst []))) ∧ ∀ i m H, W i m H →
      ((Itl K a).stop i H ∧ Qd H) ∨ ((Itl K a).go i H ∧ ∃ Nx : Hp → Prop, (∀ H', Nx H' → ∃ m', m' < m ∧ W (i + 1) m' H') ∧ ∀ x H', (Itl K a).yld i H x H' → g x (wipe σ vs) H' fun σ2 H2 => wipe σ2 vs = wipe σ vs ∧ tt σ2 H2 fun b H3 =>
        if b = true then te σ2 H3 fun y H4 => ∃ acc, H4 D = some (.lst acc) ∧ acc.length < sizeLine ∧ Nx (upd H4 D (.lst (acc ++ [y]))) else Nx H3) := by
  refine ⟨fun i m H => m = xs.length - i ∧ i ≤ xs.length ∧ Pv i H, ⟨xs.length, by simp, Nat.zero_le _, h0⟩, ?_⟩
  rintro i m H ⟨rfl, hi, p⟩
  have q := hl i H hi p
  by_cases hlt : i < xs.length
  · refine .inr ⟨⟨xs, xs[i], q, by simp [hlt]⟩, Pv (i + 1), fun H' p' => ⟨xs.length - (i + 1), by omega, rfl, hlt, p'⟩, fun x H' y => ?_⟩
    obtain ⟨e, y⟩ := y
    subst e
    exact hs i x _ (y xs q) p
  · have e : i = xs.length := by omega
    subst e
    exact .inl ⟨⟨xs, q, Nat.le_refl _⟩, hd H p⟩
def blkC (N : List Str) (sc scope : Scope) (own : List (Str × Nat)) : Bool :=
  (match scope.kind with | .function => true | _ => false) && (scope.names.all fun y => decide (scope.names.lookup y.1 = some y.2)) && (own.all fun p => decide (N[p.2]? = some p.1)) &&
    (scope.names.all fun y => match y.2 with
      | .free => (match sc.names.lookup y.1 with | some .cell => true | some .free => true | _ => false)
      | .local => decide (y.1 ∈ own.map (·.1)) || decide (y.1 ∉ N)
      | .cell => decide (y.1 ∈ own.map (·.1)) || decide (y.1 ∉ N)
      | _ => true)
theorem blkOk_by {N : List Str} {sc scope : Scope} {own : List (Str × Nat)} (h : blkC N sc scope own = true) : BlkOk N sc scope own := by
  unfold blkC at h
  simp only [Bool.and_eq_true, List.all_eq_true, decide_eq_true_eq] at h
  obtain ⟨⟨⟨h1, h2⟩, h3⟩, h4⟩ := h
  refine ⟨?_, h2, h3, fun y hy e => ?_, fun y hy e => ?_⟩
  · split at h1
    · assumption
    · cases h1
  · have q := h4 y hy
    simp only [e] at q
    split at q <;> first | exact .inl (by assumption) | exact .inr (by assumption) | cases q
  · have q := h4 y hy
    rcases e with e | e <;> (simp only [e, Bool.or_eq_true, decide_eq_true_eq] at q; exact q)
end L2
namespace L2
open PySem PySem.Spec PyProof.Rows
section
variable {prog : Program} {w : World} {A : Around} {R : Result → Shared → Prop} {s : Shared} {elt t0 i0 t1 i1 : Expr} {ifs0 ifs1 : List Expr} {scope : Scope} {pos : Pos} {it acc : Value} {env : Env}
end
section
variable {X : Cx}
end
end L2
namespace L2
open PySem PySem.Spec PyProof.Rows
section
variable {κ : Type} [DecidableEq κ]
end
section
variable {P : Program} {w : World} {H : Hp} {h : Heap} {a : Addr}
end
section
variable {X : Cx} {pins : List (Addr × Obj)} {σ : St} {H : Hp} {s : Shared} {a : Addr} {y v : V} {u r : Value} {o : Option V} {A : Around} {E : Value → Shared → Prop}
end
section
variable {X : Cx} {pins : List (Addr × Obj)} {σ : St} {H : Hp} {s : Shared} {a : Addr} {kvs : List (Key × V)} {k : Key} {u : Value} {A : Around} {E : Value → Shared → Prop}
end
section
variable {X : Cx} {o i e value : Expr} {pos pos' tpos : Pos} {td ty tv : TE}
end
section
variable {X : Cx} {pos : Pos}
end
section
variable {X : Cx} {pins : List (Addr × Obj)} {σ : St} {H : Hp} {s : Shared} {a : Addr} {y d : V} {u r : Value} {o : Option V} {A : Around} {E : Value → Shared → Prop}
end
section
variable {X : Cx} {o e f : Expr} {apos cpos : Pos} {td ty tx : TE}
end
section
variable {X : Cx} {pins : List (Addr × Obj)} {σ : St} {H : Hp} {s : Shared} {a : Addr} {kvs : List (Key × V)} {A : Around} {E : Value → Shared → Prop}
end
section
variable {X : Cx} {pins : List (Addr × Obj)} {σ : St} {H : Hp} {s : Shared} {a : Addr} {y : V} {u : Value} {A : Around} {E : Value → Shared → Prop}
end
end L2
namespace L2
open PySem PySem.Spec PyProof.Rows
section
variable {prog : Program} {w : World} {A : Around} {E : Value → Shared → Prop}
end
section
variable {X : Cx}
theorem refs_at : ∀ {ps : List Addr} {us : List Value}, Vals (ps.map V.ref) us → us = ps.map Value.ref
  | [], us, r => by
    rw [List.map_nil] at r
    cases r
    rfl
  | p :: ps, us, r => by
    rw [List.map_cons] at r
    cases r with
    | cons h t =>
      cases h
      rw [List.map_cons, ← refs_at t]
end
end L2
namespace L2
open PySem PySem.Spec PyProof.Rows
section
variable {X : Cx} {pins : List (Addr × Obj)} {σ : St} {H : Hp} {s : Shared} {h' : Heap}
end
section
variable {X : Cx}
theorem pi_one {tg : Expr} {pins : List (Addr × Obj)} {σ : St} {H : Hp} {s : Shared} {R : It → Hp → Prop} {J : It} {tn : Nat → Heap → Prop} {tk : Nat} (I : Inv X pins σ H s) (o : Obj)
    (T : Turn X.prog X.w X.K tg J [s.heap.objs.size] s.heap.objs.size tn) (st : tn 0 (s.heap.push o)) (q : R J H) : PIE X pins σ tg R (.ref s.heap.objs.size) { s with heap := s.heap.push o, toks := tk } := by
  refine ⟨s.heap.objs.size, [s.heap.objs.size], tn, J, H, rfl, I.kept fun b ob e => Heap.get?_push_of_some _ e, T, st, fun b hb => ?_, q⟩
  have e : b = s.heap.objs.size := by simpa using hb
  subst e
  exact I.fpOk (Nat.le_refl _) (I.hok.fresh (Nat.le_refl _))
end
def Itc (lo c : Int) (n : Nat) : It := ⟨fun i _ => i < n, fun i H x H' => H' = H ∧ x = .int (lo + (i : Nat) * c), fun i _ => n ≤ i⟩
theorem turn_rangeC {P : Program} {w : World} {K : PySem.W.Frag} {tg : Expr} (it : Addr) (lo c : Int) (n : Nat) : Turn P w K tg (Itc lo c n) [it] it (fun i h => IsRangeIter h it (lo + (i : Nat) * c) ((n : Int) - (i : Nat)) c) where
  mem := by simp
  obj := fun i h st b hb => by
    have e : b = it := by simpa using hb
    subst e
    exact ⟨_, st, fun v z => nomatch z⟩
  keep := fun i h h' st k => k it (by simp) _ st
  item := by
    intro X hP hw hK hc i pins s σ H E I hf st hg
    subst hP hw hK
    obtain ⟨f0, f1, f2, f3, f4, f5⟩ := hf it (by simp)
    have W := Walks.range (prog := X.prog) (w := X.w) (I.ok.hd hc) it lo c n
    refine W.item i s _ _ hg st fun v h' tk hv st' kk => ?_
    obtain ⟨t, rfl⟩ := hv
    have I1 : Inv X pins σ H { s with heap := h', toks := tk } := I.turned (fun b o hb e => kk b o (by simpa using hb) e) f0 f1 f3 f4 f5
    exact ⟨_, rfl, go_of (s := { s with heap := h', toks := tk }) (n := "range_iterator") st' rfl rfl (by decide) ⟨.int (lo + (i : Nat) * c), H, I1, ⟨t, rfl⟩, ⟨rfl, rfl⟩, st', fun b hb => (hf b hb).1⟩⟩
  done := by
    intro X hP hw hK hc i pins s σ H E I hf st hg
    subst hP hw hK
    obtain ⟨f0, f1, f2, f3, f4, f5⟩ := hf it (by simp)
    exact wpAny_pyNext_range_end (I.ok.hd hc) st (by have : n ≤ i := hg; omega) fun h' eb => ⟨rfl, I.turned (t' := s.toks) (fun b o hb e => eb b o hb e) f0 f1 f3 f4 f5⟩
  self := fun A i s Q E st h => wpAny_pyIter_rangeiter st h
def RgC (i j c : Int) (n : Nat) : Prop := c ≠ 0 ∧ c.natAbs < 1073741824 ∧ Builtin.Range.small i j c = true ∧ Builtin.Range.rangeSize i j c = n
theorem RgC.neg {i j : Int} (ha : -(2 ^ 62) ≤ i) (ha' : i < 2 ^ 62) (hb : -(2 ^ 62) ≤ j) (hb' : j < 2 ^ 62) : RgC i j (-1) (i - j).toNat :=
  ⟨by decide, by decide, PySem.W.small_down ha ha' hb hb', PySem.W.rangeSize_downNat i j⟩
def iRng3 (ta : TA) : TI := fun σ H R => ta σ H fun vs H1 => ∃ (i j c : Int) (n : Nat), vs = [.int i, .int j, .int c] ∧ RgC i j c n ∧ R (Itc i c n) H1
section
variable {X : Cx} {tg : Expr}
theorem pi_range3 {a b c : Expr} {ta : TA} {p pos : Pos} (hg : Gl X "range") (hm : X.mg "range" = none) (ha : PA X [a, b, c] ta)
    (hs : starEach [a, b, c] X.env = (false, eval a X.env) :: starEach [b, c] X.env := by rfl) (hpl : (backTo pos (starEach [b, c] X.env)).any (·.1) = false := by rfl) :
    PI X tg (.Call (.Name "range" p) [a, b, c] [] pos) (iRng3 ta) := by
  intro pins s σ H R I h
  refine Call_ (ld_blt I hg hm boot_range (PyProof.Rows.callWith_type1 (thn (ha pos pins s σ H _ I h) fun us s1 ⟨vs, H1, I1, r1, q1⟩ => ?_) hs hpl))
  obtain ⟨i, j, k, n, e, ⟨c0, c1, c2, c3⟩, q⟩ := q1
  subst e
  cases r1 with
  | cons r rr =>
    cases rr with
    | cons r' rr =>
      cases rr with
      | cons r'' rr =>
        cases rr
        obtain ⟨t, rfl⟩ := r
        obtain ⟨t', rfl⟩ := r'
        obtain ⟨t'', rfl⟩ := r''
        refine call_range_3 c0 ?_ (.inl (PyProof.noPylong_small c1))
        refine wpAny_pyIter_range (IsRange.new ..) c2 ?_
        have I2 : Inv X pins σ H1 { s1 with heap := s1.heap.push { cls := .type "range", data := .fields #[.int i t, .int j t', .int k t''] } } := I1.kept (t' := s1.toks) fun b o e => Heap.get?_push_of_some _ e
        refine pi_one (tk := s1.toks) I2 _ (turn_rangeC _ i k n) ?_ q
        have e1 : i + ((0 : Nat) : Int) * k = i := by simp
        have e2 : (n : Int) - ((0 : Nat) : Int) = Builtin.Range.rangeSize i j k := by rw [c3]; simp
        show IsRangeIter _ _ (i + ((0 : Nat) : Int) * k) ((n : Int) - ((0 : Nat) : Int)) k
        rw [e1, e2]
        exact Heap.get?_push_size _ rfl
end
theorem for_rangeC {lo c : Int} {n : Nat} {g : TG} {tb : TS} {D : Ends} {σ : St} {H : Hp} (Pv : Nat → St → Hp → Prop) (h0 : Pv 0 σ H)
    (hs : ∀ i σ H, i < n → Pv i σ H → g (.int (lo + (i : Nat) * c)) σ H fun σ2 H2 => tb { D with nx := Pv (i + 1), ct := Pv (i + 1), bk := D.nx } σ2 H2) (hd : ∀ σ H, Pv n σ H → D.nx σ H) :
    ∃ W : Nat → Nat → St → Hp → Prop, (∃ m, W 0 m σ H) ∧ ∀ i m σ H, W i m σ H →
      ((Itc lo c n).stop i H ∧ D.nx σ H) ∨ ((Itc lo c n).go i H ∧ ∃ N : St → Hp → Prop, (∀ σ' H', N σ' H' → ∃ m', m' < m ∧ W (i + 1) m' σ' H') ∧ ∀ x H', (Itc lo c n).yld i H x H' → g x σ H' fun σ2 H2 => tb { D with nx := N, ct := N, bk := D.nx } σ2 H2) := by
  refine ⟨fun i m σ H => m = n - i ∧ i ≤ n ∧ Pv i σ H, ⟨n, by simp, Nat.zero_le _, h0⟩, ?_⟩
  rintro i m σ H ⟨rfl, hi, p⟩
  by_cases hlt : i < n
  · refine .inr ⟨hlt, Pv (i + 1), fun σ' H' p' => ⟨n - (i + 1), by omega, rfl, hlt, p'⟩, fun x H' y => ?_⟩
    obtain ⟨e, y⟩ := y
    subst e y
    exact hs i σ _ hlt p
  · have e : i = n := by omega
    subst e
    exact .inl ⟨Nat.le_refl _, hd σ H p⟩
section
variable {X : Cx} {tg : Expr}
end
section
variable {prog : Program} {w : World} {A : Around} {E : Value → Shared → Prop} {s : Shared}
end
section
variable {X : Cx} {pins : List (Addr × Obj)} {σ : St} {H : Hp} {s : Shared} {d : Addr} {o : Obj}
end
section
variable {P : Program} {w : World} {K : PySem.W.Frag} {tg : Expr} {d : Addr} {o : Obj} {es : Array DictEntry} {ep : Nat}
end
section
variable {X : Cx} {tg e : Expr} {td : TE} {apos cpos : Pos}
end
end L2
section 
namespace Bits
open PySem PyProof.Rows
end Bits
end 
section 
namespace TL
open PySem PySem.Builtin PySem.Builtin.Str PySem.StrLaws
abbrev tl (x : Str) : List Nat := x.cps.toList
def pre (S l : List Nat) : Bool := l.take S.length == S
def spl (S : List Nat) : Nat → List Nat → List Nat → List (List Nat)
  | _, acc, [] => [acc]
  | 0, acc, c :: r => if pre S (c :: r) = true then acc :: spl S (S.length - 1) [] r else spl S 0 (acc ++ [c]) r
  | k + 1, acc, _ :: r => spl S k acc r
def par (S : List Nat) : List Nat → List Nat → Option (List Nat × List Nat)
  | _, [] => none
  | acc, c :: r => if pre S (c :: r) = true then some (acc, (c :: r).drop S.length) else par S (acc ++ [c]) r
theorem pre_of_head {s c : Nat} (S r : List Nat) (h : c ≠ s) : pre (s :: S) (c :: r) = false := by
  cases hp : pre (s :: S) (c :: r) with
  | false => rfl
  | true =>
    have e : (c :: r).take (s :: S).length = s :: S := eq_of_beq hp
    rw [List.length_cons, List.take_succ_cons] at e
    injection e with e1 e2
    exact absurd e1 h
theorem free_of {s : Nat} {S p q : List Nat} (h : s ∉ p) : ∀ i, i < p.length → pre (s :: S) ((p ++ q).drop i) = false := fun i hi => by
  have hlt : i < (p ++ q).length := by rw [List.length_append]; omega
  have e : (p ++ q).drop i = (p ++ q)[i] :: (p ++ q).drop (i + 1) := List.drop_eq_getElem_cons hlt
  rw [e]
  refine pre_of_head _ _ fun z => h ?_
  have e1 : (p ++ q)[i] = p[i] := List.getElem_append_left hi
  rw [← z, e1]
  exact List.getElem_mem hi
end TL
end 
namespace L2
open PySem PySem.Spec PyProof.Rows
section
variable {X : Cx} {pins : List (Addr × Obj)} {σ : St} {H : Hp} {s : Shared} {Q : VK}
end
section
variable {X : Cx}
end
section
variable {X : Cx} {o e : Expr} {to te : TE}
end
end L2
namespace L2
open PySem PySem.Spec PyProof.Rows
section
variable {X : Cx}
end
end L2
namespace Att
open PySem PySem.W PySem.Calls PyProof.Rows
section
variable {prog : Program} {w : World} {A : Around} {E : Value → Shared → Prop} {s : Shared} {K : Frag}
def ledger (h : Heap) (L d : Addr) : List (Addr × Obj) := (List.range h.objs.size).filterMap fun a => if a = L ∨ a = d then none else (h.get? a).map fun o => (a, o)
end
end Att
namespace L2
open PySem PySem.Spec PyProof.Rows
end L2
namespace L2
open PySem PySem.Spec PyProof.Rows
end L2
namespace L2
open PySem PySem.Spec PyProof.Rows
def inClass (s : Stmt) (j : Nat) : Stmt := match s with
  | .ClassDef _ _ _ body _ _ _ _ _ _ _ => body.getD j (.Pass ⟨0, 0, 0, 0⟩)
  | _ => .Pass ⟨0, 0, 0, 0⟩
def defArgs (s : Stmt) : Arguments := match s with
  | .FunctionDef _ a _ _ _ _ _ _ _ _ => a
  | _ => { posonlyargs := [], args := [], vararg := none, kwonlyargs := [], kw_defaults := [], kwarg := none, defaults := [] }
def defBody (s : Stmt) : List Stmt := match s with
  | .FunctionDef _ _ b _ _ _ _ _ _ _ => b
  | _ => []
def defScope (s : Stmt) : Scope := match s with
  | .FunctionDef _ _ _ _ _ _ sc _ _ _ => sc
  | _ => { kind := .function, names := [], isGenerator := false, isCoroutine := false }
abbrev CX0 : CXT := fun _ _ _ _ _ _ => False
abbrev E0 : XK := fun _ _ _ => False
theorem pass0 {X : Cx} : Passes CX0 X E0 := fun _ _ _ _ _ _ _ h => h.elim
structure Fun (K : PySem.W.Frag) (x qual : Str) (st : Stmt) (f : Addr) (fd : FuncData) : Prop where
  ex : ∃ (oc : Value) (od : Option Addr) (kV doc pm : Value) (an : Option Addr) (cdv ct : Value) (osl : Array (Option Value)),
    fd = PySem.W.fnOf x qual (defArgs st) (defBody st) (defScope st) .none kV doc pm an cdv ct ∧ K.lookup f = some ⟨oc, od, .func fd, osl⟩ ∧ PySem.W.codeIn K cdv qual = true
  kp : PySem.W.keepIn K (.ref f) = true
section
variable {P : Program} {w : World} {K : PySem.W.Frag} {mg : Str → Option Value} {base : Heap}
theorem Fun.ok {x qual : Str} {st : Stmt} {f : Addr} {fd : FuncData} {N ps : List Str} {k : Nat} {sp : Sp} (F : Fun K x qual st f fd) (S : FnScope N ps (defScope st)) (len : ∀ vs H Q E, sp vs H Q E → vs.length = ps.length)
    (hbody : ∀ (cdv : Value) (A : Around) (outer : List Env) (s : Shared) (H : Hp) (vs : List V) (Q : VK) (E : XK), Room k (A.deeper (envOfC qual (defScope st) s.heap.objs.size f cdv)) → sp vs H Q E →
      ∃ t, PSs (cxOf CX0 P w K mg base N qual (defScope st) f cdv A outer s H E).nox (defBody st) t ∧ t { nx := fun _ H' => Q .non H', rt := Q } (start N vs) H) : FnOk P w K mg base CX0 (k + 1) f fd ps sp := by
  obtain ⟨oc, od, kV, doc, pm, an, cdv, ct, osl, rfl, lk, hcd⟩ := F.ex
  refine fn_of lk hcd S len fun A outer s H vs Q E hr hsp => ?_
  obtain ⟨t, h, q⟩ := hbody cdv A outer s H vs Q E hr hsp
  exact ⟨t, h.nox, q⟩
theorem Fun.binds {x qual : Str} {st : Stmt} {f : Addr} {fd : FuncData} {ps : List Str} (F : Fun K x qual st f fd)
    (h : ∀ (kV doc pm : Value) (an : Option Addr) (cdv ct : Value) (us : List Value), us.length = ps.length → bindArgs (PySem.W.fnOf x qual (defArgs st) (defBody st) (defScope st) .none kV doc pm an cdv ct) ⟨us, []⟩ = pure (ps.zip us)) : Binds K fd ps [] := by
  obtain ⟨oc, od, kV, doc, pm, an, cdv, ct, osl, rfl, lk, hcd⟩ := F.ex
  exact .all (h kV doc pm an cdv ct)
theorem fun_mk {x qual : Str} {st : Stmt} {f : Addr} {oc : Value} {od an : Option Addr} {osl : Array (Option Value)} {kV doc pm cdv ct : Value} (l : K.lookup f = some ⟨oc, od, .func (PySem.W.fnOf x qual (defArgs st) (defBody st) (defScope st) .none kV doc pm an cdv ct), osl⟩)
    (c : PySem.W.codeIn K cdv qual = true) (k : PySem.W.keepIn K (.ref f) = true) : Fun K x qual st f (PySem.W.fnOf x qual (defArgs st) (defBody st) (defScope st) .none kV doc pm an cdv ct) := ⟨⟨oc, od, kV, doc, pm, an, cdv, ct, osl, rfl, l, c⟩, k⟩
end
section
variable {X : Cx}
theorem pv (i : Nat) {x : Str} {pos : Pos} (hN : X.N[i]? = some x := by rfl) (hv : Vis X.env.scope x := by first | exact Or.inl rfl | exact Or.inr (Or.inl rfl) | exact Or.inr (Or.inr rfl)) (hd : (x == ("__debug__" : Str)) = false := by decide)
    (hcd : (x == ("__classdict__" : Str)) = false := by decide) : PE X (.Name x pos) (tVar i) := pe_var hN hv hd hcd
end
theorem iteF {A B : Prop} (h : B) : if false = true then A else B := by
  rw [if_neg Bool.false_ne_true]
  exact h
theorem iteT {A B : Prop} (h : A) : if true = true then A else B := by
  rw [if_pos rfl]
  exact h
def Same (H H' : Hp) : Prop := ∀ b o, H b = some o → H' b = some o
theorem Same.refl (H : Hp) : Same H H := fun _ _ h => h
theorem Same.trans {H H1 H2 : Hp} (a : Same H H1) (b : Same H1 H2) : Same H H2 := fun c o h => b c o (a c o h)
theorem Same.free {H H' : Hp} (e : Same H H') {l : Addr} (h : H' l = Option.none) : H l = Option.none := by
  cases q : H l with
  | none => rfl
  | some o =>
    rw [e l o q] at h
    cases h
theorem Same.seq {K : PySem.W.Frag} {H H' : Hp} {a : Addr} {xs : List V} (e : Same H H') (h : SqL K H a xs) : SqL K H' a xs := by
  rcases h with (h | ⟨o, h⟩) | h
  · exact .inl (.inl (e _ _ h))
  · exact .inl (.inr ⟨o, e _ _ h⟩)
  · exact .inr h
section
variable {κ : Type} [DecidableEq κ]
end
theorem at_of {xs : List V} {z : Int} {j : Nat} {v : V} (e : z = (j : Int)) (h : xs[j]? = some v) : atI xs z = some v := by
  rw [e]
  exact atI_nat h
end L2
section
set_option Elab.async false
set_option linter.all false
set_option maxRecDepth 100000
set_option maxHeartbeats 2000000
namespace L2
open PySem PySem.Spec PyProof.Rows
open PySem.W (WData Codec OpenSpec Well WellAll ReadsW ReadsAllW)
mutual
inductive Dw (K : PySem.W.Frag) (H : Hp) : V → WData → Prop
  | non : Dw K H .non .none
  | bl (b : Bool) : Dw K H (.bl b) (.bool b)
  | int (i : Int) : Dw K H (.int i) (.int i)
  | str (x : Str) : Dw K H (.str x) (.str x)
  | byt (b : Array UInt8) : Dw K H (.byt b) (.bytes b.toList)
  | lst {a : Addr} {xs : List V} {ds : List WData} : SqL K H a xs → DwAll K H xs ds → Dw K H (.ref a) (.list ds)
  | tup {a : Addr} {xs : List V} {ds : List WData} : SqT K H a xs → DwAll K H xs ds → Dw K H (.ref a) (.tuple ds)
inductive DwAll (K : PySem.W.Frag) (H : Hp) : List V → List WData → Prop
  | nil : DwAll K H [] []
  | cons {v : V} {vs : List V} {d : WData} {ds : List WData} : Dw K H v d → DwAll K H vs ds → DwAll K H (v :: vs) (d :: ds)
end
theorem dw_ints {K : PySem.W.Frag} {H : Hp} : ∀ ns : List Int, DwAll K H (ns.map V.int) (ns.map WData.int)
  | [] => .nil
  | n :: r => .cons (.int n) (dw_ints r)
theorem ints_dw {K : PySem.W.Frag} {H : Hp} : ∀ (ns : List Int) (xs : List V), DwAll K H xs (ns.map WData.int) → xs = ns.map V.int
  | [], xs, h => by
    cases h
    rfl
  | n :: r, xs, h => by
    cases h with
    | cons h1 h2 =>
      cases h1
      rw [ints_dw r _ h2] <;> rfl
section
variable {P : Program} {w : World} {K : PySem.W.Frag} {H : Hp} {h : Heap} {R : PySem.W.WRecords} {cl : Str → Option Addr}
theorem sqL_at {a : Addr} {xs : List V} (hok : HOk P w H h) (KX : K.In h) (q : SqL K H a xs) : ∃ (its : List Value) (o : Obj) (n : Nat), Vals xs its ∧ h.get? a = some o ∧ o.cls = .type "list" ∧ o.data = .seq its.toArray n := by
  rcases q with q | ⟨o, its, n, e, hc, _, hd, _, hv⟩
  · obtain ⟨_, its, n, hv, e⟩ := (show ObjOk P w H h a (.lst xs) from q.ok hok)
    exact ⟨its, _, n, hv, e, rfl, rfl⟩
  · exact ⟨its.toList, o, n, hv, KX _ _ e, hc, by simp [hd]⟩
theorem sqT_at {a : Addr} {xs : List V} (hok : HOk P w H h) (KX : K.In h) (q : SqT K H a xs) : ∃ (its : List Value) (o : Obj) (n : Nat), Vals xs its ∧ h.get? a = some o ∧ o.cls = .type "tuple" ∧ o.data = .seq its.toArray n := by
  rcases q with q | ⟨o, its, n, e, hc, hd, _, hv⟩
  · obtain ⟨_, its, hv, o, e, hc, n, hd⟩ := (show ObjOk P w H h a (.tup xs) from q.ok hok)
    exact ⟨its, o, n, hv, e, hc, hd⟩
  · exact ⟨its.toList, o, n, hv, KX _ _ e, hc, by simp [hd]⟩
mutual
theorem Dw.reads (hok : HOk P w H h) (KX : K.In h) : ∀ (d : WData) (v : V) (u : Value), Dw K H v d → RelV v u → ∃ as, ReadsW R cl h u d as
  | .none, _, _, x, r => by
    cases x
    cases r
    exact ⟨_, ReadsW.none⟩
  | .bool b, _, _, x, r => by
    cases x
    cases r
    exact ⟨_, ReadsW.bool b⟩
  | .int i, _, _, x, r => by
    cases x
    obtain ⟨t, rfl⟩ := r
    exact ⟨_, ReadsW.int i t⟩
  | .str s, _, _, x, r => by
    cases x
    obtain ⟨t, rfl⟩ := r
    exact ⟨_, ReadsW.str s t⟩
  | .bytes b, _, _, x, r => by
    cases x
    obtain ⟨t, rfl⟩ := r
    exact ⟨_, ReadsW.bytes _ t⟩
  | .list ds, _, _, x, r => by
    cases x with
    | lst hs ha =>
      cases r
      obtain ⟨its, o, n, rv, ho, hc, hd⟩ := sqL_at hok KX hs
      obtain ⟨as, hr⟩ := Dw.readsAll hok KX ds _ its ha rv
      exact ⟨_, ReadsW.list ho hc hd hr⟩
  | .tuple ds, _, _, x, r => by
    cases x with
    | tup hs ha =>
      cases r
      obtain ⟨its, o, n, rv, ho, hc, hd⟩ := sqT_at hok KX hs
      obtain ⟨as, hr⟩ := Dw.readsAll hok KX ds _ its ha rv
      exact ⟨_, ReadsW.tuple ho hc hd hr⟩
  | .float _, _, _, x, _ => by cases x
  | .dict _, _, _, x, _ => by cases x
  | .bytearray _, _, _, x, _ => by cases x
  | .set _, _, _, x, _ => by cases x
  | .frozenset _, _, _, x, _ => by cases x
  | .obj _ _, _, _, x, _ => by cases x
theorem Dw.readsAll (hok : HOk P w H h) (KX : K.In h) : ∀ (ds : List WData) (vs : List V) (us : List Value), DwAll K H vs ds → Vals vs us → ∃ as, ReadsAllW R cl h us ds as
  | [], _, _, x, r => by
    cases x
    cases r
    exact ⟨_, ReadsAllW.nil⟩
  | d :: ds, _, _, x, r => by
    cases x with
    | cons h1 h2 =>
      cases r with
      | cons r1 r2 =>
        obtain ⟨as, q1⟩ := Dw.reads hok KX d _ _ h1 r1
        obtain ⟨bs, q2⟩ := Dw.readsAll hok KX ds _ _ h2 r2
        exact ⟨_, ReadsAllW.cons q1 q2⟩
end
end
mutual
def plW : WData → Bool
  | .none => true
  | .bool _ => true
  | .int _ => true
  | .str _ => true
  | .bytes _ => true
  | .list xs => plWs xs
  | .tuple xs => plWs xs
  | _ => false
def plWs : List WData → Bool
  | [] => true
  | x :: r => plW x && plWs r
end
theorem plWs_map {α : Type} {f : α → WData} (h : ∀ a, plW (f a) = true) : ∀ l : List α, plWs (l.map f) = true
  | [] => rfl
  | x :: r => by
    show (plW (f x) && plWs (r.map f)) = true
    rw [h x, plWs_map h r] <;> rfl
theorem pl_enc : ∀ (c : Codec) (a : c.denote), plW (c.enc a) = true
  | .unit, _ => rfl
  | .bool, _ => rfl
  | .int _ _, _ => rfl
  | .nat _ _, _ => rfl
  | .u8, _ => rfl
  | .bytes _ _, _ => rfl
  | .text _ _ _ _, _ => rfl
  | .list _ _ c, a => plWs_map (fun x => pl_enc c x) a
  | .pair c d, a => by
    show (plW (c.enc a.1) && (plW (d.enc a.2) && true)) = true
    rw [pl_enc c a.1, pl_enc d a.2] <;> rfl
  | .triple c d e, a => by
    show (plW (c.enc a.1) && (plW (d.enc a.2.1) && (plW (e.enc a.2.2) && true))) = true
    rw [pl_enc c a.1, pl_enc d a.2.1, pl_enc e a.2.2] <;> rfl
  | .option c, none => rfl
  | .option c, some x => pl_enc c x
theorem pl_encAll : ∀ (cs : List Codec) (a : Codec.denoteAll cs), plWs (Codec.encAll cs a) = true
  | [], _ => rfl
  | c :: cs, a => by
    show (plW (c.enc a.1) && plWs (Codec.encAll cs a.2)) = true
    rw [pl_enc c a.1, pl_encAll cs a.2] <;> rfl
theorem weight_mem : ∀ {xs : List WData} {d : WData}, d ∈ xs → d.weight ≤ WData.weightAll xs
  | [], d, h => absurd h (by simp)
  | x :: r, d, h => by
    show d.weight ≤ x.weight + 1 + WData.weightAll r
    rcases List.mem_cons.mp h with e | m
    · rw [e]
      omega
    · have z := weight_mem m
      omega
def toV : Value → V
  | .none => .non
  | .bool b => .bl b
  | .int i _ => .int i
  | .str x _ => .str x
  | .bytes b _ => .byt b
  | .ref a => .ref a
  | _ => .non
def OkU (A : List Addr) : Value → Prop
  | .none => True
  | .bool _ => True
  | .int _ _ => True
  | .str _ _ => True
  | .bytes _ _ => True
  | .ref a => a ∈ A
  | _ => False
theorem OkU.mono {A B : List Addr} (h : ∀ a ∈ A, a ∈ B) : ∀ {u : Value}, OkU A u → OkU B u := fun {u} x => by
  cases u with
  | ref a => exact h a x
  | none => trivial
  | bool b => trivial
  | int i t => trivial
  | str s t => trivial
  | bytes b t => trivial
  | _ => exact False.elim x
theorem relV_toV {A : List Addr} {u : Value} (x : OkU A u) : RelV (toV u) u := by
  cases u with
  | ref a => rfl
  | none => rfl
  | bool b => rfl
  | int i t => exact ⟨t, rfl⟩
  | str s t => exact ⟨t, rfl⟩
  | bytes b t => exact ⟨t, rfl⟩
  | _ => exact False.elim x
theorem vals_toV {A : List Addr} : ∀ {vs : List Value}, (∀ u ∈ vs, OkU A u) → Vals (vs.map toV) vs
  | [], _ => .nil
  | u :: r, h => .cons (relV_toV (h u (List.mem_cons_self ..))) (vals_toV fun x hx => h x (List.mem_cons_of_mem _ hx))
def ArgOb (h : Heap) (A : List Addr) (a : Addr) : Prop := ∃ vs : List Value, vs.length ≤ sizeLine ∧ (∀ u ∈ vs, OkU A u) ∧
  (h.get? a = some { cls := .type "list", data := .seq vs.toArray } ∨ h.get? a = some { cls := .type "tuple", data := .seq vs.toArray })
theorem ArgOb.mono {h : Heap} {A B : List Addr} {a : Addr} (k : ∀ a ∈ A, a ∈ B) (x : ArgOb h A a) : ArgOb h B a := by
  obtain ⟨vs, h1, h2, h3⟩ := x
  exact ⟨vs, h1, fun u hu => (h2 u hu).mono k, h3⟩
theorem wellAll_len {P : Params} {h : Heap} : ∀ {vs : List Value} {ds : List WData}, WellAll P h vs ds → vs.length = ds.length
  | _, _, .nil => rfl
  | _, _, .cons _ b => by
    show _ + 1 = _ + 1
    rw [wellAll_len b]
theorem well_list {P : Params} {h : Heap} {v : Value} {ds : List WData} (x : Well P h v (.list ds)) : ∃ (a : Addr) (vs : List Value), v = .ref a ∧ h.get? a = some { cls := .type "list", data := .seq vs.toArray } ∧ WellAll P h vs ds := by
  cases x with
  | list ho hall => exact ⟨_, _, rfl, ho, hall⟩
theorem well_tuple {P : Params} {h : Heap} {v : Value} {ds : List WData} (x : Well P h v (.tuple ds)) : ∃ (a : Addr) (vs : List Value), v = .ref a ∧ h.get? a = some { cls := .type "tuple", data := .seq vs.toArray } ∧ WellAll P h vs ds := by
  cases x with
  | tuple ho hall => exact ⟨_, _, rfl, ho, hall⟩
theorem well_cons {P : Params} {h : Heap} {us : List Value} {d : WData} {ds : List WData} (x : WellAll P h us (d :: ds)) : ∃ (v : Value) (vs : List Value), us = v :: vs ∧ Well P h v d ∧ WellAll P h vs ds := by
  cases x with
  | cons a b => exact ⟨_, _, rfl, a, b⟩
theorem line_of {n : Nat} (h : n ≤ 1048576) : n ≤ sizeLine := Nat.le_trans h (by decide)
section
variable {P : Params} {h : Heap}
mutual
theorem area_one : ∀ (d : WData) (v : Value), Well P h v d → plW d = true → d.weight ≤ 1048576 → ∃ A : List Addr, OkU A v ∧ ∀ a ∈ A, ArgOb h A a
  | .none, _, x, _, _ => by
    cases x
    exact ⟨[], trivial, fun a m => absurd m (by simp)⟩
  | .bool b, _, x, _, _ => by
    cases x
    exact ⟨[], trivial, fun a m => absurd m (by simp)⟩
  | .int i, _, x, _, _ => by
    cases x
    exact ⟨[], trivial, fun a m => absurd m (by simp)⟩
  | .str s, _, x, _, _ => by
    cases x
    exact ⟨[], trivial, fun a m => absurd m (by simp)⟩
  | .bytes b, _, x, _, _ => by
    cases x
    exact ⟨[], trivial, fun a m => absurd m (by simp)⟩
  | .list ds, _, x, p, z => by
    obtain ⟨a, vs, rfl, ho, hall⟩ := well_list x
    have z2 : WData.weightAll ds ≤ 1048576 := z
    obtain ⟨A, h1, h2⟩ := area_all ds _ hall p fun d hd => Nat.le_trans (weight_mem hd) z2
    have k : ∀ b ∈ A, b ∈ a :: A := fun b hb => List.mem_cons_of_mem _ hb
    refine ⟨a :: A, List.mem_cons_self .., fun b hb => ?_⟩
    rcases List.mem_cons.mp hb with e | m
    · rw [e]
      exact ⟨vs, line_of (by rw [wellAll_len hall]; exact Nat.le_trans (PySem.W.length_le_weightAllW ds) z2), fun u hu => (h1 u hu).mono k, .inl ho⟩
    · exact (h2 b m).mono k
  | .tuple ds, _, x, p, z => by
    obtain ⟨a, vs, rfl, ho, hall⟩ := well_tuple x
    have z2 : WData.weightAll ds ≤ 1048576 := z
    obtain ⟨A, h1, h2⟩ := area_all ds _ hall p fun d hd => Nat.le_trans (weight_mem hd) z2
    have k : ∀ b ∈ A, b ∈ a :: A := fun b hb => List.mem_cons_of_mem _ hb
    refine ⟨a :: A, List.mem_cons_self .., fun b hb => ?_⟩
    rcases List.mem_cons.mp hb with e | m
    · rw [e]
      exact ⟨vs, line_of (by rw [wellAll_len hall]; exact Nat.le_trans (PySem.W.length_le_weightAllW ds) z2), fun u hu => (h1 u hu).mono k, .inr ho⟩
    · exact (h2 b m).mono k
  | .float _, _, _, p, _ => Bool.noConfusion (show false = true from p)
  | .dict _, _, _, p, _ => Bool.noConfusion (show false = true from p)
  | .bytearray _, _, _, p, _ => Bool.noConfusion (show false = true from p)
  | .set _, _, _, p, _ => Bool.noConfusion (show false = true from p)
  | .frozenset _, _, _, p, _ => Bool.noConfusion (show false = true from p)
  | .obj _ _, _, _, p, _ => Bool.noConfusion (show false = true from p)
theorem area_all : ∀ (ds : List WData) (vs : List Value), WellAll P h vs ds → plWs ds = true → (∀ d ∈ ds, d.weight ≤ 1048576) → ∃ A : List Addr, (∀ u ∈ vs, OkU A u) ∧ ∀ a ∈ A, ArgOb h A a
  | [], _, x, _, _ => by
    cases x
    exact ⟨[], fun u m => absurd m (by simp), fun a m => absurd m (by simp)⟩
  | d :: ds, _, x, p, z => by
    obtain ⟨v, vs, rfl, x1, x2⟩ := well_cons x
    have q : plW d = true ∧ plWs ds = true := Bool.and_eq_true_iff.mp p
    obtain ⟨A, a1, a2⟩ := area_one d v x1 q.1 (z d (List.mem_cons_self ..))
    obtain ⟨B, b1, b2⟩ := area_all ds vs x2 q.2 fun e he => z e (List.mem_cons_of_mem _ he)
    have kA : ∀ b ∈ A, b ∈ A ++ B := fun b hb => List.mem_append.mpr (.inl hb)
    have kB : ∀ b ∈ B, b ∈ A ++ B := fun b hb => List.mem_append.mpr (.inr hb)
    refine ⟨A ++ B, fun u hu => ?_, fun b hb => ?_⟩
    · rcases List.mem_cons.mp hu with e | m
      · rw [e]
        exact a1.mono kA
      · exact (b1 u m).mono kB
    · rcases List.mem_append.mp hb with m | m
      · exact (a2 b m).mono kA
      · exact (b2 b m).mono kB
end
end
def hoOf (o : Obj) : Option HO := match o.data with
  | .seq vs _ => if (o.cls == Value.type "list") = true then some (.frz o (.lst (vs.toList.map toV))) else some (.frz o (.tup (vs.toList.map toV)))
  | _ => none
def argH (K : PySem.W.Frag) (h : Heap) (A : List Addr) : Hp := fun b => if b ∈ A then (if (K.lookup b).isNone = true then (h.get? b).bind hoOf else none) else none
def OnlyF (H : Hp) : Prop := ∀ b, H b = none ∨ ∃ o u, H b = some (.frz o u)
theorem hoOf_lst (vs : List Value) : hoOf { cls := .type "list", data := .seq vs.toArray } = some (.frz { cls := .type "list", data := .seq vs.toArray } (.lst (vs.map toV))) := by
  show (if (Value.type "list" == Value.type "list") = true then some (HO.frz { cls := .type "list", data := .seq vs.toArray } (.lst (vs.toArray.toList.map toV))) else some (HO.frz { cls := .type "list", data := .seq vs.toArray } (.tup (vs.toArray.toList.map toV)))) = _
  rw [if_pos (beq_self_eq_true _)]
theorem hoOf_tup (vs : List Value) : hoOf { cls := .type "tuple", data := .seq vs.toArray } = some (.frz { cls := .type "tuple", data := .seq vs.toArray } (.tup (vs.map toV))) := by
  show (if (Value.type "tuple" == Value.type "list") = true then some (HO.frz { cls := .type "tuple", data := .seq vs.toArray } (.lst (vs.toArray.toList.map toV))) else some (HO.frz { cls := .type "tuple", data := .seq vs.toArray } (.tup (vs.toArray.toList.map toV)))) = _
  rw [if_neg (by decide)]
section
variable {P : Program} {w : World} {K : PySem.W.Frag} {h : Heap} {A : List Addr}
theorem argH_at {b : Addr} {o : Obj} (hb : b ∈ A) (hk : K.lookup b = none) (e : h.get? b = some o) : argH K h A b = hoOf o := by
  unfold argH
  rw [if_pos hb, hk, if_pos (show (none : Option Obj).isNone = true from rfl), e] <;> rfl
theorem of_argH {b : Addr} {u : HO} (q : argH K h A b = some u) : b ∈ A ∧ K.lookup b = none := by
  unfold argH at q
  by_cases hb : b ∈ A
  · rw [if_pos hb] at q
    cases hk : K.lookup b with
    | none => exact ⟨hb, rfl⟩
    | some o =>
      rw [hk, if_neg (by simp)] at q
      cases q
  · rw [if_neg hb] at q
    cases q
theorem argH_is (ar : ∀ a ∈ A, ArgOb h A a) {b : Addr} {u : HO} (q : argH K h A b = some u) : K.lookup b = none ∧ ∃ vs : List Value, vs.length ≤ sizeLine ∧ (∀ u ∈ vs, OkU A u) ∧
    ((h.get? b = some { cls := .type "list", data := .seq vs.toArray } ∧ u = .frz { cls := .type "list", data := .seq vs.toArray } (.lst (vs.map toV))) ∨
     (h.get? b = some { cls := .type "tuple", data := .seq vs.toArray } ∧ u = .frz { cls := .type "tuple", data := .seq vs.toArray } (.tup (vs.map toV)))) := by
  obtain ⟨hb, hk⟩ := of_argH q
  obtain ⟨vs, h1, h2, h3⟩ := ar b hb
  refine ⟨hk, vs, h1, h2, ?_⟩
  rcases h3 with e | e
  · rw [argH_at hb hk e, hoOf_lst] at q
    exact .inl ⟨e, (Option.some.inj q).symm⟩
  · rw [argH_at hb hk e, hoOf_tup] at q
    exact .inr ⟨e, (Option.some.inj q).symm⟩
theorem argH_only (ar : ∀ a ∈ A, ArgOb h A a) : OnlyF (argH K h A) := fun b => by
  cases q : argH K h A b with
  | none => exact .inl rfl
  | some u =>
    obtain ⟨_, vs, _, _, ⟨_, e⟩ | ⟨_, e⟩⟩ := argH_is ar q
    · exact .inr ⟨_, _, by rw [e]⟩
    · exact .inr ⟨_, _, by rw [e]⟩
theorem argH_ok (ar : ∀ a ∈ A, ArgOb h A a) : HOk P w (argH K h A) h := fun b u q => by
  obtain ⟨_, vs, h1, h2, ⟨e, rfl⟩ | ⟨e, rfl⟩⟩ := argH_is ar q
  · exact ⟨e, by rw [List.length_map]; exact h1, vs, _, vals_toV h2, e⟩
  · exact ⟨e, by rw [List.length_map]; exact h1, vs, vals_toV h2, _, e, rfl, _, rfl⟩
theorem seq_inj {c c' : Value} {vs us : List Value} (e : (some { cls := c, data := .seq vs.toArray } : Option Obj) = some { cls := c', data := .seq us.toArray }) : c = c' ∧ vs = us := by
  have e1 := Option.some.inj e
  have e2 : c = c' := congrArg Obj.cls e1
  have e3 : Data.seq vs.toArray = Data.seq us.toArray := congrArg Obj.data e1
  injection e3 with e4
  refine ⟨e2, ?_⟩
  have e5 := congrArg Array.toList e4
  simpa using e5
theorem argL (KX : K.In h) (ar : ∀ a ∈ A, ArgOb h A a) {a : Addr} {vs : List Value} (ha : a ∈ A) (e : h.get? a = some { cls := .type "list", data := .seq vs.toArray }) : (∀ u ∈ vs, OkU A u) ∧ SqL K (argH K h A) a (vs.map toV) := by
  obtain ⟨us, h1, h2, h3⟩ := ar a ha
  have hu : us = vs := by
    rcases h3 with q | q
    · rw [e] at q
      exact (seq_inj q).2.symm
    · rw [e] at q
      exact absurd (Value.type.inj (seq_inj q).1) (by decide)
  subst hu
  refine ⟨h2, ?_⟩
  cases hk : K.lookup a with
  | none => exact .inl (.inr ⟨_, by rw [argH_at ha hk e, hoOf_lst]⟩)
  | some o =>
    have e2 := KX a o hk
    rw [e] at e2
    obtain rfl := Option.some.inj e2
    exact .inr ⟨_, us.toArray, _, hk, rfl, rfl, rfl, by rw [List.size_toArray]; exact h1, by simpa using vals_toV h2⟩
theorem argT (KX : K.In h) (ar : ∀ a ∈ A, ArgOb h A a) {a : Addr} {vs : List Value} (ha : a ∈ A) (e : h.get? a = some { cls := .type "tuple", data := .seq vs.toArray }) : (∀ u ∈ vs, OkU A u) ∧ SqT K (argH K h A) a (vs.map toV) := by
  obtain ⟨us, h1, h2, h3⟩ := ar a ha
  have hu : us = vs := by
    rcases h3 with q | q
    · rw [e] at q
      exact absurd (Value.type.inj (seq_inj q).1) (by decide)
    · rw [e] at q
      exact (seq_inj q).2.symm
  subst hu
  refine ⟨h2, ?_⟩
  cases hk : K.lookup a with
  | none => exact .inl (.inr ⟨_, by rw [argH_at ha hk e, hoOf_tup]⟩)
  | some o =>
    have e2 := KX a o hk
    rw [e] at e2
    obtain rfl := Option.some.inj e2
    exact .inr ⟨_, us.toArray, _, hk, rfl, rfl, by rw [List.size_toArray]; exact h1, by simpa using vals_toV h2⟩
mutual
theorem dw_one {Pm : Params} (KX : K.In h) (ar : ∀ a ∈ A, ArgOb h A a) : ∀ (d : WData) (v : Value), Well Pm h v d → plW d = true → OkU A v → Dw K (argH K h A) (toV v) d
  | .none, _, x, _, _ => by
    cases x
    exact .non
  | .bool b, _, x, _, _ => by
    cases x
    exact .bl b
  | .int i, _, x, _, _ => by
    cases x
    exact .int i
  | .str s, _, x, _, _ => by
    cases x
    exact .str s
  | .bytes b, _, x, _, _ => by
    cases x
    have z := Dw.byt (K := K) (H := argH K h A) b.toArray
    exact z
  | .list ds, _, x, p, hu => by
    obtain ⟨a, vs, rfl, ho, hall⟩ := well_list x
    obtain ⟨h2, hs⟩ := argL KX ar hu ho
    exact .lst hs (dw_all KX ar ds _ hall p h2)
  | .tuple ds, _, x, p, hu => by
    obtain ⟨a, vs, rfl, ho, hall⟩ := well_tuple x
    obtain ⟨h2, hs⟩ := argT KX ar hu ho
    exact .tup hs (dw_all KX ar ds _ hall p h2)
  | .float _, _, _, p, _ => Bool.noConfusion (show false = true from p)
  | .dict _, _, _, p, _ => Bool.noConfusion (show false = true from p)
  | .bytearray _, _, _, p, _ => Bool.noConfusion (show false = true from p)
  | .set _, _, _, p, _ => Bool.noConfusion (show false = true from p)
  | .frozenset _, _, _, p, _ => Bool.noConfusion (show false = true from p)
  | .obj _ _, _, _, p, _ => Bool.noConfusion (show false = true from p)
theorem dw_all {Pm : Params} (KX : K.In h) (ar : ∀ a ∈ A, ArgOb h A a) : ∀ (ds : List WData) (vs : List Value), WellAll Pm h vs ds → plWs ds = true → (∀ u ∈ vs, OkU A u) → DwAll K (argH K h A) (vs.map toV) ds
  | [], _, x, _, _ => by
    cases x
    exact .nil
  | d :: ds, _, x, p, hu => by
    obtain ⟨v, vs, rfl, x1, x2⟩ := well_cons x
    have q : plW d = true ∧ plWs ds = true := Bool.and_eq_true_iff.mp p
    exact .cons (dw_one KX ar d v x1 q.1 (hu _ (List.mem_cons_self ..))) (dw_all KX ar ds vs x2 q.2 fun u m => hu u (List.mem_cons_of_mem _ m))
end
end
theorem spec_call {P : Program} {w : World} {K : PySem.W.Frag} {mg mb : Str → Option Value} {CX : CXT} {k : Nat} {fa : Addr} {fd : FuncData} {ps : List Str} {sp : Sp} {s₁ : Shared} {vals : List Value} {ds : List WData} {R : PySem.W.WRecords} {cl : Str → Option Addr} {d0 : WData}
    (KX : K.In s₁.heap) (hns : s₁.heap.Ns mainGlobals mg) (hb : s₁.heap.Ns builtinsNs mb) (hbb : ∀ x : Str, x ≠ "__name__" → mb x = bootBuiltins x) (hlim : s₁.heap.NoLimit) (hg : s₁.gens = #[])
    (hwl : WellAll w.params s₁.heap vals ds) (hpl : plWs ds = true) (hwt : ∀ d ∈ ds, d.weight ≤ 1048576) (hr : Room k callerA)
    (F : ∀ base : Heap, K.In base → base.Ns mainGlobals mg → FnOk P w K mg base CX k fa fd ps sp) (hbind : ∀ (s : Shared) (us : List Value), us.length = ps.length → BindsTo s fd ⟨us, []⟩ (ps.zip us)) (hlen : ds.length = ps.length)
    (hsp : ∀ (H : Hp) (xs : List V), OnlyF H → DwAll K H xs ds → sp xs H (fun v H' => Dw K H' v d0) fun _ _ _ => False)
    (hCX : ∀ H e s', CX [] H s₁ (fun _ _ _ => False) e s' → False) :
    codeAny (model P w) callerA (.call (.ref fa) ⟨vals, []⟩) (fun r s' => ∃ u as, r = .ok (.ret u) ∧ ReadsW R cl s'.heap u d0 as ∧ OldK s₁.heap s'.heap ∧ s'.os = s₁.os ∧ AllBare s'.gens) s₁ := by
  obtain ⟨A, ho, ar⟩ := area_all ds vals hwl hpl hwt
  have hO : OnlyF (argH K s₁.heap A) := argH_only ar
  have hok : HOk P w (argH K s₁.heap A) s₁.heap := argH_ok ar
  have hS := dw_all KX ar ds vals hwl hpl ho
  have hV := vals_toV ho
  have hK : ∀ b u, argH K s₁.heap A b = some u → K.lookup b = none := fun b u q => (argH_is ar q).1
  have noA : ∀ {b : Addr} {o : Obj} {es : Array DictEntry} {ep : Nat}, s₁.heap.get? b = some o → o.data = .dict es ep → argH K s₁.heap A b = none := fun {b o es ep} e d => by
    cases q : argH K s₁.heap A b with
    | none => rfl
    | some u =>
      obtain ⟨_, vs, _, _, ⟨e2, _⟩ | ⟨e2, _⟩⟩ := argH_is ar q
      · rw [e2] at e
        cases e
        have d' : Data.seq vs.toArray _ = Data.dict es ep := d
        cases d'
      · rw [e2] at e
        cases e
        have d' : Data.seq vs.toArray _ = Data.dict es ep := d
        cases d'
  generalize argH K s₁.heap A = H at hO hok hS hK noA
  have base_of : ∀ {b : Addr} {o : Obj}, s₁.heap.get? b = some o → H b = none → (hidT s₁.heap H).get? b = some o := fun e n => hidT_get e n
  have nsK : ∀ {b : Addr} {m : Str → Option Value}, s₁.heap.Ns b m → (hidT s₁.heap H).Ns b m := fun {b m} ⟨o, es, ep, e, d, r⟩ => ⟨o, es, ep, base_of e (noA e d), d, r⟩
  have nK : ∀ b o, K.lookup b = some o → H b = none := fun b o e => by
    cases q : H b with
    | none => rfl
    | some u =>
      rw [hK b u q] at e
      cases e
  have hKb : K.In (hidT s₁.heap H) := fun b o e => base_of (KX b o e) (nK b o e)
  have hM : Mod K mg (hidT s₁.heap H) := ⟨hKb, nsK hns, ⟨mb, nsK hb, hbb⟩, let ⟨mc, h1, h2⟩ := hlim; ⟨mc, nsK h1, h2⟩⟩
  have e0 : Env0 P w K mg (hidT s₁.heap H) callerA [] s₁ H := ⟨rfl, hM, fun b o e => of_hidT e, Nat.le_of_eq (hidT_size _ _), trivial, fun b hb => absurd (show b ∈ ([] : List Addr) from hb) (by simp), hok, .of_eq hg⟩
  have hl : vals.length = ps.length := by rw [wellAll_len hwl]; exact hlen
  refine codeAny_mono ((F _ hKb (nsK hns)).run callerA [] s₁ H ⟨vals, []⟩ vals (vals.map toV) _ _ hr e0 (hbind s₁ vals hl) hV (hsp H _ hO hS)) fun r s' x => ?_
  cases r with
  | error e => exact (hCX H e s' x).elim
  | ok fl =>
    cases fl with
    | next => exact False.elim x
    | brk => exact False.elim x
    | cont => exact False.elim x
    | ret u =>
      obtain ⟨v, H', os, bare, un, hok', r', q⟩ := x
      have kept : ∀ b o, s₁.heap.get? b = some o → s'.heap.get? b = some o := fun b o e => by
        cases q2 : H b with
        | none => exact un.keep b o e q2 (by intro z; exact absurd (show b ∈ ([] : List Addr) from z) (by simp)) (by simp)
        | some u2 =>
          rcases hO b with z | ⟨ob, u3, z⟩
          · rw [q2] at z
            cases z
          · have z2 := un.frzs b ob _ z
            obtain ⟨e1, _⟩ := hok b _ z
            obtain ⟨e2, _⟩ := hok' b _ z2
            rw [e] at e1
            cases e1
            exact e2
      have KX' : K.In s'.heap := fun b o e => kept b o (KX b o e)
      obtain ⟨as, hrd⟩ := Dw.reads (R := R) (cl := cl) hok' KX' d0 v u q r'
      exact ⟨u, as, rfl, hrd, OldK.of_keep kept, os, bare⟩
theorem layable_weight {ds : List WData} (h : WData.layableAll ds = true) : ∀ d ∈ ds, d.weight ≤ 1048576 := fun d hd =>
  (PySem.W.layableW_iff.mp (List.all_eq_true.mp h d hd)).2.2
theorem encAll_len : ∀ (cs : List Codec) (a : Codec.denoteAll cs), (Codec.encAll cs a).length = cs.length
  | [], _ => rfl
  | c :: cs, a => by
    show (Codec.encAll cs a.2).length + 1 = cs.length + 1
    rw [encAll_len cs a.2]
theorem walk_spec {r : OpenSpec} {k : Nat} {q : Program} {loose : List Str} {XP : (Str → Option Value) → Heap → Prop} {YP : World → Heap → Prop} {d : DefRec} {K : Params → PySem.W.Frag} {CX : World → CXT} {ps : List Str} {sp : World → Sp}
    (hwell : r.wellSaid = true) (hdf : d.params.defaults = []) (hlen : r.args.length = ps.length) (hr : Room k callerA)
    (hY : ∀ (w : World) (h : Heap), YP w h → (K w.params).In h)
    (F : ∀ (w : World) (mg : Str → Option Value) (fa : Addr) (h : Heap), YP w h → (K w.params).In h → h.Ns mainGlobals mg → mg d.name = some (.ref fa) →
      ∃ fd : FuncData, (∀ (s : Shared) (us : List Value), us.length = ps.length → BindsTo s fd ⟨us, []⟩ (ps.zip us)) ∧
        ∀ base : Heap, (K w.params).In base → base.Ns mainGlobals mg → FnOk r.prog w (K w.params) mg base (CX w) k fa fd ps (sp w))
    (hsp : ∀ (w : World) (H : Hp) (xs : List V) (a : Codec.denoteAll r.args), OnlyF H → Codec.withinAll r.args a = true → Codec.app r.args r.asked a = true → DwAll (K w.params) H xs (Codec.encAll r.args a) →
      sp w xs H (fun v H' => Dw (K w.params) H' v (r.ret.enc (Codec.app r.args r.f a))) fun _ _ _ => False)
    (hCX : ∀ (w : World) (H : Hp) (s : Shared) (e : Value) (s' : Shared), CX w [] H s (fun _ _ _ => False) e s' → False) :
    PySem.W.WalkOS q loose XP YP r d [] (fun f vs => PySem.call f vs) := by
  intro w s_0 s₁ mg mb G Y fa o pm cd doc dV kV ho hd hcd hD hmg hg args vals as hpre hlay hrd hwl hlo
  obtain ⟨a, e1, e2⟩ := PySem.W.os_pre_some hpre
  obtain ⟨e3, hwi⟩ := Codec.encAll_of_decAll r.args args a e1
  subst e3
  have KX := hY w _ Y
  obtain ⟨fd, hb, hF⟩ := F w mg fa _ Y KX G.T.g hmg
  refine PySem.W.enter_call (codeAny_mono (spec_call (R := []) (cl := classAt s_0.heap) (d0 := r.ret.enc (Codec.app r.args r.f a)) KX G.T.g G.T.b G.T.builtins G.T.nolimit hg hwl (pl_encAll _ _) (layable_weight hlay) hr hF hb (by rw [encAll_len]; exact hlen)
    (fun H xs hO hS => hsp w H xs a hO hwi e2 hS) fun H e s' => hCX w H s₁ e s') fun r' s' hq => ?_)
  obtain ⟨u, as', rfl, h1, h2, h3, h4⟩ := hq
  exact ⟨.inl ⟨u, _, as', rfl, fun _ => rfl, h1, (OpenSpec.post_iff hwell hwi _ _).mpr rfl, fun z => Bool.noConfusion (show false = true from z)⟩, h2, h3, h4⟩
theorem walk_specK {r : OpenSpec} {k : Nat} {q : Program} {loose : List Str} {XP : (Str → Option Value) → Heap → Prop} {YP : World → Heap → Prop} {d : DefRec} {K : Params → PySem.W.Frag} {CX : CXT} {ps : List Str} {sp : PySem.W.Frag → Sp}
    (hwell : r.wellSaid = true) (hdf : d.params.defaults = []) (hlen : r.args.length = ps.length) (hr : Room k callerA)
    (hY : ∀ (w : World) (h : Heap), YP w h → (K w.params).In h)
    (F : ∀ (w : World) (mg : Str → Option Value) (fa : Addr) (h : Heap), YP w h → (K w.params).In h → h.Ns mainGlobals mg → mg d.name = some (.ref fa) →
      ∃ fd : FuncData, (∀ (s : Shared) (us : List Value), us.length = ps.length → BindsTo s fd ⟨us, []⟩ (ps.zip us)) ∧
        ∀ base : Heap, (K w.params).In base → base.Ns mainGlobals mg → FnOk r.prog w (K w.params) mg base CX k fa fd ps (sp (K w.params)))
    (hsp : ∀ (K : PySem.W.Frag) (H : Hp) (xs : List V) (a : Codec.denoteAll r.args), OnlyF H → Codec.withinAll r.args a = true → Codec.app r.args r.asked a = true → DwAll K H xs (Codec.encAll r.args a) →
      sp K xs H (fun v H' => Dw K H' v (r.ret.enc (Codec.app r.args r.f a))) fun _ _ _ => False)
    (hCX : ∀ (H : Hp) (s : Shared) (e : Value) (s' : Shared), CX [] H s (fun _ _ _ => False) e s' → False) :
    PySem.W.WalkOS q loose XP YP r d [] (fun f vs => PySem.call f vs) :=
  walk_spec (K := K) (CX := fun _ => CX) (sp := fun w => sp (K w.params)) hwell hdf hlen hr hY F (fun w H xs a h1 h2 h3 h4 => hsp (K w.params) H xs a h1 h2 h3 h4) fun _ H s e s' => hCX H s e s'
end L2
end
set_option Elab.async false
set_option linter.all false
set_option maxRecDepth 100000
set_option maxHeartbeats 4000000
namespace L2
open PySem PySem.Spec PyProof.Rows
def XObj (h : Heap) (x : Addr) (cls : Value) (dv : Option Addr) (tb : Value) : Prop :=
  ∃ (o : Obj) (vs : Array Value), h.get? x = some o ∧ o.cls = cls ∧ o.dict = dv ∧ o.data = .fields vs ∧ vs[1]? = some tb ∧ vs[2]? = some .none
def TbAt (h : Heap) (T : Addr) : Prop := ∃ (o : Obj) (ts : Array Value), h.get? T = some o ∧ o.data = .fields ts ∧ ts[3]? = some .none
def OffX (x : Addr) (tb : Value) (b : Addr) : Prop := b ≠ x ∧ tb ≠ .ref b
theorem dict_mapFields (o : Obj) (f : Array Value → Array Value) : (o.mapFields f).dict = o.dict := by
  obtain ⟨c, d, dt, sl⟩ := o
  cases dt <;> rfl
section
variable {M : Model} {A : Around} {E : Value → Shared → Prop} {s : Shared}
theorem entry_x {base : Heap} {env : Env} {outer : List Env} {L x : Addr} {cls head tb : Value} {dv : Option Addr} {had : Bool} {Q : Unit → Shared → Prop}
    (hfr : A.frames = some (env :: outer)) (hl : s.heap.FunFrames base (env :: outer)) (hf : env.frame = some L) (hx : XObj s.heap x cls dv tb)
    (h : ∀ h' T, s.heap.objs.size ≤ T → XObj h' x cls dv (.ref T) → TbAt h' T → (∀ b o, b ≠ x → b ∉ frs (env :: outer) → s.heap.get? b = some o → h'.get? b = some o) →
      (∀ b o, b ≠ x → s.heap.get? b = some o → ∃ sl, h'.get? b = some { o with slots := sl }) → Q () { s with heap := h' }) :
    wpAny M A (do let a ← frameOf env; let pl ← entryPlaceOf L had; let b ← EntryCells.newEntry head a .none (rawInt L) .none pl; setField (.ref x) 1 b) (fun _ s1 => wpAny M A (setFlight (.ref x) none) Q E s1) E s := by
  obtain ⟨ox, vs, gx, cx, dx, ex, e1, e2⟩ := hx
  have lt1 : 1 < vs.size := (Array.getElem?_eq_some_iff.mp e1).1
  have nfr : x ∉ frs (env :: outer) := fun hm => by
    obtain ⟨_, o, q, nf⟩ := hl.mem hm
    rw [gx] at q; cases q
    exact nf vs ex
  refine wpAny_bind (wpAny_frameOf_fun hfr hl hf fun h1 hs1 => wpAny_bind (wpAny_entryPlaceOf fun place hp => ?_))
  unfold EntryCells.newEntry newFields
  refine wpAny_bind (wpAny_newObj_type ?_ (hp.sizeOk5 _ _ _ _ _))
  have gx1 : h1.get? x = some ox := by rw [hs1.2.1 x nfr]; exact gx
  generalize hnew : ({ cls := .type "traceback", dict := none, data := .fields ([head, .ref L, .none, rawInt L, .none] ++ (if place.isEmpty then List.replicate 6 Value.none else place)).toArray } : Obj) = ob
  have gx2 : (h1.push ob).get? x = some ox := Heap.get?_push_of_some ob gx1
  have neT : h1.objs.size ≠ x := Nat.ne_of_gt (Heap.lt_size gx1)
  refine wpAny_setField gx2 ex lt1 ?_
  have dx3 := Obj.data_mapFields ex (·.setIfInBounds 1 (Value.ref h1.objs.size))
  have gx3 := Heap.get?_update_self (Obj.mapFields (·.setIfInBounds 1 (Value.ref h1.objs.size))) gx2 (Obj.isFreed_of_fields dx3)
  have gT2 : (h1.push ob).get? h1.objs.size = some ob := Heap.get?_push_size h1 (by rw [← hnew]; rfl)
  have gT3 : ((h1.push ob).update x (Obj.mapFields (·.setIfInBounds 1 (Value.ref h1.objs.size)))).get? h1.objs.size = some ob := by
    rw [Heap.get?_update_other _ _ (Ne.symm neT)]; exact gT2
  unfold setFlight
  refine wpAny_bind (wpAny_field gx3 dx3 (x := .ref h1.objs.size) (by simp [lt1]) ?_)
  rw [if_pos (show (Value.ref h1.objs.size != Value.none) = true by simp)]
  have dT : ob.data = .fields ([head, .ref L, .none, rawInt L, .none] ++ (if place.isEmpty then List.replicate 6 Value.none else place)).toArray := by rw [← hnew]
  refine wpAny_setField gT3 dT (by simp only [List.size_toArray, List.length_append, List.length_cons, List.length_nil]; omega) ?_
  have off : ∀ b o, b ≠ x → h1.get? b = some o → (((h1.push ob).update x (Obj.mapFields (·.setIfInBounds 1 (Value.ref h1.objs.size)))).update h1.objs.size
      (Obj.mapFields (·.setIfInBounds 3 ((none : Option Addr).elim Value.none fun f => rawInt f)))).get? b = some o := fun b o hb q => by
    rw [Heap.get?_update_other _ _ (Nat.ne_of_gt (Heap.lt_size q)), Heap.get?_update_other _ _ (Ne.symm hb)]
    exact Heap.get?_push_of_some ob q
  refine h _ h1.objs.size (by rw [hs1.1]; exact Nat.le_refl _) ?_ ?_ (fun b o hb hn q => off b o hb (by rw [hs1.2.1 b hn]; exact q)) fun b o hb q => ?_
  · refine ⟨_, _, by rw [Heap.get?_update_other _ _ neT]; exact gx3, by rw [Obj.cls_mapFields]; exact cx, by rw [dict_mapFields]; exact dx, dx3, by simp [lt1], ?_⟩
    rw [Array.getElem?_setIfInBounds_ne (by decide)]
    exact e2
  · have dT' := Obj.data_mapFields dT (·.setIfInBounds 3 ((none : Option Addr).elim Value.none fun f => rawInt f))
    refine ⟨_, _, Heap.get?_update_self _ gT3 (Obj.isFreed_of_fields dT'), dT', ?_⟩
    simp
  · obtain ⟨sl, q1⟩ := hs1.2.2 b o q
    exact ⟨sl, off b _ hb q1⟩
theorem leave_x {base : Heap} {env : Env} {outer : List Env} {L x : Addr} {cls tb : Value} {dv : Option Addr} {Q : Unit → Shared → Prop}
    (hfr : A.frames = some (env :: outer)) (hl : s.heap.FunFrames base (env :: outer)) (hf : env.frame = some L) (hx : XObj s.heap x cls dv tb) (ht : tb = .none ∨ ∃ T, tb = .ref T ∧ T ≠ x ∧ TbAt s.heap T)
    (h : ∀ h' T, s.heap.objs.size ≤ T → XObj h' x cls dv (.ref T) → TbAt h' T → (∀ b o, OffX x tb b → b ∉ frs (env :: outer) → s.heap.get? b = some o → h'.get? b = some o) →
      (∀ b o, OffX x tb b → s.heap.get? b = some o → ∃ sl, h'.get? b = some { o with slots := sl }) → (∀ b o, s.heap.get? b = some o → ∃ o', h'.get? b = some o') → Q () { s with heap := h' }) :
    wpAny M A (noteFrame (.ref x) env) (fun _ s1 => wpAny M A (setFlight (.ref x) none) Q E s1) E s := by
  obtain ⟨ox, vs, gx, cx, dx, ex, e1, e2⟩ := id hx
  unfold noteFrame
  simp only [hf]
  refine wpAny_bind (wpAny_field gx ex e1 ?_)
  rcases ht with rfl | ⟨T, rfl, hT, oT, ts, gT, dT, e3⟩
  · rw [if_neg (by decide)]
    refine entry_x hfr hl hf hx fun h' T a1 a2 a3 a4 a5 => h h' T a1 a2 a3 (fun b o hb => a4 b o hb.1) (fun b o hb => a5 b o hb.1) fun b o q => ?_
    by_cases hb : b = x
    · obtain ⟨o', _, g', _⟩ := a2
      exact ⟨o', by rw [hb]; exact g'⟩
    · obtain ⟨sl, q'⟩ := a5 b o hb q
      exact ⟨_, q'⟩
  · rw [if_pos (show (Value.ref T != Value.none) = true by simp)]
    refine wpAny_bind (wpAny_field gT dT e3 ?_)
    rw [if_neg (show ¬ ((Value.none == rawInt L) = true) by simp [rawInt])]
    have lt3 : 3 < ts.size := (Array.getElem?_eq_some_iff.mp e3).1
    refine wpAny_bind (wpAny_setField gT dT lt3 ?_)
    have oth : ∀ b, b ≠ T → (s.heap.update T (Obj.mapFields (·.setIfInBounds 3 Value.none))).get? b = s.heap.get? b := fun b hb => Heap.get?_update_other _ _ (Ne.symm hb)
    have nT : ∀ b o, s.heap.get? b = some o → (∀ us, o.data ≠ .fields us) → b ≠ T := fun b o q nf z => by
      rw [z, gT] at q; cases q
      exact nf ts dT
    have hsz : (s.heap.update T (Obj.mapFields (·.setIfInBounds 3 Value.none))).objs.size = s.heap.objs.size := Heap.size_after_update ..
    have self := Heap.get?_update_self (Obj.mapFields (·.setIfInBounds 3 Value.none)) gT (Obj.isFreed_of_fields (Obj.data_mapFields dT _))
    have thr : ∀ b o, s.heap.get? b = some o → ∃ o', (s.heap.update T (Obj.mapFields (·.setIfInBounds 3 Value.none))).get? b = some o' := fun b o q => by
      by_cases hb : b = T
      · exact ⟨_, by rw [hb]; exact self⟩
      · exact ⟨o, by rw [oth b hb]; exact q⟩
    refine entry_x (s := { s with heap := s.heap.update T (Obj.mapFields (·.setIfInBounds 3 Value.none)) }) hfr (hl.of_keeps fun b o q nf => ⟨o, by rw [oth b (nT b o q nf)]; exact q, rfl⟩) hf
      ⟨ox, vs, by rw [oth x (Ne.symm hT)]; exact gx, cx, dx, ex, e1, e2⟩ fun h' U a1 a2 a3 a4 a5 => h h' U (by rw [← hsz]; exact a1) a2 a3 (fun b o hb hn q => ?_) (fun b o hb q => ?_) fun b o q => ?_
    · exact a4 b o hb.1 hn (by rw [oth b fun z => hb.2 (by rw [z])]; exact q)
    · exact a5 b o hb.1 (by rw [oth b fun z => hb.2 (by rw [z])]; exact q)
    · obtain ⟨o1, q1⟩ := thr b o q
      by_cases hb : b = x
      · obtain ⟨o', _, g', _⟩ := a2
        exact ⟨o', by rw [hb]; exact g'⟩
      · obtain ⟨sl, q'⟩ := a5 b o1 hb q1
        exact ⟨_, q'⟩
end
end L2
set_option Elab.async false
set_option linter.all false
set_option maxRecDepth 100000
set_option maxHeartbeats 4000000
namespace L2
open PySem PySem.Spec PyProof.Rows
open PySem.Builtin PySem.Builtin.ObjectAttr
def keyStrB (e : DictEntry) : Bool := match e.key with
  | .str _ _ => true
  | _ => false
abbrev mroX : List Value := [.type "Exception", .type "BaseException", .type "object"]
def xnsIn (K : PySem.W.Frag) (N fI : Addr) (fs : List Str) : Bool := match K.lookup N with
  | some ⟨_, _, .dict es _, _⟩ => es.toList.all keyStrB && nsFind es "__init__" == some (.ref fI) && nsFind es "__setattr__" == none && nsFind es "__getattribute__" == none && nsFind es "__getattr__" == none && fs.all fun f => nsFind es f == none
  | _ => false
def xclsIn (K : PySem.W.Frag) (C fI : Addr) (fs : List Str) : Bool := match K.lookup C with
  | some ⟨.type t, _, .cls cd, sl⟩ => (match cd.mro, sl.toList with
    | .ref c :: bm, [_, _, _, _, some (.builtin n), _] => t == "type" && c == C && !cd.hasDel && cd.hasDict && bm == mroX && n == "Exception.__new__" && xnsIn K cd.ns fI fs
    | _, _ => false)
  | _ => false
structure XAt (h : Heap) (C fI : Addr) (fs : List Str) (nm q : Str) (N : Addr) (bs : List Value) (sn : List Str) (sub : List Value) (ab : Bool) (col : Option Bool) (dd : Option Addr) (k0 k1 k2 k3 k5 : Option Value) (mN : Str → Option Value) : Prop where
  obj : h.get? C = some (excClassObj nm q C N bs mroX true sn sub ab col dd k0 k1 k2 k3 k5 "Exception.__new__")
  ns : h.Ns N mN
  init : mN "__init__" = some (.ref fI)
  sa : mN "__setattr__" = none
  ga : mN "__getattribute__" = none
  gh : mN "__getattr__" = none
  no : ∀ f ∈ fs, mN f = none
theorem xns_of {K : PySem.W.Frag} {h : Heap} {N fI : Addr} {fs : List Str} (X : K.In h) (e : xnsIn K N fI fs = true) :
    ∃ mN, h.Ns N mN ∧ mN "__init__" = some (.ref fI) ∧ mN "__setattr__" = none ∧ mN "__getattribute__" = none ∧ mN "__getattr__" = none ∧ ∀ f ∈ fs, mN f = none := by
  unfold xnsIn at e
  split at e
  · rename_i oc od es n sl lk
    simp only [Bool.and_eq_true, beq_iff_eq, List.all_eq_true] at e
    obtain ⟨⟨⟨⟨⟨e0, e1⟩, e2⟩, e3⟩, e4⟩, e5⟩ := e
    refine ⟨nsFind es, ⟨_, es, n, X _ _ lk, rfl, fun d hd => ?_, fun _ => rfl⟩, e1, e2, e3, e4, e5⟩
    have q := e0 d (Array.mem_toList_iff.mpr hd)
    unfold keyStrB at q
    split at q
    · rename_i a b hk
      exact ⟨a, b, hk⟩
    · cases q
  · cases e
theorem xcls_of {K : PySem.W.Frag} {h : Heap} {C fI : Addr} {fs : List Str} (X : K.In h) (e : xclsIn K C fI fs = true) :
    ∃ nm q N bs sn sub ab col dd k0 k1 k2 k3 k5 mN, XAt h C fI fs nm q N bs sn sub ab col dd k0 k1 k2 k3 k5 mN := by
  unfold xclsIn at e
  split at e
  · rename_i t dd cd sl lk
    split at e
    · rename_i c bm k0 k1 k2 k3 n k5 hm hs
      simp only [Bool.and_eq_true, beq_iff_eq, Bool.not_eq_true'] at e
      obtain ⟨⟨⟨⟨⟨⟨e1, e2⟩, e3⟩, e4⟩, e5⟩, e6⟩, e7⟩ := e
      obtain ⟨mN, n0, n1, n2, n3, n4, n5⟩ := xns_of X e7
      obtain ⟨nm, bs, mro, N, q, hd, sn, sub, ab, col, del⟩ := cd
      dsimp only at hm e3 e4 n0
      subst hm e3 e4 e1 e2 e5 e6
      obtain ⟨l⟩ := sl
      dsimp only at hs
      subst hs
      exact ⟨nm, q, N, bs, sn, sub, ab, col, dd, k0, k1, k2, k3, k5, mN, ⟨X _ _ lk, n0, n1, n2, n3, n4, n5⟩⟩
    · cases e
  · cases e
end L2
set_option Elab.async false
set_option linter.all false
set_option maxRecDepth 100000
set_option maxHeartbeats 4000000
namespace L2
open PySem PySem.Spec PyProof.Rows
open PySem.Builtin PySem.Builtin.ObjectAttr
section
variable {prog : Program} {w : World} {A : Around} {E : Value → Shared → Prop} {h : Heap} {g : Array GenState} {d : Drawn} {t : Nat} {os : OsState}
  {C fI x : Addr} {fs : List Str} {nm q : Str} {N : Addr} {bs : List Value} {sn : List Str} {sub : List Value} {ab : Bool} {col : Option Bool} {dd : Option Addr} {k0 k1 k2 k3 k5 : Option Value} {mN : Str → Option Value} {f : Str} {v : Value}
theorem xset1_entry {tk : Tok} {o : Obj} {vs : Array Value} {Q : PySem.Fin → Shared → Prop} (XC : XAt h C fI fs nm q N bs sn sub ab col dd k0 k1 k2 k3 k5 mN) (hf : f ∈ fs) (hB : typeLookup (.type "Exception") f = pure none)
    (hx : h.get? x = some o) (hc : o.cls = .ref C) (hd : o.dict = none) (hv : o.data = .fields vs)
    (hq : ∀ h' tk', h'.get? x = some { o with dict := some h.objs.size } → h'.Ns1 h.objs.size (fun y => if y = f then some v else none) → (∀ b u, b ≠ x → h.get? b = some u → h'.get? b = some u) → Q (.done (.ret .none)) ⟨h', g, d, tk', os⟩) :
    wpAny (model prog w) A (Builtin.«object.__setattr__» ⟨[.ref x, .str f tk, v], []⟩) Q E ⟨h, g, d, t, os⟩ := by
  have pass := F.store_Exception.passes (.ref x)
  have mr := F.store_Exception.mro
  have no := XC.no f hf
  have hC := XC.obj
  have hN := XC.ns
  unfold Builtin.«object.__setattr__»
  repeat (first | rw [refuse_eq] | (rw [refuseLoop_ref, pass]) | (with_reducible refine wpAny_loadPart_at hx ?_; rw [hc]) | with_reducible refine wpAny_mroOf_exc hC ?_ | (with_reducible refine wpAny_typeLookup_exc hC hN mr hB ?_; rw [no]) | wp_step)
  rw [hd, if_neg (by simp [typeHasDict])]
  split
  · rename_i z
    cases z
  split
  · rename_i c z
    rw [hv] at z; cases z
  · have hx1 : (h.push { cls := .type "dict", data := .dict #[] }).get? x = some o := Heap.get?_push_of_some _ hx
    have ne : x ≠ h.objs.size := Nat.ne_of_lt (Heap.lt_size hx)
    refine wpAny_bind (wpAny_alloc' ?_)
    refine wpAny_bind (wpAny_update' hx1 ?_)
    refine wpAny_pure ?_
    have gd : ((h.push { cls := .type "dict", data := .dict #[] }).update x fun o => { cls := o.cls, dict := some h.objs.size, data := o.data, slots := o.slots }).get? h.objs.size = some { cls := .type "dict", data := .dict #[] } := by
      rw [Heap.get?_update_ne _ _ _ _ ne.symm]
      exact Heap.get?_push_at rfl rfl
    show wpAny _ _ (storeInDict h.objs.size (.str f tk) f v) _ _ _
    unfold storeInDict newKeyGuard
    refine wpAny_bind (wpAny_pure (wpAny_bind (wpAny_nsSet1 (Heap.Ns1.of_empty ⟨_, #[], _, gd, rfl, fun e he => absurd he (by simp), fun _ => rfl⟩) fun h' n' sb => ?_)))
    obtain ⟨oD, esD, epD, g1, g2, g3⟩ := n'.count (Within.cons f v Within.nil)
    refine wpAny_bind (wpAny_lookBehind g1 (by rw [g2]; exact pastItsLine_dict (Nat.le_trans g3 (by rw [List.length_cons, List.length_nil, sizeLine_eq]; omega))) ?_)
    wp_walk
    refine hq h' _ ?_ n' fun b u hb z => ?_
    · rw [sb.2 x ne]
      refine Heap.get?_update_self _ hx1 ?_
      have nf := (Heap.get?_some_iff.mp hx).2
      obtain ⟨oc, od, odt, osl⟩ := o
      cases odt <;> first | rfl | exact nf
    · rw [sb.2 b (Nat.ne_of_lt (Heap.lt_size z)), Heap.get?_update_ne _ _ _ _ hb]
      exact Heap.get?_push_of_some _ z
theorem xset1_call {tk : Tok} {sa owner : String} {o : Obj} {vs : Array Value} {R : Result → Shared → Prop} (SF : StoreFacts "Exception" mroX sa owner) (XC : XAt h C fI fs nm q N bs sn sub ab col dd k0 k1 k2 k3 k5 mN) (hf : f ∈ fs) (hB : typeLookup (.type "Exception") f = pure none)
    (hx : h.get? x = some o) (hc : o.cls = .ref C) (hd : o.dict = none) (hv : o.data = .fields vs)
    (hq : ∀ h' tk', h'.get? x = some { o with dict := some h.objs.size } → h'.Ns1 h.objs.size (fun y => if y = f then some v else none) → (∀ b u, b ≠ x → h.get? b = some u → h'.get? b = some u) → R (.ok (.ret .none)) ⟨h', g, d, tk', os⟩) :
    codeAny (model prog w) A (.call (.builtin sa) ⟨[.ref x, .str f tk, v], []⟩) R ⟨h, g, d, t, os⟩ := by
  refine codeAny_call_builtin SF.slot.plain SF.entry (wpAny_check_sa SF XC.obj hx hc ?_)
  exact xset1_entry XC hf hB hx hc hd hv hq
theorem xset1 {o : Obj} {vs : Array Value} {Q : Unit → Shared → Prop} (XC : XAt h C fI fs nm q N bs sn sub ab col dd k0 k1 k2 k3 k5 mN) (hf : f ∈ fs) (hB : typeLookup (.type "Exception") f = pure none)
    (hx : h.get? x = some o) (hc : o.cls = .ref C) (hd : o.dict = none) (hv : o.data = .fields vs)
    (hq : ∀ h' tk', h'.get? x = some { o with dict := some h.objs.size } → h'.Ns1 h.objs.size (fun y => if y = f then some v else none) → (∀ b u, b ≠ x → h.get? b = some u → h'.get? b = some u) → Q () ⟨h', g, d, tk', os⟩) :
    wpAny (model prog w) A (setAttr (.ref x) f v) Q E ⟨h, g, d, t, os⟩ := by
  have SF := F.store_Exception
  have bd := SF.slot.bind (.ref x)
  have nsa := XC.sa
  have hC := XC.obj
  have hN := XC.ns
  unfold setAttr callSpecial? specialOf
  repeat (any_goals (first | assumption | (with_reducible refine wpAny_loadPart_at hx ?_; rw [hc]) | (with_reducible refine wpAny_typeLookup_exc hC hN SF.mro SF.slot.lookup ?_; rw [nsa]) | wp_step))
  refine xset1_call SF XC hf hB hx hc hd hv fun h' tk' a1 a2 a3 => ?_
  repeat (any_goals (first | assumption | wp_step))
  exact hq h' tk' a1 a2 a3
theorem xset2 {o : Obj} {vs : Array Value} {dx : Addr} {mA : Str → Option Value} {ns : List Str} {Q : Unit → Shared → Prop} (XC : XAt h C fI fs nm q N bs sn sub ab col dd k0 k1 k2 k3 k5 mN) (hf : f ∈ fs) (hB : typeLookup (.type "Exception") f = pure none)
    (hx : h.get? x = some o) (hc : o.cls = .ref C) (hd : o.dict = some dx) (hv : o.data = .fields vs) (hn : h.Ns1 dx mA) (ne : dx ≠ x) (hw : Within mA ns) (hz : ns.length ≤ sizeLine)
    (hq : ∀ h' tk', h'.get? x = some o → h'.Ns1 dx (fun y => if y = f then some v else mA y) → (∀ b u, b ≠ dx → h.get? b = some u → h'.get? b = some u) → Q () ⟨h', g, d, tk', os⟩) :
    wpAny (model prog w) A (setAttr (.ref x) f v) Q E ⟨h, g, d, t, os⟩ := by
  have nC : x ≠ C := fun z => by
    have q := XC.obj
    rw [← z, hx] at q
    have q2 : o.data = _ := congrArg Obj.data (Option.some.inj q)
    rw [hv] at q2; cases q2
  refine store_attr F.store_Exception XC.obj XC.ns XC.sa (XC.no f hf) hB nC ⟨o, hx, hc, (fun c z => by rw [hv] at z; cases z), .inr ⟨dx, hd, ne, hn⟩⟩ (fun h' tk' J keep same => ?_) hw hz
  obtain ⟨o1, g1, c1, d1, s1, t1⟩ := same o hx
  have e1 : o1 = o := by
    obtain ⟨a1, a2, a3, a4⟩ := o1
    obtain ⟨b1, b2, b3, b4⟩ := o
    dsimp only at c1 d1 s1 t1 hd
    have := t1 dx hd
    subst c1 d1 s1 hd this
    rfl
  subst e1
  refine hq h' tk' g1 ?_ fun b u hb z => ?_
  · obtain ⟨o2, g2, _, _, r⟩ := J
    rw [g1] at g2; cases g2
    rcases r with ⟨z, _⟩ | ⟨dy, z, _, n2⟩
    · rw [hd] at z; cases z
    · rw [hd] at z; cases z
      exact n2
  · by_cases hbx : b = x
    · subst hbx
      rw [hx] at z; cases z
      exact g1
    · exact keep b u hbx (fun o0 dy z1 z2 => by rw [hx] at z1; cases z1; rw [hd] at z2; cases z2; exact hb) z
end
end L2
set_option Elab.async false
set_option linter.all false
set_option maxRecDepth 100000
set_option maxHeartbeats 4000000
namespace L2
open PySem PySem.Spec PyProof.Rows
open PySem.Builtin PySem.Builtin.ObjectAttr
structure GetX (ga owner : String) : Prop where
  mro : mroOf (.type "Exception") = pure mroX
  slot : Slot "Exception" "__getattribute__" ga
  entry : entryFor table ga = some Builtin.«object.__getattribute__»
  kind : builtinKind ga = some .slot
  split : splitId ga = some (owner, "__getattribute__")
  has : mroX.contains (.type owner) = true
  args : ∀ a b : Value, argsOk ga ⟨[a, b], []⟩
  other : (ga == "object.__getattribute__") = false
  hook : typeLookup (.type "Exception") "__getattr__" = pure none
theorem getX : GetX "BaseException.__getattribute__" "BaseException" where
  mro := F.store_Exception.mro
  slot := .of (owner := "BaseException") (n := "__getattribute__") (by rw [typeLookup_type, builtinLookup_eq_fast]; kernel_rfl) (by decide +kernel) (by decide +kernel) (by decide +kernel) (.inl (by decide +kernel)) (by rw [isSubtype_type]; kernel_rfl)
  entry := entryFor_alias (id' := "object.__getattribute__") (by rw [fastTable_eq_tree]; kernel_rfl) (by decide +kernel) (by decide +kernel) (by rw [fastTable_eq_tree]; kernel_rfl)
  kind := by decide +kernel
  split := by decide +kernel
  has := by decide +kernel
  args := fun a b => by unfold argsOk; kernel_rfl
  other := by decide +kernel
  hook := by rw [typeLookup_type, builtinLookup_eq_fast]; kernel_rfl
section
variable {prog : Program} {w : World} {A : Around} {E : Value → Shared → Prop} {h : Heap} {g : Array GenState} {d : Drawn} {t : Nat} {os : OsState}
  {C fI x : Addr} {fs : List Str} {nm q : Str} {N : Addr} {bs : List Value} {sn : List Str} {sub : List Value} {ab : Bool} {col : Option Bool} {dd : Option Addr} {k0 k1 k2 k3 k5 : Option Value} {mN : Str → Option Value} {f : Str} {v : Value}
theorem xget_entry {tk : Tok} {ga owner : String} {o : Obj} {vs : Array Value} {dx : Addr} {mA : Str → Option Value} {Q : PySem.Fin → Shared → Prop} (GF : GetX ga owner) (XC : XAt h C fI fs nm q N bs sn sub ab col dd k0 k1 k2 k3 k5 mN) (hf : f ∈ fs)
    (hB : typeLookup (.type "Exception") f = pure none) (hx : h.get? x = some o) (hc : o.cls = .ref C) (hd : o.dict = some dx) (hv : o.data = .fields vs) (hn : h.Ns dx mA) (hA : mA f = some v) (hq : Q (.done (.ret v)) ⟨h, g, d, t, os⟩) :
    wpAny (model prog w) A (Builtin.«object.__getattribute__» ⟨[.ref x, .str f tk], []⟩) Q E ⟨h, g, d, t, os⟩ := by
  have mr := GF.mro
  have no := XC.no f hf
  have hC := XC.obj
  have hN := XC.ns
  unfold Builtin.«object.__getattribute__» slotArgs
  repeat (first | (with_reducible refine wpAny_loadPart_at hx ?_; rw [hc]) | (with_reducible refine wpAny_typeLookup_exc hC hN mr hB ?_; rw [no]) | wp_step)
  split
  · rename_i c z
    rw [hv] at z; cases z
  unfold instanceDict
  repeat (first | (with_reducible refine wpAny_loadPart_at hx ?_; rw [hc]) | with_reducible refine wpAny_loadPart_at hC ?_ | wp_step)
  rw [hd]
  repeat (first | (with_reducible refine wpAny_nsGet hn ?_; rw [hA]) | wp_step)
  exact hq
theorem xget_call {tk : Tok} {ga owner : String} {o : Obj} {vs : Array Value} {dx : Addr} {mA : Str → Option Value} {R : Result → Shared → Prop} (GF : GetX ga owner) (XC : XAt h C fI fs nm q N bs sn sub ab col dd k0 k1 k2 k3 k5 mN) (hf : f ∈ fs)
    (hB : typeLookup (.type "Exception") f = pure none) (hx : h.get? x = some o) (hc : o.cls = .ref C) (hd : o.dict = some dx) (hv : o.data = .fields vs) (hn : h.Ns dx mA) (hA : mA f = some v) (hq : R (.ok (.ret v)) ⟨h, g, d, t, os⟩) :
    codeAny (model prog w) A (.call (.builtin ga) ⟨[.ref x, .str f tk], []⟩) R ⟨h, g, d, t, os⟩ := by
  have hC := XC.obj
  have hcB : (Value.ref C :: mroX).contains (.type owner) = true := by rw [List.contains_cons, GF.has, Bool.or_true]
  have sub : PySem.W.Looks (model prog w) h (isInstance (.ref x) (.type owner)) true := fun A' Q' E' s' k z => by
    obtain ⟨h1, g1, d1, t1, os1⟩ := s'
    unfold isInstance
    have hx1 := k _ _ hx
    have hC1 := k _ _ hC
    repeat (first | (with_reducible refine wpAny_loadPart_at hx1 ?_; rw [hc]) | (with_reducible refine wpAny_isSubtype_exc hC1 ?_; rw [hcB]) | wp_step)
    exact z
  refine codeAny_call_builtin GF.slot.plain GF.entry (PySem.W.check_slot GF.kind GF.split sub (GF.args (.ref x) (.str f tk)) ?_)
  exact xget_entry GF XC hf hB hx hc hd hv hn hA hq
theorem xget {expr : Bool} {ga owner : String} {o : Obj} {vs : Array Value} {dx : Addr} {mA : Str → Option Value} {Q : Value → Shared → Prop} (GF : GetX ga owner) (XC : XAt h C fI fs nm q N bs sn sub ab col dd k0 k1 k2 k3 k5 mN) (hf : f ∈ fs)
    (hB : typeLookup (.type "Exception") f = pure none) (hx : h.get? x = some o) (hc : o.cls = .ref C) (hd : o.dict = some dx) (hv : o.data = .fields vs) (hn : h.Ns dx mA) (hA : mA f = some v) (hh : handedOut v = pure v) (hq : Q v ⟨h, g, d, t + 1, os⟩) :
    wpAny (model prog w) A (getAttr (.ref x) f expr) Q E ⟨h, g, d, t, os⟩ := by
  have hC := XC.obj
  have hN := XC.ns
  have nga := XC.ga
  have ngh := XC.gh
  have mr := GF.mro
  have lk := GF.slot.lookup
  have hk := GF.hook
  have bd := GF.slot.bind (.ref x)
  unfold getAttr getAttrBy
  refine wpAny_bind (wpAny_mkText (wpAny_holding ?_))
  repeat (first | (with_reducible refine wpAny_loadPart_at hx ?_; rw [hc]) | (with_reducible refine wpAny_typeLookup_exc hC hN mr lk ?_; rw [nga]) | wp_step)
  have oth : (onTheHeap (Value.ref C) && Value.builtin ga == Value.builtin "object.__getattribute__") = false := by
    rw [Bool.and_eq_false_iff]
    exact .inr (by rw [beq_eq_false_iff_ne]; intro z; injection z with z; rw [z] at GF; exact absurd GF.other (by decide))
  dsimp only
  rw [oth, if_neg Bool.false_ne_true]
  unfold getAttrByItsOwn
  refine wpAny_bind ?_
  show wpAny _ _ (typeLookup (.ref C) "__getattr__") _ _ _
  refine wpAny_typeLookup_exc hC hN mr hk ?_
  rw [ngh]
  refine wpAny_bind (wpAny_attempt (wpAny_holding ?_))
  unfold callGetattribute
  rw [if_neg (by cases expr <;> simp [onTheHeap])]
  unfold boundAndCalled
  rw [bd]
  refine wpAny_bind (wpAny_pure ?_)
  show wpAny _ _ (call (.builtin ga) [.ref x, .str f t]) _ _ _
  refine wpAny_call (xget_call GF XC hf hB hx hc hd hv hn hA ?_)
  show wpAny _ _ (handedOut v) _ _ _
  rw [hh]
  exact wpAny_pure hq
end
end L2
set_option Elab.async false
set_option linter.all false
set_option maxRecDepth 100000
set_option maxHeartbeats 4000000
namespace L2
open PySem PySem.Spec PyProof.Rows
open PySem.Builtin PySem.Builtin.ObjectAttr
def excO (x C : Addr) (dv : Option Addr) : HO := .ext fun h => XObj h x (.ref C) dv .none
def xdO (dx : Addr) (fs : List (Str × V)) : HO := .ext fun h => ∃ mA, h.Ns1 dx mA ∧ (∀ f, RelO (fs.lookup f) (mA f)) ∧ PySem.Within mA (fs.map (·.1))
theorem XObj.at {h h' : Heap} {x : Addr} {c tb : Value} {dv : Option Addr} (e : XObj h x c dv tb) (k : ∀ o, h.get? x = some o → h'.get? x = some o) : XObj h' x c dv tb := by
  obtain ⟨o, vs, a, r⟩ := e
  exact ⟨o, vs, k o a, r⟩
section
variable {P : Program} {w : World} {H : Hp} {h : Heap} {a x dx C : Addr} {o : HO} {fs : List (Str × V)}
theorem excO_ok {dv : Option Addr} (e : XObj h x (.ref C) dv .none) : ObjOk P w H h x (excO x C dv) := by
  refine ⟨e, ?_, fun h1 h2 p k => p.at k⟩
  obtain ⟨o, _, q, _⟩ := e
  exact ⟨o, q⟩
theorem excO_get {dv : Option Addr} (hok : HOk P w H h) (e : H x = some (excO x C dv)) : XObj h x (.ref C) dv .none := (hok x _ e).1
theorem xdO_ok {mA : Str → Option Value} (n : h.Ns1 dx mA) (r : ∀ f, RelO (fs.lookup f) (mA f)) (wi : PySem.Within mA (fs.map (·.1))) : ObjOk P w H h dx (xdO dx fs) := by
  refine ⟨⟨mA, n, r, wi⟩, ?_, fun h1 h2 ⟨m, n1, r1⟩ k => ⟨m, n1.at k, r1⟩⟩
  obtain ⟨o, _, _, q, _⟩ := n
  exact ⟨o, q⟩
theorem xdO_get (hok : HOk P w H h) (e : H dx = some (xdO dx fs)) : ∃ mA, h.Ns1 dx mA ∧ (∀ f, RelO (fs.lookup f) (mA f)) ∧ PySem.Within mA (fs.map (·.1)) := (hok dx _ e).1
theorem ObjOk.there (e : ObjOk P w H h a o) : ∃ u, h.get? a = some u := by
  cases o with
  | lst xs => obtain ⟨_, _, _, _, e⟩ := e; exact ⟨_, e⟩
  | tup xs => obtain ⟨_, _, _, o, e, _⟩ := e; exact ⟨_, e⟩
  | dK kvs => obtain ⟨_, _, _, _, o, _, _, e, _⟩ := e; exact ⟨_, e⟩
  | dT kvs => obtain ⟨_, _, _, _, o, _, _, e, _⟩ := e; exact ⟨_, e⟩
  | set S n => obtain ⟨o, _, _, _, e, _⟩ := e; exact ⟨_, e⟩
  | ins C dx fs => obtain ⟨_, _, _, e, _⟩ := e; exact ⟨_, e⟩
  | own y => exact e
  | xd fs => obtain ⟨_, ⟨_, _, _, e, _⟩, _⟩ := e; exact ⟨_, e⟩
  | rng lo hi => obtain ⟨_, _, _, e⟩ := e; exact ⟨_, e⟩
  | frz ob u => obtain ⟨e, _⟩ := e; exact ⟨_, e⟩
  | tbl ps => exact ⟨_, (show h.get? a = some _ from e)⟩
  | met f y => exact ⟨_, (show h.get? a = some _ from e)⟩
  | ext φ => obtain ⟨_, e, _⟩ := e; exact e
theorem HOk.none_of (hok : HOk P w H h) (e : h.get? a = none) : H a = none := by
  cases q : H a with
  | none => rfl
  | some u =>
    obtain ⟨v, z⟩ := (hok a u q).there
    rw [e] at z; cases z
end
section
variable {P : Program} {w : World} {fs ex : List Addr} {H H' : Hp} {h h' : Heap} {a : Addr} {o : HO}
theorem HOk.laidG (e : HOk P w H h) (k : ∀ b u, h.get? b = some u → h'.get? b = some u) (hn : H a = none) (new : ObjOk P w (upd H a o) h' a o) : HOk P w (upd H a o) h' := fun b u q => by
  by_cases hb : b = a
  · subst hb; rw [upd_same] at q; cases q; exact new
  · rw [upd_ne hb] at q
    exact (e b u q).stay (fun c v _ z => k c v z) (fun c z => by rw [upd_ne (ne_of_none z hn)]; exact z) fun c xs z => by rw [upd_ne (ne_of_none z hn)]; exact z
theorem Un.laidG (k : ∀ b u, h.get? b = some u → h'.get? b = some u) (hp : h.get? a = none) (hn : H a = none) : Un fs ex H (upd H a o) h h' where
  keep := fun b u q _ _ _ => k b u q
  slot := fun b u q _ _ _ => ⟨u.slots, k b u q⟩
  free := fun b u q n _ => by
    rw [upd_ne fun z => by rw [z, hp] at q; cases q]
    exact n
  there := fun b u q _ => ⟨u, k b u q⟩
  tups := fun b xs q => by rw [upd_ne (ne_of_none q hn)]; exact q
  frzs := fun b u xs q => by rw [upd_ne (ne_of_none q hn)]; exact q
  tbls := fun b ps q => ⟨#[], by rw [upd_ne (ne_of_none q hn), q]; simp⟩
def del (H : Hp) (a : Addr) : Hp := fun b => if b = a then none else H b
theorem del_same : del H a a = none := by unfold del; rw [if_pos rfl]
theorem del_ne {b : Addr} (e : b ≠ a) : del H a b = H b := by unfold del; rw [if_neg e]
theorem del_none {b : Addr} (e : H b = none) : del H a b = none := by
  unfold del
  split
  · rfl
  · exact e
end
section
variable {X : Cx} {pins : List (Addr × Obj)} {σ : St} {H H' : Hp} {s : Shared} {h' : Heap} {a : Addr} {o : HO}
theorem Inv.laidG {t' : Nat} (I : Inv X pins σ H s) (k : ∀ b u, s.heap.get? b = some u → h'.get? b = some u) (hp : s.heap.get? a = none) (new : ObjOk X.prog X.w (upd H a o) h' a o) :
    Inv X pins σ (upd H a o) { s with heap := h', toks := t' } := I.un (Un.laidG k hp (I.hok.none_of hp)) (I.hok.laidG k (I.hok.none_of hp) new)
theorem Inv.newer (I : Inv X pins σ H s) (hx : X.ex = []) (e : s.heap.get? a = none) : X.s_0.heap.get? a = none := by
  cases q : X.s_0.heap.get? a with
  | none => rfl
  | some u =>
    obtain ⟨v, z⟩ := I.base.there a u q (by rw [hx]; simp)
    rw [e] at z; cases z
structure Fresh (X : Cx) (pins : List (Addr × Obj)) (b : Addr) : Prop where
  old : X.s_0.heap.get? b = none
  loc : b ≠ X.env.locals
  fs : b ∉ X.fs
  cell : ∀ x c, X.env.cells.lookup x = some c → c ≠ b
  pin : ∀ p ∈ X.pn ++ pins, p.1 ≠ b
theorem Inv.freshG (I : Inv X pins σ H s) (hx : X.ex = []) (e : s.heap.get? a = none) : Fresh X pins a := by
  refine ⟨I.newer hx e, fun z => ?_, fun z => ?_, fun x c q z => ?_, fun p hp z => ?_⟩
  · obtain ⟨m, ⟨o, _, _, q, _⟩, _⟩ := I.loc
    rw [← z, e] at q; cases q
  · obtain ⟨_, o, q, _⟩ := I.funs.mem z
    rw [e] at q; cases q
  · obtain ⟨v, o, q', _⟩ := I.cell x c q
    rw [z, e] at q'; cases q'
  · have q := (I.pin p hp).1
    rw [z, e] at q; cases q
theorem Inv.stepG {ch : List Addr} (I : Inv X pins σ H s) (hx : X.ex = []) (hch : ∀ b ∈ ch, Fresh X pins b ∧ H b = none)
    (keep : ∀ b o, b ∉ frs X.stack → b ∉ ch → s.heap.get? b = some o → h'.get? b = some o) (slot : ∀ b o, b ∉ ch → s.heap.get? b = some o → ∃ sl, h'.get? b = some { o with slots := sl })
    (there : ∀ b o, s.heap.get? b = some o → ∃ o', h'.get? b = some o') : Inv X pins σ H { s with heap := h' } := by
  have nex : ∀ b, b ∉ X.ex := fun b z => by rw [hx] at z; cases z
  have nch : ∀ b u, H b = some u → b ∉ ch := fun b u q z => by rw [(hch b z).2] at q; cases q
  have och : ∀ b u, X.s_0.heap.get? b = some u → b ∉ ch := fun b u q z => by rw [(hch b z).1.old] at q; cases q
  have nst : ∀ b u, H b = some u → b ∉ frs X.stack := fun b u q z => by rw [I.stkFree b z] at q; cases q
  have fsk : ∀ b o, b ∉ X.fs → X.s_0.heap.get? b = some o → b ∉ frs X.stack := fun b o hb q z => by
    rcases List.mem_cons.mp (I.stkSub b z) with e | e
    · exact absurd (Nat.lt_of_lt_of_le (Heap.lt_size q) I.ok.above) (by rw [e]; exact Nat.lt_irrefl _)
    · exact hb e
  have hok : HOk X.prog X.w H h' := fun b u q => by
    refine (I.hok b u q).stay (fun c v hc z => ?_) (fun _ z => z) fun _ _ z => z
    rcases hc with rfl | hc
    · exact keep c v (nst c u q) (nch c u q) z
    · exact keep c v (nst c _ hc) (nch c _ hc) z
  refine ⟨I.ok, I.os, I.bare, ⟨fun b o e n hb _ => ?_, fun b o e n hb _ => ?_, I.base.free, fun b o e _ => ?_, I.base.tups, I.base.frzs, I.base.tbls⟩, ?_, fun x c e => ?_, I.free, I.freeC, fun p hp => ?_, hok, I.len⟩
  · exact keep b o (fsk b o hb e) (och b o e) (I.base.keep b o e n hb (nex b))
  · obtain ⟨sl, e1⟩ := I.base.slot b o e n hb (nex b)
    obtain ⟨sl', e2⟩ := slot b _ (och b o e) e1
    exact ⟨sl', e2⟩
  · obtain ⟨o', e1⟩ := I.base.there b o e (nex b)
    exact there b o' e1
  · obtain ⟨m, ⟨o, es, ep, ho, r⟩, hl⟩ := I.loc
    obtain ⟨sl, e1⟩ := slot X.env.locals o (fun z => (hch _ z).1.loc rfl) ho
    refine ⟨m, ⟨_, es, ep, e1, r⟩, fun i x v e2 e3 e4 => ?_⟩
    obtain ⟨u, ru, l⟩ := hl i x v e2 e3 e4
    refine ⟨u, ru, ?_⟩
    rcases l with l | ⟨k, c, ec, oc, hc, hd⟩
    · exact .inl l
    · obtain ⟨sl, q⟩ := slot c oc (fun z => (hch _ z).1.cell x c ec rfl) hc
      exact .inr ⟨k, c, ec, _, q, hd⟩
  · obtain ⟨v, oc, hc, hd⟩ := I.cell x c e
    obtain ⟨sl, q⟩ := slot c oc (fun z => (hch _ z).1.cell x c e rfl) hc
    exact ⟨v, _, q, hd⟩
  · obtain ⟨e, n, ne, nf, d⟩ := I.pin p hp
    refine ⟨keep p.1 p.2 (fun z => ?_) (fun z => (hch _ z).1.pin p hp rfl) e, n, ne, nf, d⟩
    rcases List.mem_cons.mp (I.stkSub p.1 z) with q | q
    · exact ne q
    · exact nf q
end
end L2
set_option Elab.async false
set_option linter.all false
set_option maxRecDepth 100000
set_option maxHeartbeats 4000000
namespace L2
open PySem PySem.Spec PyProof.Rows
open PySem.Builtin PySem.Builtin.ObjectAttr
def CX1 (P : Program) (w : World) : CXT := fun outer H s E e s' =>
  ∃ (x dx T C : Addr) (H' : Hp), e = .ref x ∧ s'.os = s.os ∧ AllBare s'.gens ∧ Un (frs outer) [] H H' s.heap s'.heap ∧ HOk P w H' s'.heap ∧
    XObj s'.heap x (.ref C) (some dx) (.ref T) ∧ TbAt s'.heap T ∧ T ≠ x ∧ H' x = none ∧ H' T = none ∧ s.heap.get? x = none ∧ s.heap.get? T = none ∧ E (.ref C) (some dx) H'
def TbX (X : Cx) (pins : List (Addr × Obj)) (H : Hp) (h : Heap) (x : Addr) (tb : Value) : Prop :=
  tb = .none ∨ ∃ T, tb = .ref T ∧ T ≠ x ∧ TbAt h T ∧ Fresh X pins T ∧ H T = none
def Throws (X : Cx) (E : XK) : Prop := ∀ (pins : List (Addr × Obj)) (σ : St) (H : Hp) (s : Shared) (x dx C : Addr) (tb : Value), Inv X pins σ H s → XObj s.heap x (.ref C) (some dx) tb → Fresh X pins x → H x = none → TbX X pins H s.heap x tb →
  E (.ref C) (some dx) H → X.xe (.ref x) s
structure InDef (X : Cx) : Prop where
  ex : X.ex = []
  st : X.stack = X.env :: X.outer
  fr : X.env.frame = some X.env.locals
section
variable {X : Cx} {pins : List (Addr × Obj)} {σ : St} {H : Hp} {s : Shared} {x dx C : Addr} {tb : Value} {E : XK}
theorem Inv.away {M : Model} {E : Value → Shared → Prop} {Q : Unit → Shared → Prop} (I : Inv X pins σ H s) (D : InDef X) (xo : XObj s.heap x (.ref C) (some dx) tb) (fx : Fresh X pins x) (nx : H x = none) (ht : TbX X pins H s.heap x tb)
    (h : ∀ h' T, s.heap.objs.size ≤ T → XObj h' x (.ref C) (some dx) (.ref T) → TbAt h' T → T ≠ x → Inv X pins σ H { s with heap := h' } → Q () { s with heap := h' }) :
    wpAny M X.A (noteFrame (.ref x) X.env) (fun _ s1 => wpAny M X.A (setFlight (.ref x) none) Q E s1) E s := by
  have st := I.stack
  have lx : x < s.heap.objs.size := by
    obtain ⟨_, _, q, _⟩ := xo
    exact Heap.lt_size q
  rw [D.st] at st
  have ha : X.A.frames = some (X.env :: X.outer) := by rw [← D.st]; exact I.ok.frames
  refine leave_x ha st D.fr xo (ht.imp (fun z => z) fun ⟨T, a, b, c, _⟩ => ⟨T, a, b, c⟩) fun h' T l1 a1 a2 k1 k2 k3 => ?_
  refine h h' T l1 a1 a2 (Nat.ne_of_gt (Nat.lt_of_lt_of_le lx l1)) ?_
  rcases ht with e | ⟨U, e, ne, tU, fU, nU⟩
  · subst e
    refine I.stepG (ch := [x]) D.ex (fun b hb => ?_) (fun b o hs hc q => k1 b o ⟨fun z => hc (by simp [z]), fun z => nomatch z⟩ (by rw [← D.st]; exact hs) q) (fun b o hc q => k2 b o ⟨fun z => hc (by simp [z]), fun z => nomatch z⟩ q) k3
    have e : b = x := by simpa using hb
    subst e
    exact ⟨fx, nx⟩
  · subst e
    refine I.stepG (ch := [x, U]) D.ex (fun b hb => ?_) (fun b o hs hc q => k1 b o ⟨fun z => hc (by simp [z]), fun z => hc (by injection z with z; simp [z])⟩ (by rw [← D.st]; exact hs) q)
      (fun b o hc q => k2 b o ⟨fun z => hc (by simp [z]), fun z => hc (by injection z with z; simp [z])⟩ q) k3
    rcases List.mem_cons.mp hb with e | e
    · subst e; exact ⟨fx, nx⟩
    · have e : b = U := by simpa using e
      subst e
      exact ⟨fU, nU⟩
theorem throws_def {P : Program} {w : World} {K : PySem.W.Frag} {mg : Str → Option Value} {base : Heap} {N : List Str} {qual : Str} {scope : Scope} {f : Addr} {cd : Value} {A : Around} {outer : List Env} {s0 : Shared} {H0 : Hp} :
    Throws (cxOf (CX1 P w) P w K mg base N qual scope f cd A outer s0 H0 E) E := by
  intro pins σ H s x dx C tb I xo fx nx ht he
  show wpAny _ _ (leaving _ _) _ _ _
  unfold leaving
  refine wpAny_bind (Inv.away I ⟨rfl, rfl, rfl⟩ xo fx nx ht fun h' T l1 a1 a2 ne I2 => ?_)
  exact ⟨x, dx, T, C, H, rfl, I2.os, I2.bare, I2.base, I2.hok, a1, a2, ne, nx, I.hok.fresh l1, fx.old, (Heap.get?_none_of_le (Nat.le_trans I.sz l1)), he⟩
theorem indef_cx {CX : CXT} {P : Program} {w : World} {K : PySem.W.Frag} {mg : Str → Option Value} {base : Heap} {N : List Str} {qual : Str} {scope : Scope} {f : Addr} {cd : Value} {A : Around} {outer : List Env} {s0 : Shared} {H0 : Hp} :
    InDef (cxOf CX P w K mg base N qual scope f cd A outer s0 H0 E) := ⟨rfl, rfl, rfl⟩
theorem Throws.passes (T : Throws X E) (D : InDef X) : Passes (CX1 X.prog X.w) X E := by
  intro pins σ H s e s' I ⟨x, dx, U, C, H', q, os, bare, un, hok, xo, tu, ne, nx, nU, fx, fU, he⟩
  subst q
  have I2 : Inv X pins σ H' s' := I.call' os un hok bare fun b z => nomatch z
  exact T pins σ H' s' x dx C _ I2 xo (I.freshG D.ex fx) nx (.inr ⟨U, rfl, ne, tu, I.freshG D.ex fU, nU⟩) he
theorem passes_own {P : Program} {w : World} {K : PySem.W.Frag} {mg : Str → Option Value} {base : Heap} {N : List Str} {qual : Str} {scope : Scope} {f : Addr} {cd : Value} {A : Around} {outer : List Env} {s0 : Shared} {H0 : Hp} :
    PassesOwn (model P w) (cxOf (CX1 P w) P w K mg base N qual scope f cd A outer s0 H0 E).A (cxOf (CX1 P w) P w K mg base N qual scope f cd A outer s0 H0 E).env (cxOf (CX1 P w) P w K mg base N qual scope f cd A outer s0 H0 E).xe := PassesOwn.leaving
def Ext (o : Option HO) : Prop := ∃ φ, o = some (.ext φ)
theorem Inv.del (I : Inv X pins σ H s) (e : Ext (H x)) : Inv X pins σ (del H x) s := by
  obtain ⟨φ, e⟩ := e
  have no : ∀ b u, H b = some u → (∀ φ, u ≠ .ext φ) → L2.del H x b = some u := fun b u q nu => by
    rw [del_ne fun z => by subst z; rw [q] at e; cases e; exact nu _ rfl]
    exact q
  have un : Un X.fs [] H (L2.del H x) s.heap s.heap := ⟨fun b o q _ _ _ => q, fun b o q _ _ _ => ⟨o.slots, q⟩, fun b o _ n _ => del_none n, fun b o q _ => ⟨o, q⟩, fun b xs q => no b _ q (by intro _ z; cases z),
    fun b o u q => no b _ q (by intro _ z; cases z), fun b ps q => ⟨#[], by rw [no b _ q (by intro _ z; cases z)]; simp⟩⟩
  refine I.un (t' := s.toks) un fun b u q => ?_
  have hb : b ≠ x := fun z => by rw [z, del_same] at q; cases q
  rw [del_ne hb] at q
  exact (I.hok b u q).stay (fun _ _ _ z => z) (fun c z => no c _ z (by intro _ z; cases z)) fun c xs z => no c _ z (by intro _ z; cases z)
end
def spInit (C : Addr) (flds : List Str) : Sp := fun vs H Q _ => ∃ x rest, vs = .ref x :: rest ∧ rest.length = flds.length ∧ H x = some (excO x C none) ∧
  ∀ dx, H dx = none → dx ≠ x → Q .non (upd (upd H dx (xdO dx (flds.zip rest))) x (excO x C (some dx)))
section
variable {M : Model} {A : Around} {E : Value → Shared → Prop} {s : Shared} {env : Env}
theorem raiseStmt_x {x : Sem Value} {Q : Flow → Shared → Prop} (hh : A.handled = none)
    (h : wpAny M A x (fun v s1 => ∃ (e C fI : Addr) (fs : List Str) (nm q : Str) (N : Addr) (bs : List Value) (sn : List Str) (sub : List Value) (ab : Bool) (col : Option Bool) (dd : Option Addr) (k0 k1 k2 k3 k5 : Option Value) (mN : Str → Option Value) (dv : Option Addr),
      v = .ref e ∧ XAt s1.heap C fI fs nm q N bs sn sub ab col dd k0 k1 k2 k3 k5 mN ∧ XObj s1.heap e (.ref C) dv .none ∧ E (.ref e) s1) E s) :
    wpAny M A (raiseStmt env (some x) none) Q E s := by
  unfold raiseStmt
  refine wpAny_bind (wpAny_mono h (fun v s1 h1 => ?_) fun _ _ z => z)
  obtain ⟨e, C, fI, fs, nm, q, N, bs, sn, sub, ab, col, dd, k0, k1, k2, k3, k5, mN, dv, rfl, XC, ⟨o, vs, ge, c1, c2, c3, c4, c5⟩, hE⟩ := h1
  obtain ⟨oc, od, odt, osl⟩ := o
  dsimp only at c1 c2 c3
  subst c1 c2 c3
  have hC := XC.obj
  have hcB : (Value.ref C :: mroX).contains (.type "BaseException") = true := by rw [List.contains_cons, (show mroX.contains (.type "BaseException") = true by decide +kernel), Bool.or_true]
  obtain ⟨hp, g, d, tk, os⟩ := s1
  repeat (first | with_reducible refine wpAny_loadPart_at ge ?_ | with_reducible refine wpAny_loadPart_at hC ?_ | (with_reducible refine wpAny_isSubtype_exc hC ?_; rw [hcB]) | wp_step)
  rw [c4]
  refine wpAny_pure ?_
  rw [if_neg (by decide)]
  exact wpAny_pure (wpAny_raiseNew_none hh hE)
section
variable {X : Cx} {C fI : Addr} {fs flds : List Str} {fd : FuncData} {ps : List Str} {n : Str} {np pos cpos : Pos} {e : Expr} {es : List Expr} {t : TA} {E : XK} {k : Nat}
def tRaise (C : Addr) (flds : List Str) (E : XK) (t : TA) : TS := fun _ σ H => t σ H fun vs H1 => vs.length = flds.length ∧ ∀ dx, H1 dx = none → E (.ref C) (some dx) (upd H1 dx (xdO dx (flds.zip vs)))
theorem ps_raise (hc : X.calm = true) (D : InDef X) (T : Throws X E) (F : FnOk X.prog X.w X.K X.mg X.base CX0 k fI fd ps (spInit C flds)) (hr : Room (k + 1) X.A) (hz : flds.length ≤ 1000) (hg : Gl X n) (hm : X.mg n = some (.ref C)) (hx : xclsIn X.K C fI fs = true)
    (hkp : PySem.W.keepIn X.K (.ref C) = true) (hfn : PySem.W.isFn X.K (.ref fI) = true) (hb : Binds X.K fd ps []) (ha : PA X (e :: es) t) (hdb : (n == ("__debug__" : Str)) = false := by decide)
    (he : starEach (e :: es) X.env = (false, eval e X.env) :: starEach es X.env := by rfl) (hpl : (backTo cpos (starEach es X.env)).any (·.1) = false := by rfl) :
    PS X (.Raise (some (.Call (.Name n np) (e :: es) [] cpos)) none pos) (tRaise C flds E t) := by
  intro pins s σ H D' I h
  have hd := I.ok.hd hc
  rw [arm_exec_Raise]
  refine wpAny_bind (wpAny_standAt ?_)
  show wpAny _ _ (raiseStmt X.env (some (do let v ← eval (.Call (.Name n np) (e :: es) [] cpos) X.env; standAt pos; pure v)) none) _ _ _
  refine raiseStmt_x hd (wpAny_bind (thn (Q := fun v s1 => ∃ x dx H1, v = .ref x ∧ Inv X pins σ H1 s1 ∧ H1 x = some (excO x C (some dx)) ∧ Fresh X pins x ∧ E (.ref C) (some dx) (L2.del H1 x)) ?_ fun v s1 h1 => wpAny_bind (wpAny_standAt (wpAny_pure ?_))))
  · refine wpAny_Call_Name_kw (ld_glob I hg hm ?_ hdb)
    refine PySem.W.callWith_K (h₀ := X.base) I.ok.mod.kin hkp (thn (ha cpos pins s σ H _ I h) fun us s1 ⟨vs, H1, I1, r, q, q2⟩ => ⟨I1.kIn, ?_⟩) he hpl
    obtain ⟨nm, qn, N, bs, sn, sub, ab, col, dd, k0, k1, k2, k3, k5, mN, XC⟩ := xcls_of I1.kIn hx
    obtain ⟨oI, lI, cI⟩ := Option.map_eq_some_iff.mp (beq_iff_eq.mp hfn : PySem.W.typeIn X.K (.ref fI) = some (.type "function"))
    have lenU : us.length = flds.length := by rw [← r.length]; exact q
    obtain ⟨hh, gg, dd', tt, oo⟩ := s1
    refine wpAny_call_exc_init (hrest := by rw [sizeLine_eq, List.nil_append, lenU]; omega) PySem.F.excBase_Exception XC.obj XC.ns XC.init (I1.kIn _ _ lI) cI fun h' x made => ?_
    obtain ⟨tp, gx, _, _⟩ := made.there
    have nx : H1 x = none := I1.hok.none_of made.new
    have I2 : Inv X pins σ (upd H1 x (excO x C none)) ⟨h', gg, dd', tt, oo⟩ := I1.laidG (t' := tt) made.keeps made.new (excO_ok ⟨_, _, gx, rfl, rfl, rfl, rfl, rfl⟩)
    have sp : spInit C flds (.ref x :: vs) (upd H1 x (excO x C none)) (fun v H3 => v = .non ∧ ∃ dx, H1 dx = none ∧ dx ≠ x ∧ H3 = upd (upd (upd H1 x (excO x C none)) dx (xdO dx (flds.zip vs))) x (excO x C (some dx))) E0 :=
      ⟨x, vs, rfl, q, upd_same, fun dx h1 h2 => ⟨rfl, dx, by rw [upd_ne h2] at h1; exact h1, h2, rfl⟩⟩
    have r2 : Vals (V.ref x :: vs) (Value.ref x :: us) := .cons rfl r
    have hl : (Value.ref x :: us ++ []).length = ps.length := by
      have e1 := r2.length
      rw [F.len _ _ _ _ sp] at e1
      rw [List.append_nil]
      exact e1.symm
    have hb2 := hb ⟨h', gg, dd', tt, oo⟩ (Value.ref x :: us) I2.kIn hl
    rw [List.append_nil] at hb2
    refine wpAny_call (codeAny_mono (F.run _ X.stack _ _ ⟨Value.ref x :: us, []⟩ (Value.ref x :: us) _ _ E0 (hr.make C us []) (I2.env0.make C us []) hb2 r2 sp) fun r' s' hq' => ?_)
    cases r' with
    | error z => exact False.elim hq'
    | ok fl =>
      cases fl with
      | ret u =>
        obtain ⟨v, H', I3, rv, ev, dx, d1, d2, eH⟩ := I2.after hq'
        subst ev eH
        refine ⟨rv, x, dx, _, rfl, I3, upd_same, I1.freshG D.ex made.new, ?_⟩
        have e2 : L2.del (upd (upd (upd H1 x (excO x C none)) dx (xdO dx (flds.zip vs))) x (excO x C (some dx))) x = upd H1 dx (xdO dx (flds.zip vs)) := by
          funext b
          by_cases hbx : b = x
          · rw [hbx, del_same, upd_ne (Ne.symm d2), nx]
          · rw [del_ne hbx, upd_ne hbx]
            by_cases hbd : b = dx
            · rw [hbd, upd_same, upd_same]
            · rw [upd_ne hbd, upd_ne hbd, upd_ne hbx]
        rw [e2]
        exact q2 dx d1
      | next => exact False.elim hq'
      | brk => exact False.elim hq'
      | cont => exact False.elim hq'
  · obtain ⟨x, dx, H1, rfl, I1, ex, fx, he⟩ := h1
    obtain ⟨nm, qn, N, bs, sn, sub, ab, col, dd, k0, k1, k2, k3, k5, mN, XC⟩ := xcls_of I1.kIn hx
    have xo := excO_get I1.hok ex
    exact ⟨x, C, fI, fs, nm, qn, N, bs, sn, sub, ab, col, dd, k0, k1, k2, k3, k5, mN, some dx, rfl, XC, xo, T pins σ _ s1 x dx C .none (I1.del ⟨_, ex⟩) xo fx del_same (.inl rfl) he⟩
end
end
end L2
set_option Elab.async false
set_option linter.all false
set_option maxRecDepth 100000
set_option maxHeartbeats 4000000
namespace L2
open PySem PySem.Spec PyProof.Rows
open PySem.Builtin PySem.Builtin.ObjectAttr
theorem upd_comm {H : Hp} {a b : Addr} {o u : HO} (e : a ≠ b) : upd (upd H a o) b u = upd (upd H b u) a o := by
  funext c
  by_cases ca : c = a
  · subst ca
    rw [upd_ne e, upd_same, upd_same]
  · by_cases cb : c = b
    · subst cb
      rw [upd_same, upd_ne ca, upd_same]
    · rw [upd_ne cb, upd_ne ca, upd_ne ca, upd_ne cb]
section
variable {X : Cx} {pins : List (Addr × Obj)} {σ : St} {H : Hp} {s : Shared} {a x dx C fI : Addr} {o : HO} {f : Str} {fs : List Str} {y : V} {u : Value} {A : Around} {E : Value → Shared → Prop}
theorem Inv.track (I : Inv X pins σ H s) (fr : Fresh X pins a) (hn : H a = none) (new : ObjOk X.prog X.w (upd H a o) s.heap a o) : Inv X pins σ (upd H a o) s := by
  have ne : ∀ b u, H b = some u → b ≠ a := fun b u q => ne_of_none q hn
  refine ⟨I.ok, I.os, I.bare, ⟨I.base.keep, I.base.slot, fun b u q n hx => ?_, I.base.there, fun b xs q => ?_, fun b ob w q => ?_, fun b ps q => ?_⟩, I.loc, I.cell, ?_, fun z c e => ?_, fun p hp => ?_, fun b w q => ?_, I.len⟩
  · rw [upd_ne fun z => by rw [z, fr.old] at q; cases q]
    exact I.base.free b u q n hx
  · have q' := I.base.tups b xs q
    rw [upd_ne (ne b _ q')]; exact q'
  · have q' := I.base.frzs b ob w q
    rw [upd_ne (ne b _ q')]; exact q'
  · obtain ⟨m, q'⟩ := I.base.tbls b ps q
    exact ⟨m, by rw [upd_ne (ne b _ q')]; exact q'⟩
  · rw [upd_ne (Ne.symm fr.loc)]; exact I.free
  · rw [upd_ne (fr.cell z c e)]; exact I.freeC z c e
  · obtain ⟨e, n, r⟩ := I.pin p hp
    exact ⟨e, by rw [upd_ne (fr.pin p hp)]; exact n, r⟩
  · by_cases hb : b = a
    · subst hb; rw [upd_same] at q; cases q; exact new
    · rw [upd_ne hb] at q
      exact (I.hok b w q).stay (fun _ _ _ z => z) (fun c z => by rw [upd_ne (ne c _ z)]; exact z) fun c xs z => by rw [upd_ne (ne c _ z)]; exact z
theorem setx1_ok {Q : Unit → Shared → Prop} (I : Inv X pins σ H s) (D : InDef X) (e : H x = some (excO x C none)) (hx : xclsIn X.K C fI fs = true) (hf : f ∈ fs) (hB : typeLookup (.type "Exception") f = pure none) (ry : RelV y u)
    (h : ∀ dx s', H dx = none → dx ≠ x → Inv X pins σ (upd (upd H dx (xdO dx [(f, y)])) x (excO x C (some dx))) s' → Q () s') : wpAny (model X.prog X.w) A (setAttr (.ref x) f u) Q E s := by
  obtain ⟨nm, qn, N, bs, sn, sub, ab, col, dd, k0, k1, k2, k3, k5, mN, XC⟩ := xcls_of I.kIn hx
  obtain ⟨ob, vs, g0, g1, g2, g3, g4, g5⟩ := excO_get I.hok e
  have fr : Fresh X pins s.heap.objs.size := I.freshG D.ex (Heap.get?_none_of_le (Nat.le_refl _))
  have nd : H s.heap.objs.size = none := I.hok.fresh (Nat.le_refl _)
  have ne : s.heap.objs.size ≠ x := Nat.ne_of_gt (Heap.lt_size g0)
  obtain ⟨hh, gg, dr, tt, oo⟩ := s
  refine xset1 XC hf hB g0 g1 g2 g3 fun h' tk' a1 a2 a3 => h hh.objs.size _ nd ne ?_
  rw [upd_comm ne]
  have I1 : Inv X pins σ (upd H x (excO x C (some hh.objs.size))) ⟨h', gg, dr, tk', oo⟩ :=
    I.write (x := x) (e := x) (t' := tk') (by rw [e]; exact True.intro) (.inl rfl) (fun b w hb q => a3 b w hb q) ⟨_, a1⟩ (excO_ok ⟨_, vs, a1, g1, rfl, g3, g4, g5⟩)
  refine I1.track fr (by rw [upd_ne ne]; exact nd) (xdO_ok a2 (fun g => ?_) fun g hg => ?_)
  · by_cases q : g = f
    · subst q
      rw [if_pos rfl, List.lookup_cons_self]
      exact ry
    · rw [if_neg q, List.lookup_cons, show (g == f) = false from beq_eq_false_iff_ne.mpr q]
      exact True.intro
  · have q : g = f := Classical.byContradiction fun q => hg (if_neg q)
    simp [q]
theorem setx2_ok {fv : List (Str × V)} {Q : Unit → Shared → Prop} (I : Inv X pins σ H s) (e : H x = some (excO x C (some dx))) (ed : H dx = some (xdO dx fv)) (ne : dx ≠ x) (hz : fv.length < 1000) (hx : xclsIn X.K C fI fs = true) (hf : f ∈ fs)
    (hB : typeLookup (.type "Exception") f = pure none) (ry : RelV y u)
    (h : ∀ s', Inv X pins σ (upd H dx (xdO dx (putF f y fv))) s' → Q () s') : wpAny (model X.prog X.w) A (setAttr (.ref x) f u) Q E s := by
  obtain ⟨nm, qn, N, bs, sn, sub, ab, col, dd, k0, k1, k2, k3, k5, mN, XC⟩ := xcls_of I.kIn hx
  obtain ⟨ob, vs, g0, g1, g2, g3, g4, g5⟩ := excO_get I.hok e
  obtain ⟨mA, n, r, wi⟩ := xdO_get I.hok ed
  obtain ⟨hh, gg, dr, tt, oo⟩ := s
  refine xset2 XC hf hB g0 g1 g2 g3 n ne wi (by rw [List.length_map, sizeLine_eq]; omega) fun h' tk' a1 a2 a3 => h _ ?_
  have hd : ∃ w, h'.get? dx = some w := let ⟨w, _, _, q, _⟩ := a2; ⟨w, q⟩
  refine I.write (x := dx) (e := dx) (t' := tk') (by rw [ed]; exact True.intro) (.inl rfl) (fun b w hb q => a3 b w hb q) hd (xdO_ok a2 (fun g => ?_) fun g hg => ?_)
  · rw [lookup_putF]
    by_cases q : g = f
    · rw [if_pos q, if_pos q]; exact ry
    · rw [if_neg q, if_neg q]; exact r g
  · by_cases q : g = f
    · rw [q]; exact (keys_putF f y fv).1
    · refine (keys_putF f y fv).2 g (wi g fun z => hg ?_)
      show (if g = f then some u else mA g) = none
      rw [if_neg q]; exact z
end
section
variable {X : Cx} {C fI : Addr} {fs : List Str} {o value : Expr} {f : Str} {pos pos' : Pos} {ta tv : TE}
def sX1 (C : Addr) (ta tv : TE) (f : Str) : TS := fun D σ H => tv σ H fun y H1 => ta σ H1 fun v H2 => ∃ x, v = .ref x ∧ H2 x = some (excO x C none) ∧ ∀ dx, H2 dx = none → dx ≠ x → D.nx σ (upd (upd H2 dx (xdO dx [(f, y)])) x (excO x C (some dx)))
def sX2 (C : Addr) (ta tv : TE) (f : Str) : TS := fun D σ H => tv σ H fun y H1 => ta σ H1 fun v H2 => ∃ x dx fv, v = .ref x ∧ H2 x = some (excO x C (some dx)) ∧ H2 dx = some (xdO dx fv) ∧ dx ≠ x ∧ fv.length < 1000 ∧ D.nx σ (upd H2 dx (xdO dx (putF f y fv)))
theorem ps_x1 (D0 : InDef X) (hx : xclsIn X.K C fI fs = true) (hf : f ∈ fs) (hB : typeLookup (.type "Exception") f = pure none) (ha : PE X o ta) (hv : PE X value tv) (hs : swapsWith value (some (.Attribute o f pos')) pos.line X.env = pure false) :
    PS X (.Assign [.Attribute o f pos'] value pos) (sX1 C ta tv f) := by
  intro pins s σ H D I h
  refine plainObj_wpAny_Assign_Attribute (thn (hv pins s σ H _ I h) fun u s1 ⟨y, H1, I1, ry, q⟩ => thn (ha pins s1 σ H1 _ I1 q) fun ov s2 ⟨v, H2, I2, rx, x, ex, e, k⟩ => ?_) hs
  subst ex
  obtain rfl : ov = Value.ref x := rx
  exact setx1_ok I2 D0 e hx hf hB ry fun dx s3 h1 h2 I3 => ⟨σ, _, I3, k dx h1 h2⟩
theorem ps_x2 (hx : xclsIn X.K C fI fs = true) (hf : f ∈ fs) (hB : typeLookup (.type "Exception") f = pure none) (ha : PE X o ta) (hv : PE X value tv) (hs : swapsWith value (some (.Attribute o f pos')) pos.line X.env = pure false) :
    PS X (.Assign [.Attribute o f pos'] value pos) (sX2 C ta tv f) := by
  intro pins s σ H D I h
  refine plainObj_wpAny_Assign_Attribute (thn (hv pins s σ H _ I h) fun u s1 ⟨y, H1, I1, ry, q⟩ => thn (ha pins s1 σ H1 _ I1 q) fun ov s2 ⟨v, H2, I2, rx, x, dx, fv, ex, e, ed, ne, hz, k⟩ => ?_) hs
  subst ex
  obtain rfl : ov = Value.ref x := rx
  exact setx2_ok I2 e ed ne hz hx hf hB ry fun s3 I3 => ⟨σ, _, I3, k⟩
end
end L2
set_option Elab.async false
set_option linter.all false
set_option maxRecDepth 100000
set_option maxHeartbeats 4000000
namespace L2
open PySem PySem.Spec PyProof.Rows
open PySem.Builtin PySem.Builtin.ObjectAttr
abbrev Cx.hand (X : Cx) (x : Addr) (ox : Obj) : Cx := { X with A := X.A.mark (some (.ref x)), calm := false, pn := (x, ox) :: X.pn, xe := fun _ _ => False }
structure HdObj (C : Addr) (dx : Addr) (ox : Obj) : Prop where
  cls : ox.cls = .ref C
  dict : ox.dict = some dx
  data : ∃ vs : Array Value, ox.data = .fields vs ∧ vs[2]? = some .none
theorem HdObj.nocell {C dx : Addr} {ox : Obj} (o : HdObj C dx ox) : ∀ v, ox.data ≠ .cell v := fun v z => by
  obtain ⟨vs, e, _⟩ := o.data
  rw [e] at z; cases z
section
variable {X : Cx} {pins : List (Addr × Obj)} {σ : St} {H : Hp} {s : Shared} {x dx C : Addr} {ox : Obj}
theorem Cx.Ok.hand (ok : X.Ok) (x : Addr) (ox : Obj) : (X.hand x ox).Ok :=
  ⟨ok.mod, ok.kind, ok.glob, ok.blt, ok.above, ok.inj, ok.has, ok.cab, (fun z => nomatch z), ok.frames, ok.stk, ok.exf, ok.bs, ok.bsz, ok.noex, ok.exfs, ok.funs, ok.frf⟩
theorem Inv.hand (I : Inv X pins σ H s) (o : HdObj C dx ox) (fr : Fresh X pins x) (n : H x = none) (g : s.heap.get? x = some ox) : Inv (X.hand x ox) pins σ H s := by
  refine ⟨I.ok.hand x ox, I.os, I.bare, I.base, I.loc, I.cell, I.free, I.freeC, fun p hp => ?_, I.hok, I.len⟩
  rcases List.mem_cons.mp (show p ∈ (x, ox) :: (X.pn ++ pins) from hp) with e | e
  · subst e
    exact ⟨g, n, fr.loc, fr.fs, o.nocell⟩
  · exact I.pin p e
theorem Inv.unhand (ok : X.Ok) (I : Inv (X.hand x ox) pins σ H s) : Inv X pins σ H s :=
  ⟨ok, I.os, I.bare, I.base, I.loc, I.cell, I.free, I.freeC, fun p hp => I.pin p (List.mem_cons_of_mem _ hp), I.hok, I.len⟩
def forgot (σ : St) : St := List.replicate σ.length none
theorem Inv.forget {h' : Heap} {m' : Str → Option Value} {t' : Nat} (I : Inv X pins σ H s) (n : h'.Ns X.env.locals m') (sb : Heap.SameBut X.env.locals s.heap h') : Inv X pins (forgot σ) H { s with heap := h', toks := t' } := by
  have lo : ∀ b o, X.s_0.heap.get? b = some o → b ≠ X.env.locals := fun b o e => Nat.ne_of_lt (Nat.lt_of_lt_of_le (Heap.lt_size e) I.ok.above)
  refine ⟨I.ok, I.os, I.bare, ⟨fun b o e q hb hx => ?_, fun b o e q hb hx => ?_, I.base.free, fun b o e hx => ?_, I.base.tups, I.base.frzs, I.base.tbls⟩, ⟨m', n, fun i y v e1 e2 e3 => ?_⟩, fun y c e => ?_, I.free, I.freeC, fun p hp => ?_, fun b u q => ?_, ?_⟩
  · rw [sb.2 b (lo b o e)]; exact I.base.keep b o e q hb hx
  · obtain ⟨sl, z⟩ := I.base.slot b o e q hb hx
    exact ⟨sl, by rw [sb.2 b (lo b o e)]; exact z⟩
  · obtain ⟨o', z⟩ := I.base.there b o e hx
    exact ⟨o', by rw [sb.2 b (lo b o e)]; exact z⟩
  · unfold forgot at e2
    rw [List.getElem?_replicate] at e2
    split at e2 <;> cases e2
  · obtain ⟨v, z⟩ := I.cell y c e
    exact ⟨v, z.sameBut sb (I.cne y c e)⟩
  · obtain ⟨e, q, ne, r⟩ := I.pin p hp
    exact ⟨by rw [sb.2 p.1 ne]; exact e, q, ne, r⟩
  · refine (I.hok b u q).stay (fun c v hc z => ?_) (fun _ z => z) fun _ _ z => z
    rw [sb.2 c fun e => ?_]
    · exact z
    · subst e
      rcases hc with e | e
      · subst e; rw [I.free] at q; cases q
      · rw [I.free] at e; cases e
  · unfold forgot
    rw [List.length_replicate]
    exact I.len
end
def ThrowsAt (X : Cx) (σ : St) (E : XK) : Prop := ∀ (pins : List (Addr × Obj)) (H : Hp) (s : Shared) (x dx C : Addr) (tb : Value), Inv X pins σ H s → XObj s.heap x (.ref C) (some dx) tb → Fresh X pins x → H x = none → TbX X pins H s.heap x tb →
  E (.ref C) (some dx) H → X.xe (.ref x) s
def exceptE (C : Addr) (i : Nat) (σ : St) (ts : Addr → Addr → TS) (D : Ends) : XK := fun c od H => c = .ref C ∧ ∃ dx, od = some dx ∧ ∀ x, H x = none →
  ts x dx { nx := fun σ' H' => D.nx (forgot σ') H', rt := D.rt, bk := fun σ' H' => D.bk (forgot σ') H', ct := fun σ' H' => D.ct (forgot σ') H' } (σ.set i (some (.ref x))) H
def tTry (C : Addr) (i : Nat) (tb : St → XK → TS) (ts : Addr → Addr → TS) : TS := fun D σ H => tb σ (exceptE C i σ ts D) D σ H
abbrev Cx.inTry (X : Cx) (E : Value → Shared → Prop) (pl : List (Addr × Obj)) : Cx := { X with xe := E, pn := X.pn ++ pl }
section
variable {X : Cx} {pins pl : List (Addr × Obj)} {σ : St} {H : Hp} {s : Shared} {E : Value → Shared → Prop} {x : Addr}
theorem Inv.inTry (I : Inv X pl σ H s) : Inv (X.inTry E pl) [] σ H s :=
  ⟨⟨I.ok.mod, I.ok.kind, I.ok.glob, I.ok.blt, I.ok.above, I.ok.inj, I.ok.has, I.ok.cab, I.ok.hd, I.ok.frames, I.ok.stk, I.ok.exf, I.ok.bs, I.ok.bsz, I.ok.noex, I.ok.exfs, I.ok.funs, I.ok.frf⟩,
    I.os, I.bare, I.base, I.loc, I.cell, I.free, I.freeC, fun p hp => I.pin p (by simpa using hp), I.hok, I.len⟩
theorem Inv.outTry (ok : X.Ok) (I : Inv (X.inTry E pl) pins σ H s) : Inv X pl σ H s := ⟨ok, I.os, I.bare, I.base, I.loc, I.cell, I.free, I.freeC, fun p hp => I.pin p (List.mem_append_left _ hp), I.hok, I.len⟩
theorem Fresh.outTry (f : Fresh (X.inTry E pl) pins x) : Fresh X pl x := ⟨f.old, f.loc, f.fs, f.cell, fun p hp => f.pin p (List.mem_append_left _ hp)⟩
theorem SP.outTry {D : Ends} {f : Flow} {s' : Shared} (ok : X.Ok) (h : SP (X.inTry E pl) pins D f s') : SP X pl D f s' := by
  cases f with
  | next => obtain ⟨σ', H', I, q⟩ := h; exact ⟨σ', H', I.outTry ok, q⟩
  | brk => obtain ⟨σ', H', I, q⟩ := h; exact ⟨σ', H', I.outTry ok, q⟩
  | cont => obtain ⟨σ', H', I, q⟩ := h; exact ⟨σ', H', I.outTry ok, q⟩
  | ret u => obtain ⟨v, σ', H', I, r, q⟩ := h; exact ⟨v, σ', H', I.outTry ok, r, q⟩
end
section
variable {X : Cx} {C fI : Addr} {fs : List Str} {cn n : Str} {i : Nat} {body : List Stmt} {b0 : Stmt} {suite : List Stmt} {pos np hpos : Pos} {tb : St → XK → TS} {ts : Addr → Addr → TS}
theorem ps_try (D0 : InDef X) (hx : xclsIn X.K C fI fs = true) (hg : Gl X cn) (hm : X.mg cn = some (.ref C)) (hN : X.N.Nodup) (hi : X.N[i]? = some n) (hl : X.env.scope.names.lookup n = some .local)
    (hb : ∀ (E0 : Value → Shared → Prop) (pl : List (Addr × Obj)) (σ : St) (E : XK), ThrowsAt (X.inTry E0 pl) σ E → PSs (X.inTry E0 pl) body (tb σ E))
    (hs : ∀ (x dx : Addr) (ox : Obj), HdObj C dx ox → PSs (X.hand x ox) (b0 :: suite) (ts x dx)) (hdb : (cn == ("__debug__" : Str)) = false := by decide) :
    PS X (.Try body [.ExceptHandler (some (.Name cn np)) (some n) (b0 :: suite) hpos] [] [] pos) (tTry C i tb ts) := by
  intro pins s σ H D I h
  have plain : (X.env.scope.kind == .class || (X.env.scope.kind == .module && X.env.locals != X.env.globals)) = false := by rw [I.ok.kind]; rfl
  rw [arm_exec_Try]
  refine wpAny_bind (wpAny_standAt (wpAny_tryStmt_except ?_))
  have key : ThrowsAt (X.inTry (fun e s1 => wpAny (model X.prog X.w) X.A (noteFrame e X.env) (fun _ s2 => wpAny (model X.prog X.w) X.A (setFlight e none) (fun _ s3 =>
      wpAny (model X.prog X.w) X.A (handleBy e X.env [.ExceptHandler (some (.Name cn np)) (some n) (b0 :: suite) hpos]) (SP X pins D) X.xe s3) X.xe s2) X.xe s1) pins) σ (exceptE C i σ ts D) := by
    intro pins' H1 s1 x dx C' tb' I1 xo fx nx ht ⟨eC, dx', ed, he⟩
    cases eC
    cases ed
    have J1 := I1.outTry I.ok
    have gx := fx.outTry
    have tx : TbX X pins H1 s1.heap x tb' := ht.imp (fun z => z) fun ⟨T, z1, z2, z3, z4, z5⟩ => ⟨T, z1, z2, z3, z4.outTry, z5⟩
    show wpAny _ _ (noteFrame _ _) _ _ _
    refine J1.away D0 xo gx nx tx fun h' T l1 a1 a2 ne I2 => ?_
    obtain ⟨ox, vs, g0, c0, d0, v0, v1, v2⟩ := a1
    obtain ⟨oT, us, t0, t1, t2⟩ := a2
    have o : HdObj C dx ox := ⟨c0, d0, vs, v0, v2⟩
    have I3 := I2.hand o gx nx g0
    obtain ⟨nm, qn, N, bs, sn, sub, ab, col, dd, k0, k1, k2, k3, k5, mN, XC⟩ := xcls_of I2.kIn hx
    obtain ⟨hh, gg, dr, tt, oo⟩ := s1
    refine wpAny_handleBy_cons (codeAny_handlers_test (ld_glob I3 hg hm ?_ hdb)) (by intro z; cases z)
    refine wpAny_excMatches_sub_self XC.obj g0 c0 (by decide +kernel) ?_
    refine codeAny_handlers_suite_as (wpAny_setFlight_none g0 v0 v1 t0 t1 (Array.getElem?_eq_some_iff.mp t2).1 ?_)
    have same := Heap.update_setField_same h' T oT us 3 .none t0 t1 t2
    dsimp only
    rw [same]
    refine store_ok (X := X.hand x ox) I3 hN hi (.inl hl) (v := .ref x) rfl (fun s5 I5 => ?_) (.inr hl)
    refine wpAny_mono (hs x dx ox o pins s5 _ H1 _ I5 (he x nx)) (fun f s6 q => ?_) fun _ _ z => z.elim
    show wpAny _ _ _ _ _ _
    cases f with
    | next =>
      obtain ⟨σ6, H6, J6, q6⟩ := q
      have I6 := J6.unhand I.ok
      obtain ⟨m, hn, _⟩ := id I6.loc
      exact wpAny_nameGoes hl hn plain fun h7 m7 n7 sb => ⟨_, _, I6.forget n7 sb, q6⟩
    | brk =>
      obtain ⟨σ6, H6, J6, q6⟩ := q
      have I6 := J6.unhand I.ok
      obtain ⟨m, hn, _⟩ := id I6.loc
      exact wpAny_nameGoes hl hn plain fun h7 m7 n7 sb => ⟨_, _, I6.forget n7 sb, q6⟩
    | cont =>
      obtain ⟨σ6, H6, J6, q6⟩ := q
      have I6 := J6.unhand I.ok
      obtain ⟨m, hn, _⟩ := id I6.loc
      exact wpAny_nameGoes hl hn plain fun h7 m7 n7 sb => ⟨_, _, I6.forget n7 sb, q6⟩
    | ret u =>
      obtain ⟨v, σ6, H6, J6, r6, q6⟩ := q
      have I6 := J6.unhand I.ok
      obtain ⟨m, hn, _⟩ := id I6.loc
      exact wpAny_nameGoes hl hn plain fun h7 m7 n7 sb => ⟨v, _, _, I6.forget n7 sb, r6, q6⟩
  refine wpAny_mono (hb _ pins σ _ key [] s σ H D I.inTry h) (fun f s1 q => ?_) fun e s1 q => q
  have q2 := q.outTry I.ok
  cases f with
  | next => exact wpAny_execs_nil q2
  | brk => exact q2
  | cont => exact q2
  | ret u => exact q2
end
section
variable {X : Cx} {k : Nat} {f C : Addr} {fd : FuncData} {ps : List Str} {sp : Sp} {dvs : List V} {ds : List Value} {E : XK} {x : Str} {p pos : Pos} {e : Expr} {es : List Expr} {t : TA}
def tAt (σ0 : St) (t : TE) : TE := fun σ H Q => σ = σ0 ∧ t σ H Q
theorem run_fnAt {σ0 : St} {pins : List (Addr × Obj)} {H : Hp} {s : Shared} {Q : VK} {us : List Value} {vs : List V} (F : FnOk X.prog X.w X.K X.mg X.base (CX1 X.prog X.w) k f fd ps sp) (hr : Room k X.A) (hb : Binds X.K fd ps ds) (hd : Vals dvs ds) (D : InDef X) (T : ThrowsAt X σ0 E)
    (I : Inv X pins σ0 H s) (r : Vals vs us) (h : sp (vs ++ dvs) H Q E) : wpAny (model X.prog X.w) X.A (call (.ref f) us) (EP X pins σ0 Q) X.xe s := by
  have r2 : Vals (vs ++ dvs) (us ++ ds) := r.append hd
  have hl : (us ++ ds).length = ps.length := by rw [← r2.length]; exact F.len _ _ _ _ h
  refine wpAny_call (codeAny_mono (F.run X.A X.stack s H ⟨us, []⟩ (us ++ ds) (vs ++ dvs) Q E hr I.env0 (hb s us I.kIn hl) r2 h) fun r s' hq => ?_)
  cases r with
  | error z =>
    obtain ⟨x, dx, U, C, H', q, os, bare, un, hok, xo, tu, ne, nx, nU, fx, fU, he⟩ := hq
    subst q
    have I2 : Inv X pins σ0 H' s' := I.call' os un hok bare fun b z => nomatch z
    exact T pins H' s' x dx C _ I2 xo (I.freshG D.ex fx) nx (.inr ⟨U, rfl, ne, tu, I.freshG D.ex fU, nU⟩) he
  | ok fl =>
    cases fl with
    | ret u => exact I.after hq
    | next => exact False.elim hq
    | brk => exact False.elim hq
    | cont => exact False.elim hq
theorem pe_callAt {σ0 : St} (F : FnOk X.prog X.w X.K X.mg X.base (CX1 X.prog X.w) k f fd ps sp) (hr : Room k X.A) (hg : Gl X x) (hm : X.mg x = some (.ref f)) (hk : PySem.W.keepIn X.K (.ref f) = true) (hb : Binds X.K fd ps ds) (hd : Vals dvs ds) (D : InDef X) (T : ThrowsAt X σ0 E)
    (ha : PA X (e :: es) t) (hdb : (x == ("__debug__" : Str)) = false := by decide) (he : starEach (e :: es) X.env = (false, eval e X.env) :: starEach es X.env := by rfl) (hpl : (backTo pos (starEach es X.env)).any (·.1) = false := by rfl) :
    PE X (.Call (.Name x p) (e :: es) [] pos) (tAt σ0 (tCall sp dvs E t)) := by
  intro pins s σ H Q I ⟨e0, h⟩
  subst e0
  refine wpAny_Call_Name_kw (ld_glob I hg hm ?_ hdb)
  refine PySem.W.callWith_K (h₀ := X.base) I.ok.mod.kin hk (thn (ha pos pins s σ H _ I h) fun us s1 ⟨vs, H1, I1, r, q⟩ => ⟨I1.kIn, ?_⟩) he hpl
  exact run_fnAt F hr hb hd D T I1 r q
end
section
variable {X : Cx} {C fI x dx : Addr} {ox : Obj} {fs : List Str} {o : Expr} {f : Str} {pos : Pos} {ta : TE}
def tXF (x dx : Addr) (ta : TE) (f : Str) : TE := fun σ H Q => ta σ H fun v H1 => v = .ref x ∧ ∃ fv u, H1 dx = some (xdO dx fv) ∧ fv.lookup f = some u ∧ Q u H1
theorem pe_xf (hp : (x, ox) ∈ X.pn) (ho : HdObj C dx ox) (hx : xclsIn X.K C fI fs = true) (hf : f ∈ fs) (hB : typeLookup (.type "Exception") f = pure none) (he : PE X o ta) (hb : attributeBase o f X.env (eval o X.env) = eval o X.env) :
    PE X (.Attribute o f pos) (tXF x dx ta f) := by
  intro pins s σ H Q I h
  refine attr_of hb (thn (he pins s σ H _ I h) fun u s1 ⟨v, H1, I1, rx, ev, fv, w, e1, e2, q⟩ => ?_)
  subst ev
  obtain rfl : u = Value.ref x := rx
  obtain ⟨nm, qn, N, bs, sn, sub, ab, col, dd, k0, k1, k2, k3, k5, mN, XC⟩ := xcls_of I1.kIn hx
  obtain ⟨mA, n, r, _⟩ := xdO_get I1.hok e1
  obtain ⟨vs, v0, _⟩ := ho.data
  have g0 := (I1.pin (x, ox) (List.mem_append_left _ hp)).1
  obtain ⟨z, ez, rz⟩ := RelO.some_of (v := w) (o := mA f) (by rw [← e2]; exact r f)
  have I2 := I1.tok (s1.toks + 1)
  obtain ⟨hh, gg, dr, tt, oo⟩ := s1
  exact xget getX XC hf hB g0 ho.cls ho.dict v0 n.ns ez (PySem.W.handedOut_of (handed_of rz)) ⟨w, H1, I2, rz, q⟩
end
end L2
set_option Elab.async false
set_option linter.all false
set_option maxRecDepth 100000
set_option maxHeartbeats 4000000
namespace L2
open PySem PySem.Spec PyProof.Rows
open PySem.Builtin PySem.Builtin.ObjectAttr
theorem entry_unchain : entryFor table "proto.unchain" = some Builtin.«proto.unchain» := entryFor_of_tree (by kernel_rfl)
theorem raiseNew_in {α : Type} {prog : Program} {w : World} {A : Around} {E : Value → Shared → Prop} {s : Shared} {a y : Addr} {oa oy : Obj} {us vs : Array Value} {Q : α → Shared → Prop} (hh : A.handled = some (.ref y)) (ne : y ≠ a)
    (ga : s.heap.get? a = some oa) (da : oa.data = .fields us) (hz : 2 < us.size) (gy : s.heap.get? y = some oy) (dy : oy.data = .fields vs) (cy : vs[2]? = some .none)
    (h : E (.ref a) { s with heap := s.heap.update a (Obj.mapFields (·.setIfInBounds 2 (.ref y))) }) : wpAny (model prog w) A (raiseNew (.ref a) : Sem α) Q E s := by
  unfold raiseNew
  refine wpAny_bind (wpAny_handled ?_)
  rw [hh]
  dsimp only
  rw [if_pos (show (Value.ref y != Value.ref a) = true by simp [ne])]
  refine wpAny_bind (wpAny_holding (wpAny_runValue (codeAny_builtin entry_unchain ?_)))
  unfold Builtin.«proto.unchain»
  dsimp only
  refine wpAny_bind (wpAny_field gy dy cy ?_)
  rw [if_pos (by decide)]
  refine wpAny_bind (wpAny_pure (wpAny_pure ?_))
  show wpAny _ _ (updateField a 2 (.ref y) >>= _) _ _ _
  unfold updateField
  refine wpAny_bind (wpAny_bind (wpAny_load ga ?_))
  rw [da]
  dsimp only
  rw [if_pos hz]
  exact wpAny_update ga (wpAny_throw h)
theorem next_list_endH {prog : Program} {w : World} {A : Around} {E : Value → Shared → Prop} {s : Shared} {it l y : Addr} {i : Nat} {items : Array Value} {oy : Obj} {vs : Array Value} {Q : Option Value → Shared → Prop} (hh : A.handled = some (.ref y))
    (gy : s.heap.get? y = some oy) (dy : oy.data = .fields vs) (cy : vs[2]? = some .none) (ny : y ≠ it) (hit : s.heap.IsListIter it l i) (hl : s.heap.IsList l items) (hx : items[i]? = none)
    (hQ : ∀ h', Heap.ExtBut it s.heap h' → Q none { s with heap := h' }) : wpAny (model prog w) A (pyNext (.ref it)) Q E s := by
  obtain ⟨oi, g1, c1, d1⟩ := id hit
  obtain ⟨ol, g2, _, nl, d2⟩ := hl
  unfold pyNext
  refine wpAny_bind (wpAny_attempt (wpAny_callSpecial?_slot (name := Str.ofString "__next__") hit.typeIs slot_listiter_next (wpAny_call_entry slot_listiter_next hit.typeIs entry_listiter_next ?_ (args_listiter_next _))))
  show wpAny _ _ (field (.ref it) 0 >>= _) _ _ s
  refine wpAny_bind (wpAny_field g1 d1 (x := .ref l) rfl ?_)
  rw [if_neg (fun z : (Value.ref l == Value.none) = true => nomatch z)]
  show wpAny _ _ (field (.ref it) 1 >>= _) _ _ s
  refine wpAny_bind (wpAny_field g1 d1 (x := .int i 0) rfl ?_)
  show wpAny _ _ (seqItems? (.ref l) >>= _) _ _ s
  refine wpAny_bind (wpAny_seqItems g2 d2 ?_)
  simp only [Int.toNat_natCast, hx]
  refine wpAny_bind (wpAny_rule (wpAny_bind (wpAny_setField g1 d1 (by simp) ?_)))
  generalize hu : s.heap.update it (Obj.mapFields (·.setIfInBounds 0 Value.none)) = h1
  have gy1 : h1.get? y = some oy := by rw [← hu, Heap.get?_update_other _ _ (Ne.symm ny)]; exact gy
  have eb : Heap.ExtBut it s.heap h1 := by rw [← hu]; exact (Heap.SameBut.update ..).extBut
  show wpAny _ _ (newExc (.type "StopIteration") [] >>= _) _ _ _
  refine wpAny_bind ?_
  simp only [newExc, newTuple]
  refine wpAny_bind (wpAny_newObj_type ?_ (by size_fits))
  refine wpAny_bind (m := firstArgMember _ _) (wpAny_of_eq (a := Value.none) (by first | rfl | (simp only [firstArgMember]; rfl)) (wpAny_newObj_type ?_ (by size_fits)))
  dsimp only
  generalize ht : ({ cls := .type "tuple", data := .seq #[] } : Obj) = ot
  generalize hv : (#[Value.ref h1.objs.size, Value.none, Value.none, Value.none, Value.bool false, Value.none] ++ ownMembersOf (Value.type "StopIteration") []) = us
  have lz : 2 < us.size := by
    rw [← hv, Array.size_append]
    exact Nat.lt_of_lt_of_le (by decide : 2 < 6) (Nat.le_add_right _ _)
  have lt1 : (h1.push ot).objs.size = h1.objs.size + 1 := Heap.size_push _ _
  have gs : ((h1.push ot).push { cls := .type "StopIteration", data := .fields us }).get? (h1.push ot).objs.size = some { cls := .type "StopIteration", data := .fields us } := Heap.get?_push_size _ rfl
  have gy2 : ((h1.push ot).push { cls := .type "StopIteration", data := .fields us }).get? y = some oy := Heap.get?_push_of_some _ (Heap.get?_push_of_some _ gy1)
  have ny2 : y ≠ (h1.push ot).objs.size := Nat.ne_of_lt (by rw [lt1]; exact Nat.lt_succ_of_lt (Heap.lt_size gy1))
  refine raiseNew_in (A := A.in1) hh ny2 gs rfl lz gy2 dy cy ?_
  have gs2 := Heap.get?_update_self (Obj.mapFields (·.setIfInBounds 2 (Value.ref y))) gs (by rfl)
  refine wpAny_bind (wpAny_isInstance (T := "StopIteration") (b := true) ⟨_, gs2, rfl⟩ isSubtype_stop ?_)
  refine wpAny_pure (hQ _ fun b o hb q => ?_)
  have q1 := eb b o hb q
  rw [Heap.get?_update_other _ _ (Nat.ne_of_gt (by rw [lt1]; exact Nat.lt_succ_of_lt (Heap.lt_size q1)))]
  exact Heap.get?_push_of_some _ (Heap.get?_push_of_some _ q1)
def HdX (X : Cx) : Prop := ∃ p ∈ X.pn, X.A.handled = some (.ref p.1) ∧ ∃ vs : Array Value, p.2.data = .fields vs ∧ vs[2]? = some .none
theorem turn_listH {X : Cx} {tg : Expr} (hd : HdX X) (a it : Addr) {i : Nat} {pins : List (Addr × Obj)} {s : Shared} {σ : St} {H : Hp} {E : Value → Shared → Prop} (I : Inv X pins σ H s) (hf : ∀ b ∈ [it], FpOk X pins H b) (st : s.heap.IsListIter it a i) (hg : (Itl X.K a).stop i H) :
    wpAny (model X.prog X.w) X.A (pyNext (.ref it)) (fun r s1 => r = none ∧ Inv X pins σ H s1) E s := by
  obtain ⟨xs, hq, hx⟩ := hg
  obtain ⟨its, rv, p, hz⟩ := I.list hq
  obtain ⟨f0, f1, f2, f3, f4, f5⟩ := hf it (by simp)
  have hl := rv.length
  obtain ⟨y, hy, h1, vs, h2, h3⟩ := hd
  exact next_list_endH h1 (I.pin y (List.mem_append_left _ hy)).1 h2 h3 (f5 y (List.mem_append_left _ hy)) st p.isList (by simp; omega) fun h' eb => ⟨rfl, I.turned (t' := s.toks) (fun b o hb e => eb b o hb e) f0 f1 f3 f4 f5⟩
theorem turn_listI {X : Cx} {tg : Expr} (a it : Addr) {i : Nat} {pins : List (Addr × Obj)} {s : Shared} {σ : St} {H : Hp} {E : Value → Shared → Prop} (I : Inv X pins σ H s) (hf : ∀ b ∈ [it], FpOk X pins H b) (st : s.heap.IsListIter it a i) (hg : (Itl X.K a).go i H) :
    wpAny (model X.prog X.w) X.A (pyNext (.ref it)) (fun r s1 => ∃ u, r = some u ∧
      wpAny (model X.prog X.w) X.A (letOwnedTupleGo tg (.ref it) u) (fun _ s2 => ∃ x H', Inv X pins σ H' s2 ∧ RelV x u ∧ (Itl X.K a).yld i H x H' ∧ s2.heap.IsListIter it a (i + 1) ∧ ∀ b ∈ [it], H' b = none) E s1) E s := by
  obtain ⟨xs, x, hq, hx⟩ := hg
  obtain ⟨its, rv, p, hz⟩ := I.list hq
  obtain ⟨u, hu, ru⟩ := rv.get hx
  obtain ⟨f0, f1, f2, f3, f4, f5⟩ := hf it (by simp)
  refine wpAny_pyNext_list_item st p.isList (x := u) (by simpa using hu) fun h' st' sb => ?_
  have I1 : Inv X pins σ H { s with heap := h' } := I.turned (t' := s.toks) (fun b o hb e => (sb.2 b hb).trans e) f0 f1 f3 f4 f5
  obtain ⟨o, e, c, d⟩ := id st'
  exact ⟨u, rfl, go_of (s := { s with heap := h' }) e c d (by decide) ⟨x, H, I1, ru, ⟨rfl, fun ys hy => by rw [I.list_inj hy hq]; exact hx⟩, st', fun b hb => (hf b hb).1⟩⟩
section
variable {X : Cx} {tg : Expr}
def tForL (K : PySem.W.Frag) (tl : TE) (g : TG) (tb : TS) : TS := tFor (iList K tl) g tb
theorem ps_forH {l : Expr} {body : List Stmt} {tl : TE} {g : TG} {tb : TS} {pos : Pos} (hp : PassesOwn (model X.prog X.w) X.A X.env X.xe) (hd : HdX X) (hi : PE X l tl) (hg : PG X tg g) (hb : PSs X body tb)
    (hs : ∀ x, foldedSetIterable l X.env x = pure x := by intro _; rfl) : PS X (.For tg l body [] pos) (tForL X.K tl g tb) := by
  intro pins s σ H D I h
  refine wpAny_For (thn (hi pins s σ H _ I h) fun v s1 ⟨x, H1, I1, r1, a, e, ⟨xs, hq⟩, W, ⟨m0, w0⟩, turn⟩ => ?_) hs
  subst e
  cases r1
  obtain ⟨its, rv, p, hz⟩ := I1.list hq
  refine wpAny_pyIter_list p.isList ?_
  have f2 : ∀ b ∈ [s1.heap.objs.size], FpOk X pins H1 b := fun b hb => by
    have e : b = s1.heap.objs.size := by simpa using hb
    subst e
    exact I1.fpOk (Nat.le_refl _) (I1.hok.fresh (Nat.le_refl _))
  have stat : ∀ {H' : Hp}, (∀ b ∈ [s1.heap.objs.size], H' b = none) → ∀ b ∈ [s1.heap.objs.size], FpOk X pins H' b := fun hn b hb => ⟨hn b hb, (f2 b hb).2⟩
  refine codeAny_forLoop_any (fun n s' => ∃ i σ' H', Inv X pins σ' H' s' ∧ s'.heap.IsListIter s1.heap.objs.size a i ∧ (∀ b ∈ [s1.heap.objs.size], H' b = none) ∧ W i n σ' H') ?_ m0
    ⟨0, σ, H1, I1.kept (t' := s1.toks) fun b o e => Heap.get?_push_of_some _ e, ⟨_, Heap.get?_push_size _ rfl, rfl, rfl⟩, fun b hb => (f2 b hb).1, w0⟩
  rintro n s3 ⟨i, σ3, H3, I3, st3, fr3, w3⟩
  rcases turn i n σ3 H3 w3 with ⟨stop, qn⟩ | ⟨go, N, hN, step⟩
  · refine wpAny_passesOwn hp (thn (turn_listH (tg := tg) hd a _ (E := X.xe) I3 (stat fr3) st3 stop) fun r s4 ⟨hr, I4⟩ => ?_)
    subst hr
    exact wpAny_execs_nil ⟨σ3, H3, I4, qn⟩
  · refine wpAny_passesOwn hp (thn (turn_listI (tg := tg) a _ (E := X.xe) I3 (stat fr3) st3 go) fun r s4 ⟨u, hr, h4⟩ => ?_)
    subst hr
    refine wpAny_passesOwn hp (thn h4 fun _ s5 ⟨x, H5, I5, r5, y5, st5, fr5⟩ => ?_)
    have T : Turn X.prog X.w X.K tg (Itl X.K a) [s1.heap.objs.size] s1.heap.objs.size (fun i h => h.IsListIter s1.heap.objs.size a i) := turn_list a _
    have I5' := I5.pinned (stat fr5) (T.obj _ _ st5)
    refine wpAny_passesOwn hp (thn (hg _ s5 σ3 H5 x u _ I5' r5 (step x H5 y5)) fun _ s6 ⟨σ6, H6, I6, q6⟩ => ?_)
    refine wpAny_passesOwn hp (thn (hb _ s6 σ6 H6 _ I6 q6) fun f s7 q7 => ?_)
    have again : ∀ {σ7 : St} {H7 : Hp}, Inv X (pins ++ pinsAt [s1.heap.objs.size] s5.heap) σ7 H7 s7 → N σ7 H7 → ∃ m, m < n ∧ ∃ i σ' H', Inv X pins σ' H' s7 ∧ s7.heap.IsListIter s1.heap.objs.size a i ∧ (∀ b ∈ [s1.heap.objs.size], H' b = none) ∧ W i m σ' H' := fun {σ7 H7} I7 n7 => by
      obtain ⟨m', hm, w7⟩ := hN σ7 H7 n7
      refine ⟨m', hm, i + 1, σ7, H7, I7.unpinned, T.keep _ _ _ st5 fun b hb o e => (I7.pin (b, o) (List.mem_append_right _ (List.mem_append_right _ (mem_pinsAt hb e)))).1, fun b hb => ?_, w7⟩
      obtain ⟨o, e, d⟩ := T.obj _ _ st5 b hb
      exact (I7.pin (b, o) (List.mem_append_right _ (List.mem_append_right _ (mem_pinsAt hb e)))).2.1
    cases f with
    | next => obtain ⟨σ7, H7, I7, n7⟩ := q7; exact again I7 n7
    | cont => obtain ⟨σ7, H7, I7, n7⟩ := q7; exact again I7 n7
    | brk => obtain ⟨σ7, H7, I7, q7⟩ := q7; exact ⟨σ7, H7, I7.unpinned, q7⟩
    | ret v => obtain ⟨x7, σ7, H7, I7, r7, q7⟩ := q7; exact ⟨x7, σ7, H7, I7.unpinned, r7, q7⟩
end
end L2
set_option Elab.async false
set_option linter.all false
set_option maxRecDepth 100000
set_option maxHeartbeats 4000000
namespace L2
open PySem PySem.Spec PyProof.Rows
open PySem.Builtin PySem.Builtin.ObjectAttr
structure RoomH (k : Nat) (A : Around) : Prop where
  dp : A.depth + 3 * k + 5 < recursionLimit
  un : A.units + 16 * k + 200 < cLine
theorem RoomH.deeper {k : Nat} {A : Around} (r : RoomH (k + 1) A) (env : Env) : RoomH k (A.deeper env) :=
  ⟨by have := r.dp; show A.depth + 1 + 3 * k + 5 < _; omega, by have := r.un; show A.units + 3 + 16 * k + 200 < _; omega⟩
theorem RoomH.mono {j k : Nat} {A : Around} (r : RoomH k A) (h : j ≤ k) : RoomH j A := ⟨by have := r.dp; omega, by have := r.un; omega⟩
theorem Room.hand {k : Nat} {A : Around} (r : Room k A) (v : Option Value) : RoomH k (A.mark v) := ⟨r.dp, r.un⟩
def NoCtx (o : Obj) : Prop := ∃ vs : Array Value, o.data = .fields vs ∧ vs[2]? = some .none
abbrev SpH := List V → Hp → VK → Prop
structure FnOkH (P : Program) (w : World) (K : PySem.W.Frag) (mg : Str → Option Value) (base : Heap) (k : Nat) (f : Addr) (fd : FuncData) (ps : List Str) (sp : SpH) : Prop where
  len : ∀ vs H Q, sp vs H Q → vs.length = ps.length
  run : ∀ (A : Around) (outer : List Env) (s : Shared) (H : Hp) (args : Args) (us : List Value) (vs : List V) (Q : VK) (y : Addr) (oy : Obj), RoomH k A → A.handled = some (.ref y) → NoCtx oy → s.heap.get? y = some oy → H y = none → y ∉ frs outer →
    Env0 P w K mg base A outer s H → BindsTo s fd args (ps.zip us) → Vals vs us → sp vs H Q → codeAny (model P w) A (.call (.ref f) args) (CR CX0 outer P w H s Q E0) s
abbrev cxOfH (P : Program) (w : World) (K : PySem.W.Frag) (mg : Str → Option Value) (base : Heap) (N : List Str) (qual : Str) (scope : Scope) (f : Addr) (cd : Value) (A : Around) (outer : List Env) (s : Shared) (H : Hp) (y : Addr) (oy : Obj) : Cx :=
  { cxOf CX0 P w K mg base N qual scope f cd A outer s H E0 with calm := false, pn := [(y, oy)], xe := fun _ _ => False }
section
variable {P : Program} {w : World} {K : PySem.W.Frag} {mg : Str → Option Value} {base : Heap}
theorem fn_ofH {k : Nat} {f : Addr} {name qual : Str} {params : Arguments} {body : List Stmt} {scope : Scope} {dV kV doc pm cdv ct oc : Value} {an od : Option Addr} {osl : Array (Option Value)} {N ps : List Str} {sp : SpH}
    (lk : K.lookup f = some ⟨oc, od, .func (PySem.W.fnOf name qual params body scope dV kV doc pm an cdv ct), osl⟩) (hcd : PySem.W.codeIn K cdv qual = true) (S : FnScope N ps scope) (len : ∀ vs H Q, sp vs H Q → vs.length = ps.length)
    (hbody : ∀ (A : Around) (outer : List Env) (s : Shared) (H : Hp) (vs : List V) (Q : VK) (y : Addr) (oy : Obj), RoomH k (A.deeper (envOfC qual scope s.heap.objs.size f cdv)) → A.handled = some (.ref y) → NoCtx oy → sp vs H Q →
      ∃ t, PSs (cxOfH P w K mg base N qual scope f cdv A outer s H y oy) body t ∧ t { nx := fun _ H' => Q .non H', rt := Q } (start N vs) H) :
    FnOkH P w K mg base (k + 1) f (PySem.W.fnOf name qual params body scope dV kV doc pm an cdv ct) ps sp := by
  refine ⟨len, fun A outer s H args us vs Q y oy hr hh ho gy ny fy e0 hb r hsp => ?_⟩
  have hl := len _ _ _ hsp
  have KX : K.In s.heap := e0.mod.kin.keeps fun b o e => (e0.bs b o e).1
  have lim : s.heap.NoLimit := e0.mod.nolimit.keeps fun b o e => (e0.bs b o e).1
  have hkind : ∀ z ∈ ps.zip us, scope.names.lookup z.1 = some .local ∨ (scope.names.lookup z.1 = some .cell ∧ ((cellsFrom (s.heap.objs.size + 1) scope.names []).lookup z.1).isSome = true) := fun ⟨n, v⟩ hz => by
    rcases S.par n (List.of_mem_zip hz).1 with q | q
    · exact .inl q
    · exact .inr ⟨q, PySem.W.cellsFrom_some _ _ _ (.inl q)⟩
  refine codeAny_call_function (by have := hr.dp; omega) (KX _ _ lk) rfl S.co S.gen rfl (PySem.W.codeRec_of KX hcd) (hb _ _ _ _ ?_)
  refine wpAny_newFunctionEnv_cells S.kind hkind fun env he s1 x => ?_
  subst he
  refine ⟨lim.keeps x.toInCall.keep, codeAny_func ?_⟩
  obtain ⟨t, ht, hq⟩ := hbody A outer s H vs Q y oy (hr.deeper _) hh ho hsp
  have I0 : Inv (cxOf CX0 P w K mg base N qual scope f cdv { A with handled := none } outer s H E0) [] (start N vs) H s1 := inv_start S rfl ⟨e0.frames, e0.mod, e0.bs, e0.bsz, e0.funs, e0.frf, e0.hok, e0.bare⟩ hl r x
  have I : Inv (cxOfH P w K mg base N qual scope f cdv A outer s H y oy) [] (start N vs) H s1 := by
    refine ⟨⟨I0.ok.mod, I0.ok.kind, I0.ok.glob, I0.ok.blt, I0.ok.above, I0.ok.inj, I0.ok.has, I0.ok.cab, (fun z => nomatch z), I0.ok.frames, I0.ok.stk, I0.ok.exf, I0.ok.bs, I0.ok.bsz, I0.ok.noex, I0.ok.exfs, I0.ok.funs, I0.ok.frf⟩,
      I0.os, I0.bare, I0.base, I0.loc, I0.cell, I0.free, I0.freeC, fun p hp => ?_, I0.hok, I0.len⟩
    have e : p = (y, oy) := by simpa using hp
    subst e
    refine ⟨x.toInCall.keep _ _ gy, ny, Nat.ne_of_lt (Heap.lt_size gy), fy, fun v z => ?_⟩
    obtain ⟨vs', e', _⟩ := ho
    rw [e'] at z; cases z
  refine wpAny_mono (ht [] s1 (start N vs) H _ I hq) (fun fl s' hs => ?_) fun e s' hs => False.elim hs
  have fin : ∀ {σ' : St} {H' : Hp} {v : V} {u : Value}, Inv (cxOfH P w K mg base N qual scope f cdv A outer s H y oy) [] σ' H' s' → RelV v u → Q v H' → CE outer P w H s Q u s' := fun {σ' H' v u} J rv q => ⟨v, H', J.os, J.bare, J.base, J.hok, rv, q⟩
  cases fl with
  | ret u =>
    obtain ⟨v, σ', H', J, rv, q⟩ := hs
    exact fin J rv q
  | next =>
    obtain ⟨σ', H', J, q⟩ := hs
    exact fin (v := V.non) (u := Value.none) J rfl q
  | brk =>
    obtain ⟨_, _, _, q⟩ := hs
    exact False.elim q
  | cont =>
    obtain ⟨_, _, _, q⟩ := hs
    exact False.elim q
theorem Fun.okH {x qual : Str} {st : Stmt} {f : Addr} {fd : FuncData} {N ps : List Str} {k : Nat} {sp : SpH} (F : Fun K x qual st f fd) (S : FnScope N ps (defScope st)) (len : ∀ vs H Q, sp vs H Q → vs.length = ps.length)
    (hbody : ∀ (cdv : Value) (A : Around) (outer : List Env) (s : Shared) (H : Hp) (vs : List V) (Q : VK) (y : Addr) (oy : Obj), RoomH k (A.deeper (envOfC qual (defScope st) s.heap.objs.size f cdv)) → A.handled = some (.ref y) → NoCtx oy → sp vs H Q →
      ∃ t, PSs (cxOfH P w K mg base N qual (defScope st) f cdv A outer s H y oy) (defBody st) t ∧ t { nx := fun _ H' => Q .non H', rt := Q } (start N vs) H) : FnOkH P w K mg base (k + 1) f fd ps sp := by
  obtain ⟨oc, od, kV, doc, pm, an, cdv, ct, osl, rfl, lk, hcd⟩ := F.ex
  exact fn_ofH lk hcd S len fun A outer s H vs Q y oy hr hh ho hsp => hbody cdv A outer s H vs Q y oy hr hh ho hsp
theorem Fun.okX {x qual : Str} {st : Stmt} {f : Addr} {fd : FuncData} {N ps : List Str} {k : Nat} {sp : Sp} (F : Fun K x qual st f fd) (S : FnScope N ps (defScope st)) (len : ∀ vs H Q E, sp vs H Q E → vs.length = ps.length)
    (hbody : ∀ (cdv : Value) (A : Around) (outer : List Env) (s : Shared) (H : Hp) (vs : List V) (Q : VK) (E : XK), Room k (A.deeper (envOfC qual (defScope st) s.heap.objs.size f cdv)) → sp vs H Q E →
      ∃ t, PSs (cxOf (CX1 P w) P w K mg base N qual (defScope st) f cdv A outer s H E) (defBody st) t ∧ t { nx := fun _ H' => Q .non H', rt := Q } (start N vs) H) : FnOk P w K mg base (CX1 P w) (k + 1) f fd ps sp := by
  obtain ⟨oc, od, kV, doc, pm, an, cdv, ct, osl, rfl, lk, hcd⟩ := F.ex
  exact fn_of lk hcd S len fun A outer s H vs Q E hr hsp => hbody cdv A outer s H vs Q E hr hsp
theorem FnOk.lift {CX : CXT} {k : Nat} {f : Addr} {fd : FuncData} {ps : List Str} {sp : Sp} (F : FnOk P w K mg base CX0 k f fd ps sp) : FnOk P w K mg base CX k f fd ps sp :=
  ⟨F.len, fun A outer s H args us vs Q E hr he hb hv hs => codeAny_mono (F.run A outer s H args us vs Q E hr he hb hv hs) fun r s' z => by
    cases r with
    | error e => exact False.elim z
    | ok fl => cases fl <;> exact z⟩
end
section
variable {X : Cx} {k : Nat} {f : Addr} {fd : FuncData} {ps : List Str} {sp : SpH} {x : Str} {p pos : Pos} {e : Expr} {es : List Expr} {t : TA} {y : Addr} {oy : Obj}
def tCallH (sp : SpH) (t : TA) : TE := fun σ H Q => t σ H fun vs H1 => sp vs H1 Q
theorem pe_callH (hp : (y, oy) ∈ X.pn) (hh : X.A.handled = some (.ref y)) (ho : NoCtx oy) (F : FnOkH X.prog X.w X.K X.mg X.base k f fd ps sp) (hr : RoomH k X.A) (hg : Gl X x) (hm : X.mg x = some (.ref f)) (hk : PySem.W.keepIn X.K (.ref f) = true) (hb : Binds X.K fd ps [])
    (ha : PA X (e :: es) t) (hdb : (x == ("__debug__" : Str)) = false := by decide) (he : starEach (e :: es) X.env = (false, eval e X.env) :: starEach es X.env := by rfl) (hpl : (backTo pos (starEach es X.env)).any (·.1) = false := by rfl) :
    PE X (.Call (.Name x p) (e :: es) [] pos) (tCallH sp t) := by
  intro pins s σ H Q I h
  refine wpAny_Call_Name_kw (ld_glob I hg hm ?_ hdb)
  refine PySem.W.callWith_K (h₀ := X.base) I.ok.mod.kin hk (thn (ha pos pins s σ H _ I h) fun us s1 ⟨vs, H1, I1, r, q⟩ => ⟨I1.kIn, ?_⟩) he hpl
  have hl : (us ++ []).length = ps.length := by rw [List.append_nil, ← r.length]; exact F.len _ _ _ q
  have hb2 := hb s1 us I1.kIn hl
  rw [List.append_nil] at hb2
  obtain ⟨g1, g2, g3, g4, _⟩ := I1.pin (y, oy) (List.mem_append_left _ hp)
  refine wpAny_call (codeAny_mono (F.run X.A X.stack s1 H1 ⟨us, []⟩ us vs Q y oy hr hh ho g1 g2 (fun z => ?_) I1.env0 hb2 r q) fun r' s' hq => ?_)
  · rcases List.mem_cons.mp (I1.stkSub _ z) with q | q
    · exact g3 q
    · exact g4 q
  · cases r' with
    | error e => exact False.elim hq
    | ok fl =>
      cases fl with
      | ret u => exact I1.after hq
      | next => exact False.elim hq
      | brk => exact False.elim hq
      | cont => exact False.elim hq
end
end L2
set_option Elab.async false
set_option linter.all false
set_option maxRecDepth 100000
set_option maxHeartbeats 4000000
namespace L2
open PySem PySem.Spec PyProof.Rows
theorem nsFind_of {K : PySem.W.Frag} {N : Addr} {c : Value} {d : Option Addr} {es : Array DictEntry} {n : Nat} {sl : Array (Option Value)} {f : Str} {r : Option Value} (l : K.lookup N = some ⟨c, d, .dict es n, sl⟩) (e : PySem.W.nsIn K N f = some r) : nsFind es f = r := by
  unfold PySem.W.nsIn at e
  rw [l] at e
  dsimp only at e
  unfold nsFind findBy
  rw [← Array.find?_toList]
  split at e
  · rename_i x q
    rw [q]
    exact Option.some.inj e
  · rename_i q
    rw [q]
    split at e
    · cases e
    · exact Option.some.inj e
theorem xcls_mk {K : PySem.W.Frag} {C fI : Addr} {fs : List Str} {dd d : Option Addr} {cd : ClassData} {sl sl' : Array (Option Value)} {c : Value} {es : Array DictEntry} {n : Nat}
    (lC : K.lookup C = some ⟨.type "type", dd, .cls cd, sl⟩) (hm : (cd.mro == .ref C :: mroX && !cd.hasDel && cd.hasDict) = true) (hs : (match sl.toList with | [_, _, _, _, some (.builtin n), _] => n == "Exception.__new__" | _ => false) = true)
    (lN : K.lookup cd.ns = some ⟨c, d, .dict es n, sl'⟩) (sk : es.toList.all keyStrB = true) (n1 : PySem.W.nsIn K cd.ns "__init__" = some (some (.ref fI))) (n2 : PySem.W.nsIn K cd.ns "__setattr__" = some none) (n3 : PySem.W.nsIn K cd.ns "__getattribute__" = some none)
    (n4 : PySem.W.nsIn K cd.ns "__getattr__" = some none) (n5 : ∀ f ∈ fs, PySem.W.nsIn K cd.ns f = some none) : xclsIn K C fI fs = true := by
  simp only [Bool.and_eq_true, beq_iff_eq, Bool.not_eq_true'] at hm
  obtain ⟨⟨h1, h2⟩, h3⟩ := hm
  have hx : xnsIn K cd.ns fI fs = true := by
    unfold xnsIn
    rw [lN]
    simp only [Bool.and_eq_true, beq_iff_eq, List.all_eq_true]
    exact ⟨⟨⟨⟨⟨fun e he => List.all_eq_true.mp sk e he, nsFind_of lN n1⟩, nsFind_of lN n2⟩, nsFind_of lN n3⟩, nsFind_of lN n4⟩, fun f hf => nsFind_of lN (n5 f hf)⟩
  unfold xclsIn
  rw [lC]
  split at hs
  · rename_i k0 k1 k2 k3 nn k5 hl
    dsimp only
    rw [h1, hl]
    rw [h2, h3, hx]
    show ("type" == "type" && C == C && !false && true && mroX == mroX && nn == "Exception.__new__" && true) = true
    rw [hs, beq_self_eq_true C, beq_self_eq_true mroX]
    rfl
  · cases hs
end L2
set_option Elab.async false
set_option linter.all false
set_option maxRecDepth 100000
set_option maxHeartbeats 4000000
namespace L2
open PySem PySem.Spec PyProof.Rows PySem.Calls
section
variable {X : Cx}
theorem get_list : PGet X (rIxL X.K) := by
  intro pins s σ H o i ov iv Q I ro ri h
  obtain ⟨p, xs, k, z, rfl, rfl, hq, he, q⟩ := h
  cases ro
  obtain ⟨t, rfl⟩ := ri
  obtain ⟨its, r, pl, hz⟩ := I.list hq
  obtain ⟨j, h1, h2, h3, h4, h5⟩ := atI_get he
  obtain ⟨u, eu, ru⟩ := r.get h2
  have hl := r.length
  have hn := line63
  have fin : EP X pins σ Q u s := ⟨z, H, I, ru, q⟩
  by_cases h0 : 0 ≤ k
  · have hj : k.toNat = j := by
      rw [seqIndex_of h0 h5] at h1
      exact Option.some.inj h1
    exact PySem.wpAny_getItem_list pl.isList h0 (by omega) (by rw [hj]; simpa using eu) fin
  · have hj : (k + (its.toArray.size : Int)).toNat = j := by
      rw [seqIndex_neg (by omega) h4] at h1
      have := Option.some.inj h1
      rw [List.size_toArray, ← hl]
      exact this
    exact PySem.wpAny_getItem_list_neg pl.isList (by omega) (by rw [List.size_toArray]; omega) (by omega) (by rw [hj]; simpa using eu) fin
def rInsert : V → List V → Hp → VK → Prop := fun x vs H Q => ∃ (l : Addr) (k : Nat) (xs : List V) (y : V), x = .ref l ∧ vs = [.int (k : Int), y] ∧ H l = some (.lst xs) ∧ k ≤ xs.length ∧ xs.length < sizeLine ∧ Q .non (upd H l (.lst (xs.take k ++ y :: xs.drop k)))
theorem mt_insert : MtM X "list.insert" rInsert := by
  intro pins s σ H x vs v us Q I rx rv h
  obtain ⟨l, k, xs, y, rfl, rfl, hH, hk, hz, q⟩ := h
  cases rx
  obtain ⟨u1, u, rfl, ⟨t, rfl⟩, ru⟩ := rv.two
  obtain ⟨z, its, n, r, hl, e⟩ := I.lstM hH
  have hn := line63
  have hlen := r.length
  have hk2 : k ≤ its.length := by omega
  have hsz : its.toArray.size ≤ sizeLine := by rw [List.size_toArray]; omega
  have z : Builtin.List.listFitsIndex (k : Int) = true := PySem.fitsIndex_of (by omega) (by omega)
  have hk3 : (if (k : Int) < 0 then ((k : Int) + (its.toArray.size : Int)).toNat else min (k : Int).toNat its.toArray.size) = k := by
    rw [if_neg (by omega), List.size_toArray, Int.toNat_natCast, Nat.min_eq_left hk2]
  generalize (k : Int) = x at z hk3 ⊢
  refine call_meets F.slot_list_insert ⟨_, e, rfl⟩ F.entry_list_insert (F.args_list_insert_3 _ _ _) (AutoSeq1.list_insert_list_int_val_1 l _ n x t u (by simp [z]) hsz) ⟨e, ?_⟩
  refine ⟨.non, _, I.lset (its' := its.take k ++ u :: its.drop k) hH e ?_ ((r.take k).append (.cons ru (r.drop k))) ?_, rfl, q⟩
  · show ((its.toArray.extract 0 (if x < 0 then (x + (its.toArray.size : Int)).toNat else min x.toNat its.toArray.size)).push u ++ its.toArray.extract (if x < 0 then (x + (its.toArray.size : Int)).toNat else min x.toNat its.toArray.size)) = _
    rw [hk3]
    apply Array.toList_inj.mp
    simp [List.extract_eq_drop_take]
    exact List.take_of_length_le (by rw [List.length_drop]; exact Nat.le_refl _)
  · rw [List.length_append, List.length_cons, List.length_take, List.length_drop]
    omega
theorem ints_are : ∀ {ns : List Int} {us : List Value}, Vals (ns.map V.int) us → IntsAre us ns
  | [], _, .nil => .nil
  | _ :: _, _, .cons ⟨t, rfl⟩ r => .cons _ t (ints_are r)
theorem call_max1 (hc : X.calm = true) : CallR X (.builtin "max") (fun xs H Q => ∃ (p : Addr) (ns : List Int), xs = [.ref p] ∧ SqL X.K H p (ns.map V.int) ∧ ns ≠ [] ∧ ∀ M, M ∈ ns → (∀ a ∈ ns, a ≤ M) → Q (.int M) H) := by
  intro pins s σ H xs us Q I r h
  obtain ⟨p, ns, rfl, hq, hne, q⟩ := h
  obtain ⟨u, rfl, rx⟩ := vals1 r
  cases rx
  obtain ⟨its, r', pl, hz⟩ := I.list hq
  have hi := ints_are r'
  obtain ⟨ys, e⟩ := hi.allInts.items
  have hns : ns = ys.toList.map (·.1) := by
    rw [← hi.numsOf, ← nums_intItems, ← e]
  have hsz : 0 < ys.size := by
    have h3 : 0 < ns.length := List.length_pos_iff.mpr hne
    rw [hns, List.length_map, Array.length_toList] at h3; exact h3
  have hl := pl.isList
  rw [e] at hl
  refine max_intList (I.ok.hd hc) hl hsz fun v h' tk hv hk => ?_
  obtain ⟨t, rfl⟩ := intItems_at hv
  obtain ⟨h1, h2⟩ := argBest_gt (numAt ys) (ys.size - 1)
  refine ⟨.int _, H, I.kept hk, ⟨_, rfl⟩, q _ ?_ fun a ha => ?_⟩
  · rw [hns, numAt_eq]; exact getD_mem (by rw [List.length_map, Array.length_toList]; omega)
  · rw [hns] at ha
    obtain ⟨j, hj, rfl⟩ := mem_getD ha
    rw [List.length_map, Array.length_toList] at hj
    rw [← numAt_eq]; exact h2 j (by omega)
theorem range_anyB (bs : List Bool) : ((List.range bs.length).any fun i => (bs[i]?).getD false) = bs.any id := by
  rw [Bool.eq_iff_iff, List.any_eq_true, List.any_eq_true]
  constructor
  · rintro ⟨i, hi, h⟩
    have hi := List.mem_range.mp hi
    rw [List.getElem?_eq_getElem hi] at h
    exact ⟨bs[i], List.getElem_mem hi, h⟩
  · rintro ⟨b, hb, h⟩
    obtain ⟨i, hi⟩ := List.getElem?_of_mem hb
    exact ⟨i, List.mem_range.mpr (List.getElem?_eq_some_iff.mp hi).1, by rw [hi]; exact h⟩
theorem bools_at {bs : List Bool} {us : List Value} (r : Vals (bs.map V.bl) us) {i : Nat} {v : Value} (h : us[i]? = some v) : ∃ b, bs[i]? = some b ∧ v = .bool b := by
  have hl := r.length
  have hi : i < bs.length := by
    have := (List.getElem?_eq_some_iff.mp h).1
    rw [List.length_map] at hl
    omega
  have hb : bs[i]? = some bs[i] := List.getElem?_eq_getElem hi
  obtain ⟨u, e, ru⟩ := r.get (show (bs.map V.bl)[i]? = some (.bl bs[i]) by rw [List.getElem?_map, hb]; rfl)
  rw [e] at h
  cases h
  exact ⟨_, hb, ru⟩
theorem call_any1 (hc : X.calm = true) : CallR X (.builtin "any") (fun xs H Q => ∃ (p : Addr) (bs : List Bool), xs = [.ref p] ∧ SqL X.K H p (bs.map V.bl) ∧ Q (.bl (bs.any id)) H) := by
  intro pins s σ H xs us Q I r h
  obtain ⟨p, bs, rfl, hq, q⟩ := h
  obtain ⟨u, rfl, rx⟩ := vals1 r
  cases rx
  obtain ⟨its, r', pl, hz⟩ := I.list hq
  have hlen : its.length = bs.length := by have := r'.length; rw [List.length_map] at this; omega
  have hl := pl.isList
  have hlt : p < s.heap.objs.size := by obtain ⟨_, e, _⟩ := hl; exact Heap.lt_size e
  refine call_any_walk (wpAny_pyIter_list hl ?_)
  refine ⟨s.heap.objs.size, [s.heap.objs.size, p], [s.heap.objs.size], its.toArray.size, _, _, fun i => (bs[i]?).getD false, rfl, Walks.list (A := X.A.in1) (I.ok.hd hc) _ p (Nat.ne_of_lt hlt) its.toArray,
    ⟨⟨_, Heap.get?_push_size _ rfl, rfl, rfl⟩, hl.push _⟩, fun i v s' Q' E' hP hQ => ?_, fun h' tk hk => ?_⟩
  · obtain ⟨b, e, rfl⟩ := bools_at r' (show its[i]? = some v by simpa using hP)
    simp only [e, Option.getD_some] at hQ
    exact wpAny_truthy_bool hQ
  · have e : ((List.range its.toArray.size).any fun i => (bs[i]?).getD false) = bs.any id := by
      rw [List.size_toArray, hlen]; exact range_anyB bs
    rw [e]
    exact ⟨.bl _, H, I.kept fun b x e => hk b x (fun hm => by rw [List.mem_singleton.mp hm] at e; exact Nat.lt_irrefl _ (Heap.lt_size e)) (Heap.get?_push_of_some _ e), rfl, q⟩
end
end L2
set_option linter.all false
namespace My
open Of
structure U where
  place : Int
  byte : Int
  plain : Bool
def uOf (u : Nat × Bytes) : U := match u.2 with
  | [c] => if c = 92 then ⟨u.1, -1, false⟩ else ⟨u.1, c.toNat, true⟩
  | [_, d] => if isEsc d = true then ⟨u.1, d.toNat, false⟩ else ⟨u.1, -1, false⟩
  | _ => ⟨u.1, -1, false⟩
def isU (b : Bytes) : Prop := (∃ c, b = [c]) ∨ ∃ d, b = [92, d]
theorem units_isU : ∀ (o : Nat) (b : Bytes), ∀ u ∈ units o b, isU u.2
  | o, [] => by simp [units]
  | o, [c] => by
    intro u hu
    simp only [units, List.mem_singleton] at hu
    subst hu
    exact .inl ⟨c, rfl⟩
  | o, c :: d :: r => by
    intro u hu
    unfold units at hu
    split at hu
    · rename_i e
      rcases List.mem_cons.mp hu with h | h
      · subst h; subst e; exact .inr ⟨d, rfl⟩
      · exact units_isU _ _ u h
    · rcases List.mem_cons.mp hu with h | h
      · subst h; exact .inl ⟨c, rfl⟩
      · exact units_isU _ _ u h
theorem units_nil (o : Nat) : units o [] = [] := by simp [units]
theorem units_cons (o : Nat) (c : UInt8) (r : Bytes) (h : c ≠ 92) : units o (c :: r) = (o, [c]) :: units (o + 1) r := by
  cases r with
  | nil => simp [units]
  | cons d r => simp [units, h]
theorem units_one (o : Nat) : units o [92] = [(o, [92])] := by simp [units]
theorem units_two (o : Nat) (d : UInt8) (r : Bytes) : units o (92 :: d :: r) = (o, [92, d]) :: units (o + 2) r := by simp [units]
def isPl (ws : List Int) (u : U) : Bool := u.plain && ws.contains u.byte
end My
set_option linter.all false
namespace My
open Of
theorem u8_eq (c d : UInt8) : ((c.toNat : Int) == (d.toNat : Int)) = (c == d) := by
  rw [Bool.eq_iff_iff, beq_iff_eq, beq_iff_eq]
  exact ⟨fun h => UInt8.toNat_inj.mp (by omega), fun h => by rw [h]⟩
theorem u8_ne (c d : UInt8) (h : c ≠ d) : ¬ (c.toNat : Int) = (d.toNat : Int) := fun e => h (UInt8.toNat_inj.mp (by omega))
theorem esc_in (d : UInt8) : ([92, 35, 59, 123, 125, 32] : List Int).contains (d.toNat : Int) = isEsc d := by
  have e : ([92, 35, 59, 123, 125, 32] : List Int) = [((92 : UInt8).toNat : Int), ((35 : UInt8).toNat : Int), ((59 : UInt8).toNat : Int), ((123 : UInt8).toNat : Int), ((125 : UInt8).toNat : Int), ((32 : UInt8).toNat : Int)] := rfl
  rw [e]
  simp only [List.contains_cons, List.contains_nil, u8_eq, isEsc, Bool.or_false, Bool.or_assoc]
def sl (bs : Bytes) (e i : Nat) : Bytes := (bs.take e).drop i
theorem sl_nil {bs : Bytes} {e i : Nat} (h : e ≤ i) : sl bs e i = [] := by
  unfold sl
  apply List.drop_eq_nil_of_le
  rw [List.length_take]
  omega
theorem sl_cons {bs : Bytes} {e i : Nat} (h : i < e) (h2 : e ≤ bs.length) : ∃ c, bs[i]? = some c ∧ sl bs e i = c :: sl bs e (i + 1) := by
  have hi : i < (bs.take e).length := by rw [List.length_take]; omega
  refine ⟨bs[i], List.getElem?_eq_getElem (by omega), ?_⟩
  unfold sl
  rw [List.drop_eq_getElem_cons hi, List.getElem_take]
theorem units_len : ∀ (o : Nat) (b : Bytes), (units o b).length ≤ b.length
  | o, [] => by simp [units]
  | o, [c] => by simp [units]
  | o, c :: d :: r => by
    unfold units
    split
    · have := units_len (o + 2) r
      simp only [List.length_cons]
      omega
    · have := units_len (o + 1) (d :: r)
      simp only [List.length_cons] at this ⊢
      omega
theorem sl_len (bs : Bytes) (e i : Nat) : (sl bs e i).length ≤ e := by
  unfold sl
  rw [List.length_drop, List.length_take]
  omega
def backU (bs : Bytes) (e i : Nat) : U := match sl bs e (i + 1) with
  | [] => uOf (i, [92])
  | d :: _ => uOf (i, [92, d])
theorem units_back {bs : Bytes} {e i : Nat} (h : i < e) (h2 : e ≤ bs.length) (hc : bs[i]? = some 92) : (units i (sl bs e i)).map uOf = backU bs e i :: (units (i + 2) (sl bs e (i + 2))).map uOf := by
  obtain ⟨c, h3, h4⟩ := sl_cons h h2
  rw [hc] at h3
  cases h3
  rw [h4]
  unfold backU
  by_cases h5 : i + 1 < e
  · obtain ⟨d, _, h7⟩ := sl_cons h5 h2
    rw [h7, units_two]
    rfl
  · rw [sl_nil (by omega : e ≤ i + 1), units_one, sl_nil (by omega : e ≤ i + 2), units_nil]
    rfl
theorem units_plain {bs : Bytes} {e i : Nat} {c : UInt8} (h : i < e) (h2 : e ≤ bs.length) (hc : bs[i]? = some c) (h92 : c ≠ 92) : (units i (sl bs e i)).map uOf = ⟨i, c.toNat, true⟩ :: (units (i + 1) (sl bs e (i + 1))).map uOf := by
  obtain ⟨c', h3, h4⟩ := sl_cons h h2
  rw [hc] at h3
  cases h3
  rw [h4, units_cons _ _ _ h92, List.map_cons]
  congr 1
  show (if c = 92 then _ else _) = _
  rw [if_neg h92]
end My
set_option linter.all false
namespace My
open Of
def dropEndU {α : Type} (p : α → Bool) (us : List α) : List α := (us.reverse.dropWhile p).reverse
theorem dropEndU_nil {α : Type} (p : α → Bool) : dropEndU p ([] : List α) = [] := rfl
theorem dropEndU_snoc {α : Type} (p : α → Bool) (us : List α) (u : α) (h : p u = true) : dropEndU p (us ++ [u]) = dropEndU p us := by
  unfold dropEndU
  rw [List.reverse_append]
  show ((u :: us.reverse).dropWhile p).reverse = _
  rw [List.dropWhile_cons, if_pos h]
theorem dropEndU_keep {α : Type} (p : α → Bool) (us : List α) (u : α) (h : p u = false) : dropEndU p (us ++ [u]) = us ++ [u] := by
  unfold dropEndU
  rw [List.reverse_append]
  show ((u :: us.reverse).dropWhile p).reverse = _
  rw [List.dropWhile_cons, if_neg (by rw [h]; decide), List.reverse_cons, List.reverse_reverse]
def trimU (p : U → Bool) (us : List U) : List U := dropEndU p (us.dropWhile p)
def cut {α : Type} (us : List α) (i j : Nat) : List α := (us.take j).drop i
theorem cut_snoc {α : Type} {us : List α} {i j : Nat} {u : α} (h : us[j]? = some u) (hij : i ≤ j) : cut us i (j + 1) = cut us i j ++ [u] := by
  obtain ⟨hj, e⟩ := List.getElem?_eq_some_iff.mp h
  unfold cut
  rw [List.take_succ, h, List.drop_append_of_le_length]
  · rfl
  · rw [List.length_take]; omega
theorem cut_all {α : Type} {us : List α} {i : Nat} : cut us i us.length = us.drop i := by
  unfold cut
  rw [List.take_length]
theorem cut_none {α : Type} {us : List α} {i : Nat} : cut us i i = [] := by
  unfold cut
  apply List.drop_eq_nil_of_le
  rw [List.length_take]
  omega
theorem dw_step {α : Type} {p : α → Bool} {us : List α} {i : Nat} {u : α} (h : us[i]? = some u) (hp : p u = true) : (us.drop i).dropWhile p = (us.drop (i + 1)).dropWhile p := by
  obtain ⟨hi, e⟩ := List.getElem?_eq_some_iff.mp h
  rw [List.drop_eq_getElem_cons hi, List.dropWhile_cons, if_pos (by rw [e]; exact hp)]
theorem dw_stop {α : Type} {p : α → Bool} {us : List α} {i : Nat} {u : α} (h : us[i]? = some u) (hp : p u = false) : (us.drop i).dropWhile p = us.drop i := by
  obtain ⟨hi, e⟩ := List.getElem?_eq_some_iff.mp h
  rw [List.drop_eq_getElem_cons hi, List.dropWhile_cons, if_neg (by rw [e, hp]; decide)]
end My
set_option linter.all false
namespace My
open Of
def unitFault (ws : List Int) (u : U) : Option Int :=
  if u.byte = -1 then some 2 else if ws.contains u.byte = true then some 10 else if u.byte < 32 ∨ u.byte = 127 then some 1 else none
def firstFault (ws : List Int) : List U → Option (Int × Int)
  | [] => none
  | u :: r => match unitFault ws u with
    | some n => some (n, u.place)
    | none => firstFault ws r
theorem firstFault_step {ws : List Int} : ∀ {us : List U} {i : Nat}, (∀ j u, j < i → us[j]? = some u → unitFault ws u = none) → firstFault ws us = firstFault ws (us.drop i)
  | [], i, _ => by simp
  | u :: r, 0, _ => rfl
  | u :: r, i + 1, h => by
    have h0 := h 0 u (by omega) rfl
    show (match unitFault ws u with | some n => some (n, u.place) | none => firstFault ws r) = firstFault ws (r.drop i)
    rw [h0]
    exact firstFault_step fun j v hj hv => h (j + 1) v (by omega) hv
theorem firstFault_at {ws : List Int} {us : List U} {i : Nat} {u : U} {n : Int} (h : ∀ j u, j < i → us[j]? = some u → unitFault ws u = none) (hu : us[i]? = some u) (hn : unitFault ws u = some n) : firstFault ws us = some (n, u.place) := by
  obtain ⟨hi, e⟩ := List.getElem?_eq_some_iff.mp hu
  rw [firstFault_step h, List.drop_eq_getElem_cons hi, e]
  show (match unitFault ws u with | some n => some (n, u.place) | none => _) = _
  rw [hn]
theorem firstFault_none {ws : List Int} {us : List U} (h : ∀ j u, j < us.length → us[j]? = some u → unitFault ws u = none) : firstFault ws us = none := by
  rw [firstFault_step h, List.drop_length]
  rfl
inductive Says (α : Type) where
  | bad (n p : Int)
  | good (a : α)
def textU (ws : List Int) (us : List U) : Says (List Int) := match firstFault ws us with
  | some f => .bad f.1 f.2
  | none => if 64 < us.length then .bad 6 ((us.head?.map U.place).getD 0) else .good (us.map U.byte)
theorem take_snoc {α : Type} {l : List α} {i : Nat} {x : α} (h : l[i]? = some x) : l.take (i + 1) = l.take i ++ [x] := by
  rw [List.take_succ, h]
  rfl
end My
set_option linter.all false
namespace My
open Of
def lastOf (p : Nat → Bool) (n : Nat) : Option Nat := ((List.range n).reverse).find? p
theorem lastOf_zero (p : Nat → Bool) : lastOf p 0 = none := rfl
theorem lastOf_succ (p : Nat → Bool) (n : Nat) : lastOf p (n + 1) = if p n = true then some n else lastOf p n := by
  unfold lastOf
  rw [List.range_succ, List.reverse_append]
  show List.find? p (n :: (List.range n).reverse) = _
  rw [List.find?_cons]
  cases p n <;> rfl
theorem parent_eq (l : Outline) (i : Nat) : parent l i = lastOf (fun j => depthAt l j + 1 == depthAt l i) i := rfl
theorem depthAt_get {l : Outline} {i : Nat} {x : Node} (h : l[i]? = some x) : depthAt l i = x.depth := by
  unfold depthAt
  rw [h]
theorem tw_step {α : Type} {p : α → Bool} {us : List α} {i : Nat} {u : α} (h : us[i]? = some u) (hp : p u = true) : ((us.drop i).takeWhile p).length = 1 + ((us.drop (i + 1)).takeWhile p).length := by
  obtain ⟨hi, e⟩ := List.getElem?_eq_some_iff.mp h
  rw [List.drop_eq_getElem_cons hi, List.takeWhile_cons, if_pos (by rw [e]; exact hp), List.length_cons, Nat.add_comm]
theorem tw_stop {α : Type} {p : α → Bool} {us : List α} {i : Nat} {u : α} (h : us[i]? = some u) (hp : p u = false) : ((us.drop i).takeWhile p).length = 0 := by
  obtain ⟨hi, e⟩ := List.getElem?_eq_some_iff.mp h
  rw [List.drop_eq_getElem_cons hi, List.takeWhile_cons, if_neg (by rw [e, hp]; decide)]
  rfl
theorem tw_end {α : Type} {p : α → Bool} {us : List α} {i : Nat} (h : us.length ≤ i) : ((us.drop i).takeWhile p).length = 0 := by
  rw [List.drop_eq_nil_of_le h]
  rfl
end My
set_option linter.all false
namespace My
open Of
theorem isPl_uOf {u : Nat × Bytes} (h : isU u.2) (w : UInt8) (hw : w ≠ 92) : isPl [(w.toNat : Int)] (uOf u) = (u.2 == [w]) := by
  obtain ⟨o, b⟩ := u
  rcases h with ⟨c, e⟩ | ⟨d, e⟩
  · dsimp only at e
    subst e
    by_cases h92 : c = 92
    · subst h92
      show (false && _) = _
      have : ([92] == [w]) = false := by
        rw [beq_eq_false_iff_ne]
        intro z
        injection z with z1
        exact hw z1.symm
      rw [this]
      rfl
    · have e1 : uOf (o, [c]) = ⟨o, c.toNat, true⟩ := by
        show (if c = 92 then _ else _) = _
        rw [if_neg h92]
      rw [e1]
      show (true && ([(w.toNat : Int)] : List Int).contains (c.toNat : Int)) = _
      rw [Bool.true_and, List.contains_cons, List.contains_nil, Bool.or_false, u8_eq]
      show (c == w) = (c == w && ([] : List UInt8) == [])
      simp
  · dsimp only at e
    subst e
    have e1 : (uOf (o, [92, d])).plain = false := by
      show (if isEsc d = true then _ else _ : U).plain = false
      split <;> rfl
    unfold isPl
    rw [e1, Bool.false_and]
    symm
    rw [beq_eq_false_iff_ne]
    intro z
    injection z with z1 z2
    cases z2
theorem isEsc_ge {d : UInt8} (h : isEsc d = true) : ¬ ((d.toNat : Int) < 32 ∨ (d.toNat : Int) = 127) ∧ ¬ (d.toNat : Int) = 10 ∧ ¬ (d.toNat : Int) = 13 ∧ ¬ (d.toNat : Int) = -1 := by
  unfold isEsc at h
  simp only [Bool.or_eq_true, beq_iff_eq] at h
  rcases h with ((((h | h) | h) | h) | h) | h <;> (subst h; decide)
inductive Brk : Nat → List Int → Prop where
  | laid : Brk 1 []
  | braces : Brk 10 [10, 13]
theorem u8_lt (c d : UInt8) : c < d ↔ (c.toNat : Int) < (d.toNat : Int) := by
  rw [UInt8.lt_iff_toNat_lt]
  omega
theorem meant_uOf {brk : Nat} {ws : List Int} (hb : Brk brk ws) {u : Nat × Bytes} (h : isU u.2) :
    (∃ e, meant brk u.2 = .error e ∧ unitFault ws (uOf u) = some (e : Int)) ∨ ∃ c, meant brk u.2 = .ok c ∧ unitFault ws (uOf u) = none ∧ (uOf u).byte = (c.toNat : Int) := by
  obtain ⟨o, b⟩ := u
  rcases h with ⟨c, e⟩ | ⟨d, e⟩
  · dsimp only at e
    subst e
    by_cases h92 : c = 92
    · subst h92
      exact .inl ⟨2, rfl, by rfl⟩
    · have e1 : uOf (o, [c]) = ⟨o, c.toNat, true⟩ := by
        show (if c = 92 then _ else _) = _
        rw [if_neg h92]
      have hm : ¬ ((c.toNat : Int) = -1) := by omega
      rw [e1]
      by_cases h10 : c = 10 ∨ c = 13
      · have em : meant brk [c] = .error brk := by
          show (if c = 92 then _ else _) = _
          rw [if_neg h92, if_pos h10]
        refine .inl ⟨brk, em, ?_⟩
        unfold unitFault
        dsimp only
        rw [if_neg hm]
        cases hb with
        | laid =>
          rw [if_neg (by simp), if_pos]
          · rfl
          · rcases h10 with z | z <;> (subst z; exact .inl (by decide))
        | braces =>
          rw [if_pos]
          · rfl
          · rcases h10 with z | z <;> (subst z; decide)
      · have nc : ws.contains (c.toNat : Int) = false := by
          cases hb with
          | laid => rfl
          | braces =>
            have e2 : ([10, 13] : List Int) = [((10 : UInt8).toNat : Int), ((13 : UInt8).toNat : Int)] := rfl
            rw [e2]
            simp only [List.contains_cons, List.contains_nil, u8_eq, Bool.or_false, Bool.or_eq_false_iff, beq_eq_false_iff_ne]
            exact ⟨fun z => h10 (.inl z), fun z => h10 (.inr z)⟩
        have iff1 : (c < 32 ∨ c = 127) ↔ ((c.toNat : Int) < 32 ∨ (c.toNat : Int) = 127) := by
          constructor
          · rintro (z | z)
            · exact .inl ((u8_lt c 32).mp z)
            · subst z; exact .inr rfl
          · rintro (z | z)
            · exact .inl ((u8_lt c 32).mpr z)
            · exact .inr (UInt8.toNat_inj.mp (show c.toNat = (127 : UInt8).toNat by show c.toNat = 127; omega))
        have es : meant brk [c] = if c < 32 ∨ c = 127 then .error 1 else .ok c := by
          show (if c = 92 then _ else _) = _
          rw [if_neg h92, if_neg h10]
        have eu : unitFault ws ⟨o, c.toNat, true⟩ = if (c.toNat : Int) < 32 ∨ (c.toNat : Int) = 127 then some 1 else none := by
          unfold unitFault
          dsimp only
          rw [if_neg hm, if_neg (by rw [nc]; decide)]
        by_cases hc : c < 32 ∨ c = 127
        · refine .inl ⟨1, by rw [es, if_pos hc], ?_⟩
          rw [eu, if_pos (iff1.mp hc)]
          rfl
        · refine .inr ⟨c, by rw [es, if_neg hc], ?_, rfl⟩
          rw [eu, if_neg (fun z => hc (iff1.mpr z))]
  · dsimp only at e
    subst e
    by_cases hd : isEsc d = true
    · obtain ⟨z1, z2, z3, z4⟩ := isEsc_ge hd
      have e1 : uOf (o, [92, d]) = ⟨o, d.toNat, false⟩ := by
        show (if isEsc d = true then _ else _) = _
        rw [if_pos hd]
      refine .inr ⟨d, ?_, ?_, by rw [e1]⟩
      · show (if isEsc d = true then _ else _) = _
        rw [if_pos hd]
      · rw [e1]
        unfold unitFault
        dsimp only
        rw [if_neg z4, if_neg, if_neg z1]
        cases hb with
        | laid => simp
        | braces => simp only [List.contains_cons, List.contains_nil, Bool.or_false, Bool.or_eq_true, beq_iff_eq]; exact fun q => q.elim z2 z3
    · have e1 : uOf (o, [92, d]) = ⟨o, -1, false⟩ := by
        show (if isEsc d = true then _ else _) = _
        rw [if_neg hd]
      refine .inl ⟨2, ?_, by rw [e1]; rfl⟩
      show (if isEsc d = true then _ else _) = _
      rw [if_neg hd]
theorem uOf_place (u : Nat × Bytes) : (uOf u).place = (u.1 : Int) := by
  obtain ⟨o, b⟩ := u
  unfold uOf
  split <;> (try split) <;> rfl
theorem reads_uOf {brk : Nat} {ws : List Int} (hb : Brk brk ws) : ∀ {us : List (Nat × Bytes)}, (∀ u ∈ us, isU u.2) →
    (∃ f, reads brk us = .error f ∧ firstFault ws (us.map uOf) = some ((f.code : Int), (f.at_ : Int))) ∨
    ∃ t, reads brk us = .ok t ∧ firstFault ws (us.map uOf) = none ∧ (us.map uOf).map U.byte = t.map (fun c => (c.toNat : Int)) ∧ t.length = us.length
  | [], _ => .inr ⟨[], rfl, rfl, rfl, rfl⟩
  | u :: r, h => by
    have hu := h u List.mem_cons_self
    rcases meant_uOf hb hu with ⟨e, m1, m2⟩ | ⟨c, m1, m2, m3⟩
    · refine .inl ⟨⟨e, u.1⟩, ?_, ?_⟩
      · unfold reads
        rw [m1]
      · show (match unitFault ws (uOf u) with | some n => some (n, (uOf u).place) | none => _) = _
        rw [m2, uOf_place]
    · have st : firstFault ws ((u :: r).map uOf) = firstFault ws (r.map uOf) := by
        show (match unitFault ws (uOf u) with | some n => some (n, (uOf u).place) | none => _) = _
        rw [m2]
      rcases reads_uOf hb (us := r) (fun v hv => h v (List.mem_cons_of_mem _ hv)) with ⟨f, r1, r2⟩ | ⟨t, r1, r2, r3, r4⟩
      · refine .inl ⟨f, ?_, by rw [st]; exact r2⟩
        unfold reads
        rw [m1]
        dsimp only
        rw [r1]
      · refine .inr ⟨c :: t, ?_, by rw [st]; exact r2, ?_, by rw [List.length_cons, List.length_cons, r4]⟩
        · unfold reads
          rw [m1]
          dsimp only
          rw [r1]
        · show (uOf u).byte :: (r.map uOf).map U.byte = _
          rw [m3, r3]
          rfl
end My
set_option linter.all false
namespace My
open Of
theorem tw_app {p : UInt8 → Bool} {t : Bytes} : t = t.takeWhile p ++ t.drop (t.takeWhile p).length := by
  induction t with
  | nil => rfl
  | cons c r ih =>
    rw [List.takeWhile_cons]
    split
    · rw [List.length_cons]
      show c :: r = c :: (r.takeWhile p ++ r.drop (r.takeWhile p).length)
      rw [← ih]
    · rfl
abbrev noFeed : UInt8 → Bool := fun c => !(c == 10)
theorem lines_eq : ∀ (o : Nat) (t : Bytes), lines o t = (o, t.takeWhile noFeed) :: (match t.drop (t.takeWhile noFeed).length with | [] => [] | _ :: r => lines (o + (t.takeWhile noFeed).length + 1) r)
  | o, [] => rfl
  | o, c :: r => by
    by_cases h : c = 10
    · subst h
      rw [lines, if_pos rfl, List.takeWhile_cons, if_neg (by decide)]
      rfl
    · have hp : noFeed c = true := by
        show (!(c == 10)) = true
        rw [beq_eq_false_iff_ne.mpr h]
        rfl
      rw [lines, if_neg h, lines_eq (o + 1) r, List.takeWhile_cons, if_pos hp]
      dsimp only
      rw [List.length_cons, List.drop_succ_cons]
      rw [show o + 1 + (List.takeWhile noFeed r).length + 1 = o + ((List.takeWhile noFeed r).length + 1) + 1 by omega]
def lineEnd (bs : Bytes) (b : Nat) : Nat := b + ((bs.drop b).takeWhile noFeed).length
theorem lineEnd_le {bs : Bytes} {b : Nat} (h : b ≤ bs.length) : lineEnd bs b ≤ bs.length := by
  unfold lineEnd
  have := congrArg List.length (tw_app (p := noFeed) (t := bs.drop b))
  rw [List.length_append, List.length_drop] at this
  omega
theorem sl_line {bs : Bytes} {b : Nat} (h : b ≤ bs.length) : sl bs (lineEnd bs b) b = (bs.drop b).takeWhile noFeed := by
  unfold sl lineEnd
  rw [List.drop_take, Nat.add_sub_cancel_left]
  conv => lhs; arg 2; rw [tw_app (p := noFeed) (t := bs.drop b)]
  rw [List.take_append_of_le_length (Nat.le_refl _), List.take_length]
def restLines (bs : Bytes) (b : Nat) : List (Nat × Bytes) := if b ≤ bs.length then lines b (bs.drop b) else []
theorem rest_step {bs : Bytes} {b : Nat} (h : b ≤ bs.length) : restLines bs b = (b, sl bs (lineEnd bs b) b) :: restLines bs (lineEnd bs b + 1) := by
  unfold restLines
  rw [if_pos h, lines_eq, ← sl_line h]
  congr 1
  have e1 : (bs.drop b).drop (sl bs (lineEnd bs b) b).length = bs.drop (lineEnd bs b) := by
    rw [List.drop_drop, sl_line h]
    rfl
  rw [e1]
  have e2 : b + (sl bs (lineEnd bs b) b).length + 1 = lineEnd bs b + 1 := by
    rw [sl_line h]
    rfl
  rw [e2]
  by_cases h2 : lineEnd bs b + 1 ≤ bs.length
  · rw [if_pos h2, List.drop_eq_getElem_cons (by omega : lineEnd bs b < bs.length)]
  · rw [if_neg h2, List.drop_eq_nil_of_le (by omega)]
theorem noReturn_sl {bs : Bytes} {b e : Nat} (he : e ≤ bs.length) : noReturn (sl bs e b) = if b < e ∧ bs[e - 1]? = some 13 then sl bs (e - 1) b else sl bs e b := by
  unfold noReturn
  by_cases h : b < e
  · have hl : (sl bs e b).getLast? = bs[e - 1]? := by
      unfold sl
      rw [List.getLast?_eq_getElem?, List.length_drop, List.length_take, List.getElem?_drop, List.getElem?_take_of_lt (by omega)]
      congr 1
      omega
    rw [hl]
    by_cases h2 : bs[e - 1]? = some 13
    · rw [if_pos h2, if_pos ⟨h, h2⟩]
      unfold sl
      rw [List.dropLast_eq_take, List.length_drop, List.length_take, List.drop_take, List.drop_take, List.take_take]
      congr 1
      omega
    · rw [if_neg h2, if_neg (fun z => h2 z.2)]
  · have e1 : sl bs e b = [] := sl_nil (by omega)
    rw [if_neg (show ¬ (b < e ∧ bs[e - 1]? = some 13) from fun z => h z.1), e1]
    rfl
theorem units_spaces : ∀ (o : Nat) (l : Bytes), units o l = ((List.range (column l)).map fun i => (o + i, [(32 : UInt8)])) ++ units (o + column l) (l.drop (column l))
  | o, [] => by simp [column, units]
  | o, c :: r => by
    by_cases h : c = 32
    · subst h
      have ec : column (32 :: r) = column r + 1 := by
        unfold column
        rw [List.takeWhile_cons, if_pos (by decide), List.length_cons]
      rw [units_cons _ _ _ (by decide), units_spaces (o + 1) r, ec, List.range_succ_eq_map, List.map_cons, List.map_map, List.drop_succ_cons]
      rw [show o + 1 + column r = o + (column r + 1) by omega]
      show _ :: _ = _ :: _
      congr 1
      congr 1
      apply List.map_congr_left
      intro i _
      show (o + 1 + i, _) = (o + (i + 1), _)
      rw [show o + 1 + i = o + (i + 1) by omega]
    · have ec : column (c :: r) = 0 := by
        unfold column
        rw [List.takeWhile_cons, if_neg (by simpa using h)]
        rfl
      rw [ec]
      rfl
theorem isPl_space {u : Nat × Bytes} (h : isU u.2) : isPl [32] (uOf u) = (u.2 == [32]) := isPl_uOf h 32 (by decide)
theorem dw_map {us : List (Nat × Bytes)} (h : ∀ u ∈ us, isU u.2) {p : U → Bool} {q : Bytes → Bool} (hpq : ∀ u, isU u.2 → p (uOf u) = q u.2) : (us.map uOf).dropWhile p = (us.dropWhile fun u => q u.2).map uOf := by
  induction us with
  | nil => rfl
  | cons u r ih =>
    rw [List.map_cons, List.dropWhile_cons, List.dropWhile_cons, hpq u (h u List.mem_cons_self)]
    cases hq : q u.2 with
    | true => simp only [if_true]; exact ih fun v hv => h v (List.mem_cons_of_mem _ hv)
    | false => simp
theorem de_map {us : List (Nat × Bytes)} (h : ∀ u ∈ us, isU u.2) {p : U → Bool} {q : Bytes → Bool} (hpq : ∀ u, isU u.2 → p (uOf u) = q u.2) : dropEndU p (us.map uOf) = (dropEnd q us).map uOf := by
  unfold dropEndU dropEnd
  rw [← List.map_reverse, dw_map (fun u hu => h u (List.mem_reverse.mp hu)) hpq, List.map_reverse]
theorem dropWhile_all {α : Type} {p : α → Bool} {l r : List α} (h : ∀ x ∈ l, p x = true) : (l ++ r).dropWhile p = r.dropWhile p := by
  induction l with
  | nil => rfl
  | cons x l ih =>
    show List.dropWhile p (x :: (l ++ r)) = _
    rw [List.dropWhile_cons, if_pos (h x List.mem_cons_self)]
    exact ih fun y hy => h y (List.mem_cons_of_mem _ hy)
theorem head_rest {l : Bytes} : (l.drop (column l)).head? ≠ some 32 := by
  induction l with
  | nil => simp [column]
  | cons c r ih =>
    by_cases h : c = 32
    · subst h
      have ec : column (32 :: r) = column r + 1 := by
        unfold column
        rw [List.takeWhile_cons, if_pos (by decide), List.length_cons]
      rw [ec, List.drop_succ_cons]
      exact ih
    · have ec : column (c :: r) = 0 := by
        unfold column
        rw [List.takeWhile_cons, if_neg (by simpa using h)]
        rfl
      rw [ec]
      intro z
      exact h (Option.some.inj z)
theorem units_head {o : Nat} {l : Bytes} : ∀ {c : UInt8} {r : Bytes}, l = c :: r → ∃ b us, units o l = (o, c :: b) :: us := by
  rintro c r rfl
  by_cases h : c = 92
  · subst h
    cases r with
    | nil => exact ⟨[], [], units_one o⟩
    | cons d r => exact ⟨[d], _, units_two o d r⟩
  · exact ⟨[], _, units_cons o c r h⟩
theorem trim_line (o : Nat) (l : Bytes) : trimU (isPl [32]) ((units o l).map uOf) = (dropEnd (fun u => u == [32]) (units (o + column l) (l.drop (column l)))).map uOf := by
  have hU := units_isU (o + column l) (l.drop (column l))
  have hS := units_isU o l
  unfold trimU
  rw [dw_map (q := fun b => b == [32]) hS fun u hu => isPl_space hu, units_spaces o l, dropWhile_all (fun x hx => by
    obtain ⟨i, _, rfl⟩ := List.mem_map.mp hx
    rfl)]
  have keep : (units (o + column l) (l.drop (column l))).dropWhile (fun u => u.2 == [32]) = units (o + column l) (l.drop (column l)) := by
    cases e : l.drop (column l) with
    | nil => rfl
    | cons c r =>
      have hc : c ≠ 32 := fun z => head_rest (l := l) (by rw [e, z]; rfl)
      obtain ⟨b, us, e2⟩ := units_head (o := o + column l) (rfl : c :: r = c :: r)
      rw [e2, List.dropWhile_cons, if_neg]
      intro z
      have z2 : c :: b = [32] := beq_iff_eq.mp z
      injection z2 with z3
      exact hc z3
  rw [keep]
  exact de_map (q := fun b => b == [32]) hU fun u hu => isPl_space hu
end My
set_option linter.all false
namespace My
open Of
def lastLess (cs : List Nat) (c : Nat) : Nat := match lastOf (fun j => decide (cs.getD j 0 < c)) cs.length with
  | some j => j + 1
  | none => 0
theorem lastOf_congr {p q : Nat → Bool} : ∀ {n : Nat}, (∀ j, j < n → p j = q j) → lastOf p n = lastOf q n
  | 0, _ => rfl
  | n + 1, h => by
    rw [lastOf_succ, lastOf_succ, h n (by omega), lastOf_congr fun j hj => h j (by omega)]
theorem lastOf_lt {p : Nat → Bool} : ∀ {n j : Nat}, lastOf p n = some j → j < n ∧ p j = true
  | 0, j, h => by rw [lastOf_zero] at h; cases h
  | n + 1, j, h => by
    rw [lastOf_succ] at h
    split at h
    · rename_i e
      cases h
      exact ⟨by omega, e⟩
    · obtain ⟨a, b⟩ := lastOf_lt h
      exact ⟨by omega, b⟩
theorem lastLess_le (cs : List Nat) (c : Nat) : lastLess cs c ≤ cs.length := by
  unfold lastLess
  split
  · rename_i j h
    have := (lastOf_lt h).1
    omega
  · omega
theorem lastLess_snoc (cs : List Nat) (d c : Nat) : lastLess (cs ++ [d]) c = if d < c then cs.length + 1 else lastLess cs c := by
  unfold lastLess
  rw [List.length_append, List.length_singleton, lastOf_succ]
  have e1 : (cs ++ [d]).getD cs.length 0 = d := by
    rw [List.getD_eq_getElem?_getD, List.getElem?_append_right (Nat.le_refl _), Nat.sub_self]
    rfl
  rw [e1]
  by_cases h : d < c
  · rw [if_pos (decide_eq_true h), if_pos h]
  · rw [if_neg (fun z => h (of_decide_eq_true z)), if_neg h]
    rw [lastOf_congr (q := fun j => decide (cs.getD j 0 < c))]
    intro j hj
    have : (cs ++ [d]).getD j 0 = cs.getD j 0 := by
      rw [List.getD_eq_getElem?_getD, List.getD_eq_getElem?_getD, List.getElem?_append_left hj]
    rw [this]
theorem snocInd {α : Type} {M : List α → Prop} (h0 : M []) (hs : ∀ l a, M l → M (l ++ [a])) : ∀ l, M l := by
  intro l
  rw [← List.reverse_reverse l]
  induction l.reverse with
  | nil => exact h0
  | cons a r ih => rw [List.reverse_cons]; exact hs _ _ ih
theorem tw_cols (c : Nat) : ∀ cs : List Nat, cs.reverse.takeWhile (fun d => decide (c ≤ d)) = (cs.drop (lastLess cs c)).reverse := by
  refine snocInd rfl fun cs d ih => ?_
  rw [List.reverse_append, lastLess_snoc]
  show List.takeWhile _ (d :: cs.reverse) = _
  rw [List.takeWhile_cons]
  by_cases h : d < c
  · rw [if_neg (fun z => by have := of_decide_eq_true z; omega), if_pos h, List.drop_eq_nil_of_le (by simp)]
    rfl
  · rw [if_pos (decide_eq_true (by omega)), if_neg h, ih, List.drop_append_of_le_length (lastLess_le cs c), List.reverse_append]
    rfl
theorem above_eq (c : Nat) : ∀ cs : List Nat, above cs.reverse c = match lastLess cs c with | 0 => [] | p + 1 => cs.getD p 0 :: above (cs.take p).reverse (cs.getD p 0) := by
  refine snocInd rfl fun cs d ih => ?_
  rw [List.reverse_append, lastLess_snoc]
  show above (d :: cs.reverse) c = _
  rw [above]
  by_cases h : d < c
  · rw [if_pos h, if_pos h]
    dsimp only
    have e1 : (cs ++ [d]).getD cs.length 0 = d := by
      rw [List.getD_eq_getElem?_getD, List.getElem?_append_right (Nat.le_refl _), Nat.sub_self]
      rfl
    rw [e1, List.take_append_of_le_length (Nat.le_refl _), List.take_length]
  · rw [if_neg h, if_neg h, ih]
    have le := lastLess_le cs c
    cases e : lastLess cs c with
    | zero => rfl
    | succ p =>
      rw [e] at le
      dsimp only
      have e1 : (cs ++ [d]).getD p 0 = cs.getD p 0 := by
        rw [List.getD_eq_getElem?_getD, List.getD_eq_getElem?_getD, List.getElem?_append_left (by omega)]
      rw [e1, List.take_append_of_le_length (by omega)]
structure DepthOk (cs : List Nat) (l : Outline) : Prop where
  len : cs.length = l.length
  at_ : ∀ j, j < l.length → depthAt l j = (above (cs.take j).reverse (cs.getD j 0)).length
theorem DepthOk.nil : DepthOk [] [] := ⟨rfl, fun j h => absurd h (by simp)⟩
def lineDepth (cs : List Nat) (l : Outline) (c : Nat) : Nat := match lastLess cs c with | 0 => 0 | p + 1 => depthAt l p + 1
theorem DepthOk.depth {cs : List Nat} {l : Outline} (h : DepthOk cs l) (c : Nat) : (above cs.reverse c).length = lineDepth cs l c := by
  rw [above_eq]
  unfold lineDepth
  have le := lastLess_le cs c
  cases e : lastLess cs c with
  | zero => rfl
  | succ p =>
    rw [e] at le
    dsimp only
    rw [h.at_ p (by have := h.len; omega), List.length_cons]
theorem depthAt_left {l m : Outline} {j : Nat} (h : j < l.length) : depthAt (l ++ m) j = depthAt l j := by
  unfold depthAt
  rw [List.getElem?_append_left h]
theorem DepthOk.snoc {cs : List Nat} {l : Outline} (h : DepthOk cs l) {c : Nat} {t : Bytes} : DepthOk (cs ++ [c]) (l ++ [⟨lineDepth cs l c, t⟩]) := by
  have hl := h.len
  refine ⟨by rw [List.length_append, List.length_append, hl]; rfl, fun j hj => ?_⟩
  rw [List.length_append, List.length_singleton] at hj
  by_cases hjl : j < l.length
  · rw [depthAt_left hjl, h.at_ j hjl, List.take_append_of_le_length (by omega)]
    have e1 : (cs ++ [c]).getD j 0 = cs.getD j 0 := by
      rw [List.getD_eq_getElem?_getD, List.getD_eq_getElem?_getD, List.getElem?_append_left (by omega)]
    rw [e1]
  · have ej : j = cs.length := by omega
    subst ej
    have e1 : (cs ++ [c]).getD cs.length 0 = c := by
      rw [List.getD_eq_getElem?_getD, List.getElem?_append_right (Nat.le_refl _), Nat.sub_self]
      rfl
    rw [e1, List.take_append_of_le_length (Nat.le_refl _), List.take_length, h.depth]
    unfold depthAt
    rw [hl, List.getElem?_append_right (Nat.le_refl _), Nat.sub_self]
    rfl
theorem node_room {brk : Nat} {ws : List Int} (hb : Brk brk ws) {l : Outline} {d : Nat} {u : Nat × Bytes} {r : List (Nat × Bytes)} (h : ∀ v ∈ u :: r, isU v.2) (h1 : ¬ 64 ≤ l.length) (h2 : ¬ 16 ≤ d) :
    (∃ f, node brk l d (u :: r) = .error f ∧ textU ws ((u :: r).map uOf) = .bad f.code f.at_) ∨
    ∃ t, node brk l d (u :: r) = .ok (l ++ [⟨d, t⟩]) ∧ textU ws ((u :: r).map uOf) = .good (t.map fun c => (c.toNat : Int)) ∧ t.length ≤ 64 := by
  have e0 : node brk l d (u :: r) = match reads brk (u :: r) with | .error f => .error f | .ok t => if TEXT < t.length then .error ⟨6, u.1⟩ else .ok (l ++ [⟨d, t⟩]) := by
    show (if NODES ≤ l.length then _ else _) = _
    rw [if_neg (show ¬ NODES ≤ l.length from h1), if_neg (show ¬ DEPTHS ≤ d from h2)]
    cases reads brk (u :: r) <;> rfl
  rw [e0]
  unfold textU
  rcases reads_uOf hb h with ⟨f, r1, r2⟩ | ⟨t, r1, r2, r3, r4⟩
  · rw [r1, r2]
    exact .inl ⟨f, rfl, rfl⟩
  · rw [r1, r2]
    dsimp only
    have hl : ((u :: r).map uOf).length = t.length := by rw [List.length_map, r4]
    rw [hl]
    by_cases h3 : 64 < t.length
    · rw [if_pos (show TEXT < t.length from h3), if_pos h3]
      refine .inl ⟨⟨6, u.1⟩, rfl, ?_⟩
      show Says.bad 6 (uOf u).place = _
      rw [uOf_place]
      rfl
    · rw [if_neg (show ¬ TEXT < t.length from h3), if_neg h3]
      exact .inr ⟨t, rfl, by rw [r3], by omega⟩
theorem node_many {brk : Nat} {l : Outline} {d : Nat} {u : Nat × Bytes} {r : List (Nat × Bytes)} (h1 : 64 ≤ l.length) : node brk l d (u :: r) = .error ⟨4, u.1⟩ := by
  show (if NODES ≤ l.length then _ else _) = _
  rw [if_pos (show NODES ≤ l.length from h1)]
theorem node_deep {brk : Nat} {l : Outline} {d : Nat} {u : Nat × Bytes} {r : List (Nat × Bytes)} (h1 : ¬ 64 ≤ l.length) (h2 : 16 ≤ d) : node brk l d (u :: r) = .error ⟨5, u.1⟩ := by
  show (if NODES ≤ l.length then _ else _) = _
  rw [if_neg (show ¬ NODES ≤ l.length from h1), if_pos (show DEPTHS ≤ d from h2)]
def lineUs (o : Nat) (line : Bytes) : List (Nat × Bytes) := dropEnd (fun u => u == [32]) (units (o + column (noReturn line)) ((noReturn line).drop (column (noReturn line))))
theorem dropEnd_first {q : Bytes → Bool} {u : Nat × Bytes} {r : List (Nat × Bytes)} (h : q u.2 = false) : ∃ r', dropEnd q (u :: r) = u :: r' ∧ ∀ v ∈ r', v ∈ r := by
  unfold dropEnd
  rw [List.reverse_cons]
  have key : ∀ m : List (Nat × Bytes), ∃ m', (m ++ [u]).dropWhile (fun v => q v.2) = m' ++ [u] ∧ ∀ v ∈ m', v ∈ m := by
    intro m
    induction m with
    | nil => exact ⟨[], by show List.dropWhile _ [u] = _; rw [List.dropWhile_cons, if_neg (by rw [h]; decide)]; rfl, fun _ z => z⟩
    | cons a m ih =>
      show ∃ m', List.dropWhile _ (a :: (m ++ [u])) = _ ∧ _
      rw [List.dropWhile_cons]
      split
      · obtain ⟨m', e, k⟩ := ih
        exact ⟨m', e, fun v hv => List.mem_cons_of_mem _ (k v hv)⟩
      · exact ⟨a :: m, rfl, fun _ z => z⟩
  obtain ⟨m', e, k⟩ := key r.reverse
  refine ⟨m'.reverse, ?_, fun v hv => List.mem_reverse.mp (k v (List.mem_reverse.mp hv))⟩
  rw [e, List.reverse_append]
  rfl
theorem dropEnd_mem {q : Bytes → Bool} {us : List (Nat × Bytes)} {v : Nat × Bytes} (h : v ∈ dropEnd q us) : v ∈ us := by
  unfold dropEnd at h
  have h2 := List.mem_reverse.mp h
  exact List.mem_reverse.mp ((List.dropWhile_sublist _).subset h2)
theorem lineUs_isU (o : Nat) (line : Bytes) : ∀ u ∈ lineUs o line, isU u.2 := fun u hu => units_isU _ _ u (dropEnd_mem hu)
theorem line_cases {cs : List Nat} {l : Outline} (D : DepthOk cs l) (o : Nat) (ln : Bytes) :
    (lineUs o ln = [] ∧ line ⟨cs.reverse, l⟩ (o, ln) = .ok ⟨cs.reverse, l⟩) ∨
    ∃ u r c, lineUs o ln = u :: r ∧ u.1 = o + c ∧
      ((isPl [35] (uOf u) = true ∧ line ⟨cs.reverse, l⟩ (o, ln) = .ok ⟨cs.reverse, l⟩) ∨
       (isPl [35] (uOf u) = false ∧
         ((∃ d, cs[lastLess cs c]? = some d ∧ d ≠ c ∧ line ⟨cs.reverse, l⟩ (o, ln) = .error ⟨3, o + c⟩) ∨
          ((∀ d, cs[lastLess cs c]? = some d → d = c) ∧ line ⟨cs.reverse, l⟩ (o, ln) = match node 1 l (lineDepth cs l c) (u :: r) with | .error f => .error f | .ok n => .ok ⟨c :: cs.reverse, n⟩)))) := by
  have hunf : line ⟨cs.reverse, l⟩ (o, ln) = (if (noReturn ln).drop (column (noReturn ln)) = [] ∨ ((noReturn ln).drop (column (noReturn ln))).head? = some 35 then .ok ⟨cs.reverse, l⟩
      else if ((cs.reverse.takeWhile fun d => decide (column (noReturn ln) ≤ d)).getLast?).getD (column (noReturn ln)) ≠ column (noReturn ln) then .error ⟨3, o + column (noReturn ln)⟩
      else match node 1 l (above cs.reverse (column (noReturn ln))).length (lineUs o ln) with
        | .error f => .error f
        | .ok n => .ok ⟨column (noReturn ln) :: cs.reverse, n⟩) := rfl
  rw [hunf]
  unfold lineUs
  cases e : (noReturn ln).drop (column (noReturn ln)) with
  | nil =>
    left
    exact ⟨rfl, by rw [if_pos (.inl rfl)]⟩
  | cons c0 r0 =>
    right
    have hc : c0 ≠ 32 := fun z => head_rest (l := noReturn ln) (by rw [e, z]; rfl)
    obtain ⟨b, us, e2⟩ := units_head (o := o + column (noReturn ln)) (rfl : c0 :: r0 = c0 :: r0)
    have hU : isU (c0 :: b) := units_isU (o + column (noReturn ln)) (c0 :: r0) (o + column (noReturn ln), c0 :: b) (by rw [e2]; exact List.mem_cons_self)
    have hq : ((c0 :: b : Bytes) == [32]) = false := by
      rw [beq_eq_false_iff_ne]
      intro z
      injection z with z1
      exact hc z1
    obtain ⟨r', e3, _⟩ := dropEnd_first (q := fun u => u == [32]) (u := (o + column (noReturn ln), c0 :: b)) (r := us) hq
    rw [e2, e3]
    refine ⟨_, r', column (noReturn ln), rfl, rfl, ?_⟩
    have hpl : isPl [35] (uOf (o + column (noReturn ln), c0 :: b)) = (c0 :: b == [35]) := isPl_uOf hU 35 (by decide)
    rw [hpl]
    by_cases h35 : c0 = 35
    · left
      subst h35
      have hb : b = [] := by
        rcases hU with ⟨c, z⟩ | ⟨d, z⟩
        · injection z
        · injection z with z1
          exact absurd z1 (by decide)
      subst hb
      exact ⟨rfl, by rw [if_pos (.inr rfl)]⟩
    · right
      refine ⟨?_, ?_⟩
      · rw [beq_eq_false_iff_ne]
        intro z
        injection z with z1
        exact h35 z1
      · rw [if_neg (show ¬ (c0 :: r0 = [] ∨ (c0 :: r0).head? = some 35) from fun z => z.elim (fun z => nomatch z) fun z => h35 (Option.some.inj z)), tw_cols, List.getLast?_reverse, List.head?_drop, D.depth]
        cases hd : cs[lastLess cs (column (noReturn ln))]? with
        | none =>
          right
          exact ⟨fun d z => (nomatch z), by rw [if_neg (by simp)]⟩
        | some d =>
          by_cases hdc : d = column (noReturn ln)
          · right
            refine ⟨fun d' z => by cases z; exact hdc, ?_⟩
            rw [if_neg (by simp [hdc])]
          · left
            exact ⟨d, rfl, hdc, by rw [if_pos (by simpa using hdc)]⟩
end My
set_option linter.all false
namespace My
open Of
structure Good (l : Outline) : Prop where
  len : l.length ≤ 64
  dep : ∀ x ∈ l, x.depth ≤ 15
  txt : ∀ x ∈ l, x.text.length ≤ 64
theorem Good.nil : Good [] := ⟨by decide, (fun _ h => nomatch h), (fun _ h => nomatch h)⟩
theorem Good.snoc {l : Outline} {d : Nat} {t : Bytes} (g : Good l) (h1 : ¬ 64 ≤ l.length) (h2 : ¬ 16 ≤ d) (h3 : t.length ≤ 64) : Good (l ++ [⟨d, t⟩]) := by
  refine ⟨by rw [List.length_append, List.length_singleton]; omega, fun x hx => ?_, fun x hx => ?_⟩
  · rcases List.mem_append.mp hx with h | h
    · exact g.dep x h
    · rw [List.mem_singleton.mp h]
      show d ≤ 15
      omega
  · rcases List.mem_append.mp hx with h | h
    · exact g.txt x h
    · rw [List.mem_singleton.mp h]
      exact h3
theorem node_good {brk : Nat} {l n : Outline} {d : Nat} {us : List (Nat × Bytes)} (g : Good l) (h : node brk l d us = .ok n) : Good n := by
  cases us with
  | nil => cases h; exact g
  | cons u r =>
    unfold node at h
    dsimp only at h
    split at h
    · cases h
    · rename_i h1
      split at h
      · cases h
      · rename_i h2
        split at h
        · cases h
        · split at h
          · cases h
          · rename_i h3
            cases h
            exact g.snoc h1 h2 (by have : ¬ 64 < _ := h3; omega)
theorem line_inv {cs : List Nat} {l : Outline} (D : DepthOk cs l) (g : Good l) {x : Nat × Bytes} {s : Laid} (h : line ⟨cs.reverse, l⟩ x = .ok s) : ∃ cs', s.cols = cs'.reverse ∧ DepthOk cs' s.nodes ∧ Good s.nodes := by
  obtain ⟨o, ln⟩ := x
  rcases line_cases D o ln with ⟨_, e⟩ | ⟨u, r, c, hu, ho, ⟨_, e⟩ | ⟨_, ⟨d, _, _, e⟩ | ⟨_, e⟩⟩⟩
  · rw [e] at h
    cases h
    exact ⟨cs, rfl, D, g⟩
  · rw [e] at h
    cases h
    exact ⟨cs, rfl, D, g⟩
  · rw [e] at h
    cases h
  · rw [e] at h
    have hU : ∀ v ∈ u :: r, isU v.2 := by rw [← hu]; exact lineUs_isU o ln
    cases hn : node 1 l (lineDepth cs l c) (u :: r) with
    | error f =>
      rw [hn] at h
      cases h
    | ok n =>
      rw [hn] at h
      cases h
      have gn := node_good g hn
      by_cases h1 : 64 ≤ l.length
      · rw [node_many h1] at hn
        cases hn
      · by_cases h2 : 16 ≤ lineDepth cs l c
        · rw [node_deep h1 h2] at hn
          cases hn
        · rcases node_room Brk.laid hU h1 h2 with ⟨f, e1, _⟩ | ⟨t, e1, _⟩
          · rw [hn] at e1
            cases e1
          · rw [hn] at e1
            cases e1
            exact ⟨cs ++ [c], by rw [List.reverse_append]; rfl, D.snoc, gn⟩
theorem linesRead_good : ∀ {xs : List (Nat × Bytes)} {cs : List Nat} {l n : Outline}, DepthOk cs l → Good l → linesRead ⟨cs.reverse, l⟩ xs = .ok n → Good n
  | [], cs, l, n, D, g, h => by
    cases h
    exact g
  | x :: r, cs, l, n, D, g, h => by
    unfold linesRead at h
    cases hx : line ⟨cs.reverse, l⟩ x with
    | error f =>
      rw [hx] at h
      cases h
    | ok s =>
      rw [hx] at h
      obtain ⟨cs', e1, D', g'⟩ := line_inv D g hx
      obtain ⟨sc, sn⟩ := s
      dsimp only at e1 D' g' h
      subst e1
      exact linesRead_good D' g' h
theorem read0_good {t : Bytes} {n : Outline} (h : read0 t = .ok n) : Good n := linesRead_good DepthOk.nil Good.nil h
end My
set_option linter.all false
namespace My
open Of
theorem isPl_blank {u : Nat × Bytes} (h : isU u.2) : isPl [32, 10, 13] (uOf u) = isBlank u.2 := by
  have e : isPl [32, 10, 13] (uOf u) = (isPl [32] (uOf u) || isPl [10] (uOf u) || isPl [13] (uOf u)) := by
    unfold isPl
    cases (uOf u).plain
    · rfl
    · simp only [Bool.true_and, List.contains_cons, List.contains_nil, Bool.or_false, Bool.or_assoc]
  rw [e, isPl_space h, show isPl [10] (uOf u) = (u.2 == [10]) from isPl_uOf h 10 (by decide), show isPl [13] (uOf u) = (u.2 == [13]) from isPl_uOf h 13 (by decide)]
  rfl
theorem isPl_sep {u : Nat × Bytes} (h : isU u.2) : isPl [59, 123, 125] (uOf u) = (u.2 == [59] || (u.2 == [123] || u.2 == [125])) := by
  have e : isPl [59, 123, 125] (uOf u) = (isPl [59] (uOf u) || (isPl [123] (uOf u) || isPl [125] (uOf u))) := by
    unfold isPl
    cases (uOf u).plain
    · rfl
    · simp only [Bool.true_and, List.contains_cons, List.contains_nil, Bool.or_false]
  rw [e, show isPl [59] (uOf u) = (u.2 == [59]) from isPl_uOf h 59 (by decide), show isPl [123] (uOf u) = (u.2 == [123]) from isPl_uOf h 123 (by decide), show isPl [125] (uOf u) = (u.2 == [125]) from isPl_uOf h 125 (by decide)]
def core (p : List (Nat × Bytes)) : List (Nat × Bytes) := dropEnd isBlank (p.dropWhile fun u => isBlank u.2)
theorem trim_piece {p : List (Nat × Bytes)} (h : ∀ u ∈ p, isU u.2) : trimU (isPl [32, 10, 13]) (p.map uOf) = (core p).map uOf := by
  unfold trimU core
  rw [dw_map (q := isBlank) h fun u hu => isPl_blank hu]
  exact de_map (q := isBlank) (fun u hu => h u ((List.dropWhile_sublist _).subset hu)) fun u hu => isPl_blank hu
theorem core_mem {p : List (Nat × Bytes)} {u : Nat × Bytes} (h : u ∈ core p) : u ∈ p := (List.dropWhile_sublist _).subset (dropEnd_mem h)
theorem core_len (p : List (Nat × Bytes)) : (core p).length ≤ p.length := by
  unfold core dropEnd
  rw [List.length_reverse]
  have h1 := (List.dropWhile_sublist (fun u : Nat × Bytes => isBlank u.2) (l := (p.dropWhile fun u => isBlank u.2).reverse)).length_le
  rw [List.length_reverse] at h1
  have h2 := (List.dropWhile_sublist (fun u : Nat × Bytes => isBlank u.2) (l := p)).length_le
  omega
theorem ended_eq (l : Outline) (os : List Nat) (p : List (Nat × Bytes)) : ended ⟨l, os, p⟩ = match node 10 l os.length (core p) with | .error f => .error f | .ok n => .ok (⟨n, os, []⟩, !(core p).isEmpty) := rfl
theorem unit_plain {l : Outline} {os : List Nat} {p : List (Nat × Bytes)} {u : Nat × Bytes} (h : isU u.2) (hs : isPl [59, 123, 125] (uOf u) = false) : unit ⟨l, os, p⟩ u = .ok ⟨l, os, p ++ [u]⟩ := by
  rw [isPl_sep h] at hs
  simp only [Bool.or_eq_false_iff, beq_eq_false_iff_ne] at hs
  unfold unit
  rw [if_neg (fun z => z.elim hs.1 fun z => z.elim hs.2.1 hs.2.2)]
theorem unit_sep {l : Outline} {os : List Nat} {p : List (Nat × Bytes)} {u : Nat × Bytes} (h : isU u.2) (hs : isPl [59, 123, 125] (uOf u) = true) :
    (u.2 = [59] ∧ (uOf u).byte = 59 ∧ unit ⟨l, os, p⟩ u = match node 10 l os.length (core p) with | .error f => .error f | .ok n => .ok ⟨n, os, []⟩) ∨
    (u.2 = [123] ∧ (uOf u).byte = 123 ∧ unit ⟨l, os, p⟩ u = match node 10 l os.length (core p) with | .error f => .error f | .ok n => if (!(core p).isEmpty) = true then .ok ⟨n, u.1 :: os, []⟩ else .error ⟨7, u.1⟩) ∨
    (u.2 = [125] ∧ (uOf u).byte = 125 ∧ unit ⟨l, os, p⟩ u = match node 10 l os.length (core p) with | .error f => .error f | .ok n => match os with | [] => .error ⟨8, u.1⟩ | _ :: r => .ok ⟨n, r, []⟩) := by
  rw [isPl_sep h] at hs
  simp only [Bool.or_eq_true, beq_iff_eq] at hs
  obtain ⟨o, b⟩ := u
  dsimp only at hs
  rcases hs with z | z | z
  · subst z
    refine .inl ⟨rfl, rfl, ?_⟩
    unfold unit
    rw [if_pos (.inl rfl), ended_eq]
    cases node 10 l os.length (core p) <;> rfl
  · subst z
    refine .inr (.inl ⟨rfl, rfl, ?_⟩)
    unfold unit
    rw [if_pos (.inr (.inl rfl)), ended_eq]
    cases node 10 l os.length (core p) <;> rfl
  · subst z
    refine .inr (.inr ⟨rfl, rfl, ?_⟩)
    unfold unit
    rw [if_pos (.inr (.inr rfl)), ended_eq]
    cases node 10 l os.length (core p) with
    | error f => rfl
    | ok n => cases os <;> rfl
theorem unit_good {s s' : Braced} {u : Nat × Bytes} (g : Good s.nodes) (h : unit s u = .ok s') : Good s'.nodes := by
  unfold unit at h
  split at h
  · split at h
    · cases h
    · rename_i t given he
      have gt : Good t.nodes := by
        unfold ended at he
        dsimp only at he
        split at he
        · cases he
        · rename_i n hn
          cases he
          exact node_good g hn
      split at h
      · cases h; exact gt
      · split at h
        · split at h
          · cases h; exact gt
          · cases h
        · split at h
          · cases h
          · cases h; exact gt
  · cases h
    exact g
theorem unitsRead_good : ∀ {us : List (Nat × Bytes)} {s : Braced} {n : Outline}, Good s.nodes → unitsRead s us = .ok n → Good n
  | [], s, n, g, h => by
    unfold unitsRead at h
    split at h
    · cases h
    · rename_i t b he
      have gt : Good t.nodes := by
        unfold ended at he
        dsimp only at he
        split at he
        · cases he
        · rename_i n hn
          cases he
          exact node_good g hn
      split at h
      · cases h; exact gt
      · cases h
  | u :: r, s, n, g, h => by
    unfold unitsRead at h
    split at h
    · cases h
    · rename_i t ht
      exact unitsRead_good (unit_good g ht) h
theorem read1_good {t : Bytes} {n : Outline} (h : read1 t = .ok n) : Good n := unitsRead_good (s := ⟨[], [], []⟩) Good.nil h
end My
set_option linter.all false
namespace My
open Of
def special : Nat → List UInt8
  | 0 => [92]
  | _ => [92, 59, 123, 125]
def heads : Nat → List UInt8
  | 0 => [35]
  | _ => []
def esc (f : Nat) (t : Bytes) : Bytes := escaped (special f) (heads f) t
def needs (f : Nat) (t : Bytes) (i : Nat) : Bool := decide ((special f).contains (t.getD i 0) = true ∨ (i = 0 ∧ (heads f).contains (t.getD i 0) = true) ∨ (t.getD i 0 = 32 ∧ (i = 0 ∨ i + 1 = t.length)))
def escB (f : Nat) (t : Bytes) (i : Nat) : Bytes := if needs f t i = true then [92, t.getD i 0] else [t.getD i 0]
def escTo (f : Nat) (t : Bytes) (n : Nat) : Bytes := (List.range n).flatMap (escB f t)
theorem esc_eq (f : Nat) (t : Bytes) : esc f t = escTo f t t.length := by
  unfold esc escaped escTo
  congr 1
  funext i
  unfold escB needs
  dsimp only
  by_cases h : (special f).contains (t.getD i 0) = true ∨ (i = 0 ∧ (heads f).contains (t.getD i 0) = true) ∨ (t.getD i 0 = 32 ∧ (i = 0 ∨ i + 1 = t.length))
  · rw [if_pos h, if_pos (decide_eq_true h)]
  · rw [if_neg h, if_neg (fun z => h (of_decide_eq_true z))]
theorem escTo_succ (f : Nat) (t : Bytes) (n : Nat) : escTo f t (n + 1) = escTo f t n ++ escB f t n := by
  unfold escTo
  rw [List.range_succ, List.flatMap_append]
  simp
theorem escB_len (f : Nat) (t : Bytes) (i : Nat) : (escB f t i).length ≤ 2 := by
  unfold escB
  split <;> simp
theorem escTo_len (f : Nat) (t : Bytes) : ∀ n, (escTo f t n).length ≤ 2 * n
  | 0 => Nat.le_refl _
  | n + 1 => by
    rw [escTo_succ, List.length_append]
    have := escTo_len f t n
    have := escB_len f t n
    omega
theorem esc_len (f : Nat) (t : Bytes) : (esc f t).length ≤ 2 * t.length := by rw [esc_eq]; exact escTo_len f t _
theorem needs_prog (f : Nat) (t : Bytes) (i : Nat) (c : UInt8) (hc : t[i]? = some c) : needs f t i =
    if c = 92 then true else if c = 32 then (decide (i = 0) || decide (i + 1 = t.length)) else if f = 0 then (decide (c = 35) && decide (i = 0)) else (decide (c = 59) || (decide (c = 123) || decide (c = 125))) := by
  have e : t.getD i 0 = c := by rw [List.getD_eq_getElem?_getD, hc]; rfl
  unfold needs
  rw [e]
  by_cases h92 : c = 92
  · subst h92
    rw [if_pos rfl]
    refine decide_eq_true (.inl ?_)
    cases f <;> rfl
  · rw [if_neg h92]
    by_cases h32 : c = 32
    · subst h32
      rw [if_pos rfl, ← Bool.decide_or]
      apply decide_eq_decide.mpr
      constructor
      · rintro (z | ⟨_, z⟩ | ⟨_, z⟩)
        · cases f <;> simp [special] at z
        · cases f <;> simp [heads] at z
        · exact z
      · exact fun z => .inr (.inr ⟨rfl, z⟩)
    · rw [if_neg h32]
      cases f with
      | zero =>
        rw [if_pos rfl, ← Bool.decide_and]
        apply decide_eq_decide.mpr
        have e1 : (special 0).contains c = true ↔ c = 92 := by simp [special]
        have e2 : (heads 0).contains c = true ↔ c = 35 := by simp [heads]
        rw [e1, e2]
        constructor
        · rintro (z | ⟨z1, z2⟩ | ⟨z, _⟩)
          · exact absurd z h92
          · exact ⟨z2, z1⟩
          · exact absurd z h32
        · exact fun z => .inr (.inl ⟨z.2, z.1⟩)
      | succ f =>
        rw [if_neg (by omega), ← Bool.decide_or, ← Bool.decide_or]
        apply decide_eq_decide.mpr
        have e1 : (special (f + 1)).contains c = true ↔ (c = 92 ∨ c = 59 ∨ c = 123 ∨ c = 125) := by simp [special]
        have e2 : (heads (f + 1)).contains c = true ↔ False := by simp [heads]
        rw [e1, e2]
        constructor
        · rintro (z | ⟨_, z⟩ | ⟨z, _⟩)
          · exact z.resolve_left h92
          · exact z.elim
          · exact absurd z h32
        · exact fun z => .inl (.inr z)
def w0 (step : Nat) (l : Outline) (i : Nat) : Bytes := write0 step (l.take i)
theorem w0_succ {step : Nat} {l : Outline} {i : Nat} {x : Node} (h : l[i]? = some x) : w0 step l (i + 1) = w0 step l i ++ (List.replicate (step * x.depth) 32 ++ (esc 0 x.text ++ [10])) := by
  unfold w0 write0
  rw [take_snoc h, List.flatMap_append]
  simp [esc, special, heads]
theorem w0_len {step : Nat} {l : Outline} (g : Good l) (hs : step ≤ 8) : ∀ i, (w0 step l i).length ≤ 300 * i
  | 0 => by simp [w0, write0]
  | i + 1 => by
    have ih := w0_len (l := l) g hs i
    cases h : l[i]? with
    | none =>
      have e : w0 step l (i + 1) = w0 step l i := by
        unfold w0
        have hl := List.getElem?_eq_none_iff.mp h
        rw [List.take_of_length_le hl, List.take_of_length_le (by omega)]
      rw [e]
      omega
    | some x =>
      rw [w0_succ h]
      have hx := List.mem_of_getElem? h
      have h1 := g.dep x hx
      have h2 := g.txt x hx
      have h3 := esc_len 0 x.text
      have h4 : step * x.depth ≤ 8 * 15 := Nat.mul_le_mul hs h1
      simp only [List.length_append, List.length_replicate, List.length_cons, List.length_nil]
      omega
def tail1 : Nat → Outline → Bytes
  | d, [] => List.replicate d 125
  | d, y :: r => between d y.depth ++ (esc 1 y.text ++ tail1 y.depth r)
theorem write1_cons : ∀ (x : Node) (r : Outline), write1 (x :: r) = esc 1 x.text ++ tail1 x.depth r
  | x, [] => rfl
  | x, y :: r => by
    have e : write1 (x :: y :: r) = escaped [92, 59, 123, 125] [] x.text ++ (between x.depth y.depth ++ write1 (y :: r)) := rfl
    rw [e, write1_cons y r]
    rfl
theorem between_len (a b : Nat) (h : a ≤ 15) : (between a b).length ≤ 15 := by
  unfold between
  split
  · simp
  · split
    · rw [List.length_replicate]; omega
    · simp
theorem tail1_len : ∀ {l : Outline} {d : Nat}, Good l → d ≤ 15 → (tail1 d l).length ≤ 15 + 150 * l.length
  | [], d, _, h => by simp [tail1]; omega
  | y :: r, d, g, h => by
    have g' : Good r := ⟨by have := g.len; rw [List.length_cons] at this; omega, fun x hx => g.dep x (List.mem_cons_of_mem _ hx), fun x hx => g.txt x (List.mem_cons_of_mem _ hx)⟩
    have ih := tail1_len g' (g.dep y List.mem_cons_self)
    have h1 := between_len d y.depth h
    have h2 := g.txt y List.mem_cons_self
    have h3 := esc_len 1 y.text
    show (between d y.depth ++ (esc 1 y.text ++ tail1 y.depth r)).length ≤ _
    rw [List.length_append, List.length_append, List.length_cons]
    omega
theorem write1_len {l : Outline} (g : Good l) : (write1 l).length ≤ 20000 := by
  cases l with
  | nil => simp [write1]
  | cons x r =>
    have g' : Good r := ⟨by have := g.len; rw [List.length_cons] at this; omega, fun y hy => g.dep y (List.mem_cons_of_mem _ hy), fun y hy => g.txt y (List.mem_cons_of_mem _ hy)⟩
    have h1 := tail1_len g' (g.dep x List.mem_cons_self)
    have h2 := g.txt x List.mem_cons_self
    have h3 := esc_len 1 x.text
    have h4 := g.len
    rw [List.length_cons] at h4
    rw [write1_cons, List.length_append]
    omega
end My
set_option Elab.async false
set_option linter.all false
namespace My
open Of (Bytes Outline Node)
def lnOf (t : Bytes) : Nat := 1 + (t.filter fun (c : UInt8) => c == 10).length
def clOf (t : Bytes) : Nat := 1 + ((t.reverse).takeWhile fun (c : UInt8) => !(c == 10)).length
theorem place_eq (t : Bytes) (o : Nat) : OfDesk.placeOf t o = [lnOf (t.take o), clOf (t.take o)] := rfl
theorem take_succ_at {α : Type} {l : List α} {i : Nat} {c : α} (h : l[i]? = some c) : l.take (i + 1) = l.take i ++ [c] := by
  rw [List.take_add_one, h]
  rfl
theorem ln_feed (t : Bytes) : lnOf (t ++ [10]) = lnOf t + 1 := by
  unfold lnOf
  rw [List.filter_append, List.length_append]
  show 1 + (_ + 1) = _
  omega
theorem cl_feed (t : Bytes) : clOf (t ++ [10]) = 1 := by
  unfold clOf
  rw [List.reverse_append]
  rfl
theorem ln_other (t : Bytes) {c : UInt8} (h : ¬ c = 10) : lnOf (t ++ [c]) = lnOf t := by
  unfold lnOf
  rw [List.filter_append, List.length_append, List.filter_cons, if_neg (fun z => h (eq_of_beq z))]
  rfl
theorem cl_other (t : Bytes) {c : UInt8} (h : ¬ c = 10) : clOf (t ++ [c]) = clOf t + 1 := by
  unfold clOf
  rw [List.reverse_append]
  show 1 + ((c :: t.reverse).takeWhile _).length = _
  rw [List.takeWhile_cons, if_pos (by rw [beq_eq_false_iff_ne.mpr h]; rfl)]
  show 1 + (_ + 1) = _
  omega
end My
set_option Elab.async false
set_option linter.all false
namespace My
open Of (Bytes Outline Node)
def bI (t : Bytes) : List Int := t.map fun (c : UInt8) => (c.toNat : Int)
def Dec (l : List Int) (k : Nat) (cs : List (List (List Int))) : Prop := ∃ f, PyFlat.calls PyWqande.shape f (l.drop k) = some cs
inductive At (l : List Int) (k : Nat) : Nat → OfDesk.Call → Prop
  | init : l[k]? = some 0 → At l k (k + 1) .init
  | count : l[k]? = some 3 → At l k (k + 1) .count
  | read (f : Nat) (t : Bytes) : l[k]? = some 1 → l[k + 1]? = some (f : Int) → l[k + 2]? = some (t.length : Int) → (l.drop (k + 3)).take t.length = bI t → k + 3 + t.length ≤ l.length → t.length ≤ 2048 → At l k (k + 3 + t.length) (.read f t)
  | find (f : Nat) (t : Bytes) : l[k]? = some 9 → l[k + 1]? = some (f : Int) → l[k + 2]? = some (t.length : Int) → (l.drop (k + 3)).take t.length = bI t → k + 3 + t.length ≤ l.length → t.length ≤ 2048 → At l k (k + 3 + t.length) (.find f t)
  | add (f : Nat) (t : Bytes) : l[k]? = some 10 → l[k + 1]? = some (f : Int) → l[k + 2]? = some (t.length : Int) → (l.drop (k + 3)).take t.length = bI t → k + 3 + t.length ≤ l.length → t.length ≤ 2048 → At l k (k + 3 + t.length) (.add f t)
  | write (f s : Nat) : l[k]? = some 2 → l[k + 1]? = some (f : Int) → l[k + 2]? = some (s : Int) → At l k (k + 3) (.write f s)
  | depth (i : Nat) : l[k]? = some 4 → l[k + 1]? = some (i : Int) → At l k (k + 2) (.depth i)
  | parent (i : Nat) : l[k]? = some 5 → l[k + 1]? = some (i : Int) → At l k (k + 2) (.parent i)
  | block (i : Nat) : l[k]? = some 6 → l[k + 1]? = some (i : Int) → At l k (k + 2) (.block i)
  | path (i : Nat) : l[k]? = some 7 → l[k + 1]? = some (i : Int) → At l k (k + 2) (.path i)
  | text (i : Nat) : l[k]? = some 8 → l[k + 1]? = some (i : Int) → At l k (k + 2) (.text i)
  | cut (i : Nat) : l[k]? = some 11 → l[k + 1]? = some (i : Int) → At l k (k + 2) (.cut i)
  | in_ (i : Nat) : l[k]? = some 12 → l[k + 1]? = some (i : Int) → At l k (k + 2) (.in_ i)
  | out (i : Nat) : l[k]? = some 13 → l[k + 1]? = some (i : Int) → At l k (k + 2) (.out i)
theorem dec_end {l : List Int} {k : Nat} {cs : List (List (List Int))} (h : Dec l k cs) (hk : l.length ≤ k) : cs = [] := by
  obtain ⟨f, h⟩ := h
  rw [List.drop_eq_nil_of_le hk] at h
  cases f <;> · unfold PyFlat.calls at h; cases h; rfl
theorem bytes_of {r : List Int} (h : OutlineNeutral.long r 2048 0 255 = true) : bI (OutlineNeutral.text r) = r ∧ (OutlineNeutral.text r).length = r.length ∧ r.length ≤ 2048 := by
  unfold OutlineNeutral.long at h
  rw [Bool.and_eq_true] at h
  obtain ⟨h1, h2⟩ := h
  refine ⟨?_, List.length_map _, of_decide_eq_true h1⟩
  clear h1
  induction r with
  | nil => rfl
  | cons z r ih =>
    rw [List.all_cons, Bool.and_eq_true, Bool.and_eq_true] at h2
    obtain ⟨⟨a, b⟩, c⟩ := h2
    have a := of_decide_eq_true a
    have b := of_decide_eq_true b
    show (((UInt8.ofNat z.toNat).toNat : Int)) :: bI (OutlineNeutral.text r) = _
    rw [ih c, UInt8.toNat_ofNat_of_lt' (show z.toNat < 256 by omega), Int.toNat_of_nonneg a]
theorem w32 {z : Int} (h : OutlineNeutral.whole32 z = true) : ((z.toNat : Nat) : Int) = z := by
  unfold OutlineNeutral.whole32 at h
  rw [Bool.and_eq_true] at h
  exact Int.toNat_of_nonneg (of_decide_eq_true h.1)
theorem drop_at {l r : List Int} {k : Nat} {z : Int} (h : l.drop k = z :: r) : l[k]? = some z ∧ r = l.drop (k + 1) := by
  refine ⟨?_, ?_⟩
  · rw [← List.head?_drop, h]; rfl
  · rw [← List.drop_drop, h]; rfl
theorem dec_cons {l : List Int} {k : Nat} {cs : List (List (List Int))} (h : Dec l k cs) (hk : k < l.length) : ∃ c cs' t, cs = c :: cs' ∧ PyFlat.call PyWqande.shape (l.drop k) = some (c, t) ∧ ∃ f, PyFlat.calls PyWqande.shape f t = some cs' := by
  obtain ⟨f, h⟩ := h
  cases e : l.drop k with
  | nil =>
    have := congrArg List.length e
    rw [List.length_drop, List.length_nil] at this
    omega
  | cons z r =>
    rw [e] at h
    cases f with
    | zero => unfold PyFlat.calls at h; cases h
    | succ f =>
      unfold PyFlat.calls at h
      cases hc : PyFlat.call PyWqande.shape (z :: r) with
      | none => rw [hc] at h; cases h
      | some ct =>
        obtain ⟨c, t⟩ := ct
        rw [hc] at h
        dsimp only at h
        cases hq : PyFlat.calls PyWqande.shape f t with
        | none => rw [hq] at h; cases h
        | some cs' =>
          rw [hq] at h
          cases h
          exact ⟨c, cs', t, rfl, rfl, f, hq⟩
theorem call0 {p : Int} {r : List Int} {c : List (List Int)} {t : List Int} (hs : PyWqande.shape p = some (0, 0)) (h : PyFlat.call PyWqande.shape (p :: r) = some (c, t)) : c = [[p]] ∧ t = r := by
  unfold PyFlat.call at h
  dsimp only at h
  rw [hs] at h
  dsimp only at h
  rw [if_neg (by omega)] at h
  unfold PyFlat.rows at h
  cases h
  exact ⟨rfl, rfl⟩
theorem call1 {p : Int} {r : List Int} {c : List (List Int)} {t : List Int} (hs : PyWqande.shape p = some (1, 0)) (h : PyFlat.call PyWqande.shape (p :: r) = some (c, t)) : ∃ x, r = x :: t ∧ c = [[p, x]] := by
  unfold PyFlat.call at h
  dsimp only at h
  rw [hs] at h
  dsimp only at h
  cases r with
  | nil => rw [if_pos (by decide)] at h; cases h
  | cons x r =>
    rw [if_neg (by rw [List.length_cons]; omega)] at h
    unfold PyFlat.rows at h
    cases h
    exact ⟨x, rfl, rfl⟩
theorem call2 {p : Int} {r : List Int} {c : List (List Int)} {t : List Int} (hs : PyWqande.shape p = some (2, 0)) (h : PyFlat.call PyWqande.shape (p :: r) = some (c, t)) : ∃ x y, r = x :: y :: t ∧ c = [[p, x, y]] := by
  unfold PyFlat.call at h
  dsimp only at h
  rw [hs] at h
  dsimp only at h
  cases r with
  | nil => rw [if_pos (by decide)] at h; cases h
  | cons x r =>
    cases r with
    | nil => rw [if_pos (by show 1 < 2; decide)] at h; cases h
    | cons y r =>
      rw [if_neg (by rw [List.length_cons, List.length_cons]; omega)] at h
      unfold PyFlat.rows at h
      cases h
      exact ⟨x, y, rfl, rfl⟩
theorem call11 {p : Int} {r : List Int} {c : List (List Int)} {t : List Int} (hs : PyWqande.shape p = some (1, 1)) (h : PyFlat.call PyWqande.shape (p :: r) = some (c, t)) :
    ∃ x n s, r = x :: n :: s ∧ 0 ≤ n ∧ n.toNat ≤ s.length ∧ c = [[p, x], s.take n.toNat] ∧ t = s.drop n.toNat := by
  unfold PyFlat.call at h
  dsimp only at h
  rw [hs] at h
  dsimp only at h
  cases r with
  | nil => rw [if_pos (by decide)] at h; cases h
  | cons x r =>
    rw [if_neg (by rw [List.length_cons]; omega)] at h
    cases r with
    | nil =>
      unfold PyFlat.rows PyFlat.row at h
      cases h
    | cons n s =>
      rw [show (x :: n :: s).drop 1 = n :: s from rfl] at h
      unfold PyFlat.rows PyFlat.row at h
      dsimp only at h
      by_cases hn : 0 ≤ n ∧ n.toNat ≤ s.length
      · rw [if_pos hn] at h
        unfold PyFlat.rows at h
        cases h
        exact ⟨x, n, s, rfl, hn.1, hn.2, rfl, rfl⟩
      · rw [if_neg hn] at h
        cases h
theorem at_len {l : List Int} {k : Nat} {z : Int} (h : l[k]? = some z) : k < l.length := by
  rcases Nat.lt_or_ge k l.length with q | q
  · exact q
  · rw [List.getElem?_eq_none q] at h; cases h
theorem shape_cases (p : Int) : (PyWqande.shape p = some (0, 0) ∧ (p = 0 ∨ p = 3)) ∨ (PyWqande.shape p = some (1, 1) ∧ (p = 1 ∨ p = 9 ∨ p = 10)) ∨ (PyWqande.shape p = some (2, 0) ∧ p = 2) ∨
    (PyWqande.shape p = some (1, 0) ∧ (p = 4 ∨ p = 5 ∨ p = 6 ∨ p = 7 ∨ p = 8 ∨ p = 11 ∨ p = 12 ∨ p = 13)) ∨ PyWqande.shape p = none := by
  unfold PyWqande.shape
  by_cases h0 : p = 0
  · subst h0; exact .inl ⟨rfl, .inl rfl⟩
  by_cases h1 : p = 1
  · subst h1; exact .inr (.inl ⟨rfl, .inl rfl⟩)
  by_cases h2 : p = 2
  · subst h2; exact .inr (.inr (.inl ⟨rfl, rfl⟩))
  by_cases h3 : p = 3
  · subst h3; exact .inl ⟨rfl, .inr rfl⟩
  by_cases h4 : p = 4
  · subst h4; exact .inr (.inr (.inr (.inl ⟨rfl, .inl rfl⟩)))
  by_cases h5 : p = 5
  · subst h5; exact .inr (.inr (.inr (.inl ⟨rfl, .inr (.inl rfl)⟩)))
  by_cases h6 : p = 6
  · subst h6; exact .inr (.inr (.inr (.inl ⟨rfl, .inr (.inr (.inl rfl))⟩)))
  by_cases h7 : p = 7
  · subst h7; exact .inr (.inr (.inr (.inl ⟨rfl, .inr (.inr (.inr (.inl rfl)))⟩)))
  by_cases h8 : p = 8
  · subst h8; exact .inr (.inr (.inr (.inl ⟨rfl, .inr (.inr (.inr (.inr (.inl rfl))))⟩)))
  by_cases h9 : p = 9
  · subst h9; exact .inr (.inl ⟨rfl, .inr (.inl rfl)⟩)
  by_cases h10 : p = 10
  · subst h10; exact .inr (.inl ⟨rfl, .inr (.inr rfl)⟩)
  by_cases h11 : p = 11
  · subst h11; exact .inr (.inr (.inr (.inl ⟨rfl, .inr (.inr (.inr (.inr (.inr (.inl rfl)))))⟩)))
  by_cases h12 : p = 12
  · subst h12; exact .inr (.inr (.inr (.inl ⟨rfl, .inr (.inr (.inr (.inr (.inr (.inr (.inl rfl))))))⟩)))
  by_cases h13 : p = 13
  · subst h13; exact .inr (.inr (.inr (.inl ⟨rfl, .inr (.inr (.inr (.inr (.inr (.inr (.inr rfl))))))⟩)))
  rw [if_neg h0, if_neg h1, if_neg h2, if_neg h3, if_neg h4, if_neg h5, if_neg h6, if_neg h7, if_neg h8, if_neg h9, if_neg h10, if_neg h11, if_neg h12, if_neg h13]
  exact .inr (.inr (.inr (.inr rfl)))
theorem dec_step {l : List Int} {k : Nat} {cs : List (List (List Int))} (h : Dec l k cs) (hk : k < l.length) (ha : ∀ c ∈ cs, OutlineNeutral.asked1 (PyWqande.whole c) = true) :
    ∃ c cs' k' op, cs = c :: cs' ∧ OutlineNeutral.callOf (PyWqande.whole c) = some op ∧ At l k k' op ∧ k < k' ∧ k' ≤ l.length ∧ Dec l k' cs' := by
  obtain ⟨c, cs', t, rfl, hc, f, hf⟩ := dec_cons h hk
  have hac := ha c List.mem_cons_self
  cases e : l.drop k with
  | nil =>
    have := congrArg List.length e
    rw [List.length_drop, List.length_nil] at this
    omega
  | cons p r =>
    rw [e] at hc
    obtain ⟨e0, er⟩ := drop_at e
    rcases shape_cases p with ⟨hs, hp⟩ | ⟨hs, hp⟩ | ⟨hs, hp⟩ | ⟨hs, hp⟩ | hs
    · obtain ⟨rfl, rfl⟩ := call0 hs hc
      subst er
      rcases hp with hp | hp <;> subst hp
      · exact ⟨_, cs', _, _, rfl, rfl, .init e0, by omega, by omega, f, hf⟩
      · exact ⟨_, cs', _, _, rfl, rfl, .count e0, by omega, by omega, f, hf⟩
    · obtain ⟨x, n, s, rfl, hn, hn2, rfl, rfl⟩ := call11 hs hc
      obtain ⟨e1, er1⟩ := drop_at er.symm
      obtain ⟨e2, er2⟩ := drop_at er1.symm
      subst er2
      have l2 := at_len e2
      rw [List.length_drop] at hn2
      rw [List.drop_drop] at hf
      rcases hp with hp | hp | hp <;> subst hp
      all_goals
        have hac' : (OutlineNeutral.whole32 x && OutlineNeutral.long ((l.drop (k + 1 + 1 + 1)).take n.toNat) 2048 0 255) = true := hac
        rw [Bool.and_eq_true] at hac'
        obtain ⟨h1, h2⟩ := hac'
        obtain ⟨b1, b2, b3⟩ := bytes_of h2
        have hlen : (OutlineNeutral.text ((l.drop (k + 1 + 1 + 1)).take n.toNat)).length = n.toNat := by
          rw [b2, List.length_take, List.length_drop]
          omega
        rw [List.length_take, List.length_drop] at b3
        refine ⟨_, cs', k + 3 + n.toNat, _, rfl, rfl, ?_, by omega, by omega, f, hf⟩
      · have z := At.read (l := l) (k := k) x.toNat (OutlineNeutral.text ((l.drop (k + 1 + 1 + 1)).take n.toNat)) e0 (by rw [w32 h1]; exact e1) (by rw [hlen, Int.toNat_of_nonneg hn]; exact e2) (by rw [hlen, b1]) (by rw [hlen]; omega) (by rw [hlen]; omega)
        rw [hlen] at z
        exact z
      · have z := At.find (l := l) (k := k) x.toNat (OutlineNeutral.text ((l.drop (k + 1 + 1 + 1)).take n.toNat)) e0 (by rw [w32 h1]; exact e1) (by rw [hlen, Int.toNat_of_nonneg hn]; exact e2) (by rw [hlen, b1]) (by rw [hlen]; omega) (by rw [hlen]; omega)
        rw [hlen] at z
        exact z
      · have z := At.add (l := l) (k := k) x.toNat (OutlineNeutral.text ((l.drop (k + 1 + 1 + 1)).take n.toNat)) e0 (by rw [w32 h1]; exact e1) (by rw [hlen, Int.toNat_of_nonneg hn]; exact e2) (by rw [hlen, b1]) (by rw [hlen]; omega) (by rw [hlen]; omega)
        rw [hlen] at z
        exact z
    · subst hp
      obtain ⟨x, y, rfl, rfl⟩ := call2 hs hc
      obtain ⟨e1, er1⟩ := drop_at er.symm
      obtain ⟨e2, er2⟩ := drop_at er1.symm
      subst er2
      have l2 := at_len e2
      have hac' : (OutlineNeutral.whole32 x && OutlineNeutral.whole32 y) = true := hac
      rw [Bool.and_eq_true] at hac'
      exact ⟨_, cs', k + 3, _, rfl, rfl, .write x.toNat y.toNat e0 (by rw [w32 hac'.1]; exact e1) (by rw [w32 hac'.2]; exact e2), by omega, by omega, f, hf⟩
    · obtain ⟨x, rfl, rfl⟩ := call1 hs hc
      obtain ⟨e1, er1⟩ := drop_at er.symm
      subst er1
      have l1 := at_len e1
      rcases hp with hp | hp | hp | hp | hp | hp | hp | hp <;> subst hp
      all_goals
        have h1 : OutlineNeutral.whole32 x = true := hac
        have e1' : l[k + 1]? = some (x.toNat : Int) := by rw [w32 h1]; exact e1
      · exact ⟨_, cs', k + 2, _, rfl, rfl, .depth _ e0 e1', by omega, by omega, f, hf⟩
      · exact ⟨_, cs', k + 2, _, rfl, rfl, .parent _ e0 e1', by omega, by omega, f, hf⟩
      · exact ⟨_, cs', k + 2, _, rfl, rfl, .block _ e0 e1', by omega, by omega, f, hf⟩
      · exact ⟨_, cs', k + 2, _, rfl, rfl, .path _ e0 e1', by omega, by omega, f, hf⟩
      · exact ⟨_, cs', k + 2, _, rfl, rfl, .text _ e0 e1', by omega, by omega, f, hf⟩
      · exact ⟨_, cs', k + 2, _, rfl, rfl, .cut _ e0 e1', by omega, by omega, f, hf⟩
      · exact ⟨_, cs', k + 2, _, rfl, rfl, .in_ _ e0 e1', by omega, by omega, f, hf⟩
      · exact ⟨_, cs', k + 2, _, rfl, rfl, .out _ e0 e1', by omega, by omega, f, hf⟩
    · unfold PyFlat.call at hc
      dsimp only at hc
      rw [hs] at hc
      cases hc
def toldFrom (S : Outline) (cs : List (List (List Int))) : List Int := PyFlat.told (PyFlat.played OutlineNeutral.step S (cs.map PyWqande.whole))
theorem told_nil (S : Outline) : toldFrom S [] = [] := rfl
theorem told_cons {S : Outline} {c : List (List Int)} {cs : List (List (List Int))} {op : OfDesk.Call} (h : OutlineNeutral.callOf (PyWqande.whole c) = some op) :
    toldFrom S (c :: cs) = ((OutlineNeutral.told (OfDesk.step S op).2).length : Int) :: (OutlineNeutral.told (OfDesk.step S op).2 ++ toldFrom (OfDesk.step S op).1 cs) := by
  have e : OutlineNeutral.step S (PyWqande.whole c) = ((OfDesk.step S op).1, OutlineNeutral.told (OfDesk.step S op).2) := by
    unfold OutlineNeutral.step
    rw [h]
  have z : toldFrom S (c :: cs) = ((OutlineNeutral.step S (PyWqande.whole c)).2.length : Int) :: ((OutlineNeutral.step S (PyWqande.whole c)).2 ++ toldFrom (OutlineNeutral.step S (PyWqande.whole c)).1 cs) := rfl
  rw [z, e]
theorem answers_dec {l : List Int} (h : PyWqande.answers_asked l = true) : ∃ cs, Dec l 0 cs ∧ cs.length ≤ 60 ∧ (∀ c ∈ cs, OutlineNeutral.asked1 (PyWqande.whole c) = true) ∧ PyWqande.answers l = toldFrom [] cs := by
  unfold PyWqande.answers_asked at h
  unfold PyWqande.answers
  unfold PyWqande.calls at *
  cases e : PyFlat.calls PyWqande.shape l.length l with
  | none => rw [e] at h; cases h
  | some cs =>
    rw [e] at h
    dsimp only at h ⊢
    rw [Bool.and_eq_true] at h
    have h2 := h.2
    unfold OutlineNeutral.asked at h2
    rw [Bool.and_eq_true, Bool.and_eq_true] at h2
    have h3 := of_decide_eq_true h2.1.2
    rw [List.length_map] at h3
    refine ⟨cs, ⟨l.length, e⟩, h3, fun c hc => ?_, rfl⟩
    exact List.all_eq_true.mp h2.2 _ (List.mem_map_of_mem hc)
end My
set_option Elab.async false
set_option linter.all false
namespace My
open Of
def TreeF : Nat → Outline → Prop
  | _, [] => True
  | d, x :: r => x.depth ≤ d ∧ TreeF (x.depth + 1) r
def nextD : Nat → Outline → Nat
  | d, [] => d
  | _, x :: r => nextD (x.depth + 1) r
abbrev Tree (l : Outline) : Prop := TreeF 0 l
theorem treeF_app : ∀ (l m : Outline) (d : Nat), TreeF d (l ++ m) ↔ TreeF d l ∧ TreeF (nextD d l) m
  | [], m, d => ⟨fun h => ⟨trivial, h⟩, fun h => h.2⟩
  | x :: r, m, d => by
    show (x.depth ≤ d ∧ TreeF (x.depth + 1) (r ++ m)) ↔ (x.depth ≤ d ∧ TreeF (x.depth + 1) r) ∧ TreeF (nextD (x.depth + 1) r) m
    rw [treeF_app r m]
    exact ⟨fun ⟨a, b, c⟩ => ⟨⟨a, b⟩, c⟩, fun ⟨⟨a, b⟩, c⟩ => ⟨a, b, c⟩⟩
theorem nextD_app : ∀ (l m : Outline) (d : Nat), nextD d (l ++ m) = nextD (nextD d l) m
  | [], _, _ => rfl
  | x :: r, m, d => nextD_app r m _
theorem TreeF.head {d d' : Nat} : ∀ {l : Outline}, TreeF d l → (∀ y, l.head? = some y → y.depth ≤ d') → TreeF d' l
  | [], _, _ => trivial
  | x :: r, h, k => ⟨k x rfl, h.2⟩
theorem nextD_ge {m : Nat} : ∀ {l : Outline} {d : Nat}, m ≤ d → (∀ y ∈ l, m ≤ y.depth + 1) → m ≤ nextD d l
  | [], _, h, _ => h
  | x :: r, _, _, k => nextD_ge (l := r) (d := x.depth + 1) (k x List.mem_cons_self) fun y hy => k y (List.mem_cons_of_mem _ hy)
theorem TreeF.deeper : ∀ {l : Outline} {d : Nat}, TreeF d l → TreeF (d + 1) (OfDesk.deeperBy l 1)
  | [], _, _ => trivial
  | x :: r, d, h => by
    refine ⟨?_, TreeF.deeper (l := r) (d := x.depth + 1) h.2⟩
    show x.depth + 1 ≤ d + 1
    have := h.1
    omega
theorem TreeF.higher : ∀ {l : Outline} {d : Nat}, TreeF d l → 1 ≤ d → (∀ y ∈ l, 1 ≤ y.depth) → TreeF (d - 1) (OfDesk.higher l)
  | [], _, _, _, _ => trivial
  | x :: r, d, h, hd, k => by
    have hx := k x List.mem_cons_self
    have := TreeF.higher (l := r) (d := x.depth + 1) h.2 (by omega) fun y hy => k y (List.mem_cons_of_mem _ hy)
    refine ⟨?_, ?_⟩
    · show x.depth - 1 ≤ d - 1
      have := h.1
      omega
    · show TreeF (x.depth - 1 + 1) _
      rw [show x.depth - 1 + 1 = x.depth + 1 - 1 by omega]
      exact this
def isIn (x : Node) (y : Node) : Bool := decide (x.depth < y.depth)
theorem dw_head {α : Type} {p : α → Bool} : ∀ {l : List α} {y : α}, (l.dropWhile p).head? = some y → p y = false
  | [], _, h => by cases h
  | a :: l, y, h => by
    rw [List.dropWhile_cons] at h
    by_cases ha : p a = true
    · rw [if_pos ha] at h
      exact dw_head h
    · rw [if_neg ha] at h
      have : a = y := Option.some.inj h
      rw [← this]
      exact Bool.eq_false_iff.mpr ha
theorem tw_mem {α : Type} {p : α → Bool} : ∀ {l : List α} {y : α}, y ∈ l.takeWhile p → p y = true
  | [], _, h => by cases h
  | a :: l, y, h => by
    rw [List.takeWhile_cons] at h
    by_cases ha : p a = true
    · rw [if_pos ha] at h
      rcases List.mem_cons.mp h with z | z
      · rw [z]; exact ha
      · exact tw_mem z
    · rw [if_neg ha] at h
      cases h
structure Cutting (l : Outline) (i : Nat) (x : Node) (A B C : Outline) : Prop where
  at_ : l[i]? = some x
  eA : A = l.take i
  len : A.length = i
  all : l = A ++ (x :: (B ++ C))
  blk : block l i = B.length
  halt : OfDesk.halt_ l i = i + 1 + B.length
  part : OfDesk.partOf l i (OfDesk.halt_ l i) = x :: B
  eC : C = l.drop (OfDesk.halt_ l i)
  deep : ∀ y ∈ B, x.depth < y.depth
  next : ∀ y, C.head? = some y → y.depth ≤ x.depth
theorem cutting {l : Outline} {i : Nat} (h : i < l.length) : ∃ x A B C, Cutting l i x A B C := by
  have hx : l[i]? = some l[i] := List.getElem?_eq_getElem h
  generalize l[i] = x at hx
  have hd : l.drop i = x :: l.drop (i + 1) := by
    have h2 : l.drop i = l[i] :: l.drop (i + 1) := List.drop_eq_getElem_cons h
    rw [h2]
    rw [List.getElem?_eq_getElem h] at hx
    rw [Option.some.inj hx]
  have hblk : block l i = ((l.drop (i + 1)).takeWhile (isIn x)).length := by
    unfold block
    rw [depthAt_get hx]
    rfl
  have e : l.drop (i + 1) = (l.drop (i + 1)).takeWhile (isIn x) ++ (l.drop (i + 1)).dropWhile (isIn x) := (List.takeWhile_append_dropWhile).symm
  have hh : OfDesk.halt_ l i = i + 1 + ((l.drop (i + 1)).takeWhile (isIn x)).length := by
    unfold OfDesk.halt_
    rw [hblk]
  have all : l = l.take i ++ (x :: ((l.drop (i + 1)).takeWhile (isIn x) ++ (l.drop (i + 1)).dropWhile (isIn x))) := by
    rw [← e, ← hd, List.take_append_drop]
  have len : (l.take i).length = i := by rw [List.length_take]; omega
  refine ⟨x, l.take i, (l.drop (i + 1)).takeWhile (isIn x), (l.drop (i + 1)).dropWhile (isIn x), ⟨hx, rfl, len, all, hblk, hh, ?_, ?_, fun y hy => ?_, fun y hy => ?_⟩⟩
  · unfold OfDesk.partOf
    rw [hh, List.drop_take, hd, show i + 1 + ((l.drop (i + 1)).takeWhile (isIn x)).length - i = ((l.drop (i + 1)).takeWhile (isIn x)).length + 1 by omega, List.take_succ_cons]
    congr 1
    conv => lhs; rw [e]
    rw [List.take_left']
    conv => rhs; rw [← e]
  · rw [hh]
    have z : l.drop (i + 1 + ((l.drop (i + 1)).takeWhile (isIn x)).length) = (l.drop (i + 1)).drop ((l.drop (i + 1)).takeWhile (isIn x)).length := (List.drop_drop).symm
    rw [z]
    generalize l.drop (i + 1) = r at e
    conv => rhs; rw [e]
    rw [List.drop_left' (by rw [← e])]
  · have z : isIn x y = true := tw_mem hy
    exact of_decide_eq_true z
  · have := dw_head hy
    unfold isIn at this
    have := of_decide_eq_false this
    omega
end My
set_option Elab.async false
set_option linter.all false
namespace My
open Of
theorem nextD_at : ∀ (l : Outline) (d j : Nat), j < l.length → nextD d (l.take (j + 1)) = depthAt l j + 1
  | [], _, _, h => absurd h (by simp)
  | x :: r, d, 0, _ => rfl
  | x :: r, d, j + 1, h => by
    show nextD (x.depth + 1) (r.take (j + 1)) = depthAt r j + 1
    exact nextD_at r _ j (by simpa using h)
theorem Tree.step {l : Outline} (h : Tree l) {j : Nat} (hj : j + 1 < l.length) : depthAt l (j + 1) ≤ depthAt l j + 1 := by
  obtain ⟨x, A, B, C, q⟩ := cutting hj
  have h2 := h
  rw [Tree, q.all, treeF_app] at h2
  have h3 := h2.2.1
  rw [q.eA, nextD_at l 0 j (by omega)] at h3
  rw [depthAt_get q.at_]
  exact h3
theorem Tree.between {l : Outline} (h : Tree l) {i p : Nat} (hi : i < l.length) (hp : ∀ j, p < j → j < i → ¬ depthAt l j + 1 = depthAt l i) : ∀ n j, j + 1 + n = i → p < j → depthAt l i ≤ depthAt l j
  | 0, j, e, hj => by
    subst e
    have := h.step (j := j) (by omega)
    have := hp j hj (by omega)
    simp only [Nat.add_zero] at *
    omega
  | n + 1, j, e, hj => by
    have ih := Tree.between h hi hp n (j + 1) (by omega) (by omega)
    have := h.step (j := j) (by omega)
    have := hp j hj (by omega)
    omega
theorem lastOf_none {p : Nat → Bool} : ∀ {n : Nat}, lastOf p n = none → ∀ j, j < n → p j = false
  | 0, _, j, hj => absurd hj (by omega)
  | n + 1, h, j, hj => by
    rw [lastOf_succ] at h
    by_cases hn : p n = true
    · rw [if_pos hn] at h; cases h
    · rw [if_neg hn] at h
      by_cases e : j = n
      · rw [e]; exact Bool.eq_false_iff.mpr hn
      · exact lastOf_none h j (by omega)
theorem lastOf_last {p : Nat → Bool} : ∀ {n k : Nat}, lastOf p n = some k → ∀ j, k < j → j < n → p j = false
  | 0, _, h, _, _, _ => by cases h
  | n + 1, k, h, j, hk, hj => by
    rw [lastOf_succ] at h
    by_cases hn : p n = true
    · rw [if_pos hn] at h
      have := Option.some.inj h
      omega
    · rw [if_neg hn] at h
      by_cases e : j = n
      · rw [e]; exact Bool.eq_false_iff.mpr hn
      · exact lastOf_last h j hk (by omega)
theorem parent_some {l : Outline} {i p : Nat} (h : parent l i = some p) : p < i ∧ depthAt l p + 1 = depthAt l i ∧ ∀ j, p < j → j < i → ¬ depthAt l j + 1 = depthAt l i := by
  rw [parent_eq] at h
  have h1 := lastOf_lt h
  refine ⟨h1.1, eq_of_beq h1.2, fun j h2 h3 => ?_⟩
  have := lastOf_last h j h2 h3
  exact ne_of_beq_false this
theorem parent_none {l : Outline} {i : Nat} (h : parent l i = none) : ∀ j, j < i → ¬ depthAt l j + 1 = depthAt l i := fun j hj => by
  rw [parent_eq] at h
  exact ne_of_beq_false (lastOf_none h j hj)
theorem Tree.inside {l : Outline} (h : Tree l) {i p : Nat} (hi : i < l.length) (hp : parent l i = some p) : ∀ j, p < j → j ≤ i → depthAt l p < depthAt l j := fun j h1 h2 => by
  obtain ⟨a, b, c⟩ := parent_some hp
  by_cases e : j = i
  · subst e; omega
  · have := h.between hi c (i - j - 1) j (by omega) h1
    omega
theorem tw_ge {α : Type} {p : α → Bool} : ∀ {l : List α} {n : Nat}, n ≤ l.length → (∀ j y, j < n → l[j]? = some y → p y = true) → n ≤ (l.takeWhile p).length
  | _, 0, _, _ => Nat.zero_le _
  | [], n + 1, h, _ => absurd h (by simp)
  | a :: l, n + 1, h, k => by
    rw [List.takeWhile_cons, if_pos (k 0 a (by omega) rfl), List.length_cons]
    exact Nat.succ_le_succ (tw_ge (by simpa using h) fun j y hj hy => k (j + 1) y (by omega) hy)
end My
set_option Elab.async false
set_option linter.all false
namespace My
open Of
theorem block_in {l : Outline} {i j : Nat} {y : Node} (h1 : i < j) (h2 : j < OfDesk.halt_ l i) (hy : l[j]? = some y) : depthAt l i < y.depth := by
  unfold OfDesk.halt_ block at h2
  have hj : j - (i + 1) < ((l.drop (i + 1)).takeWhile fun x => decide (depthAt l i < x.depth)).length := by omega
  have hm := List.getElem_mem hj
  have e : ((l.drop (i + 1)).takeWhile fun x => decide (depthAt l i < x.depth))[j - (i + 1)] = y := by
    have z : ((l.drop (i + 1)).takeWhile fun x => decide (depthAt l i < x.depth))[j - (i + 1)]? = (l.drop (i + 1))[j - (i + 1)]? := by
      obtain ⟨t, ht⟩ := List.takeWhile_prefix (fun x : Node => decide (depthAt l i < x.depth)) (l := l.drop (i + 1))
      conv => rhs; rw [← ht]
      rw [List.getElem?_append_left hj]
    rw [List.getElem?_eq_getElem hj, List.getElem?_drop, show i + 1 + (j - (i + 1)) = j by omega, hy] at z
    exact Option.some.inj z
  rw [e] at hm
  have z := tw_mem hm
  exact of_decide_eq_true z
theorem halt_le {l : Outline} {i : Nat} (h : i < l.length) : OfDesk.halt_ l i ≤ l.length := by
  obtain ⟨x, A, B, C, q⟩ := cutting h
  rw [q.halt]
  have := congrArg List.length q.all
  rw [List.length_append, List.length_cons, List.length_append, q.len] at this
  omega
theorem Tree.halts {l : Outline} (h : Tree l) {i p : Nat} (hi : i < l.length) (hp : parent l i = some p) : OfDesk.halt_ l i ≤ OfDesk.halt_ l p := by
  obtain ⟨a, b, c⟩ := parent_some hp
  have hl := halt_le hi
  have h0 : i + 1 ≤ OfDesk.halt_ l i := Nat.le_add_right _ _
  have key : OfDesk.halt_ l i - (p + 1) ≤ ((l.drop (p + 1)).takeWhile fun x => decide (depthAt l p < x.depth)).length := by
    refine tw_ge (by rw [List.length_drop]; omega) fun j y hj hy => ?_
    rw [List.getElem?_drop] at hy
    by_cases hji : p + 1 + j ≤ i
    · have := h.inside hi hp (p + 1 + j) (by omega) hji
      rw [depthAt_get hy] at this
      exact decide_eq_true this
    · have := block_in (i := i) (j := p + 1 + j) (by omega) (by omega) hy
      exact decide_eq_true (by omega)
  show _ ≤ p + 1 + ((l.drop (p + 1)).takeWhile fun x => decide (depthAt l p < x.depth)).length
  omega
theorem moving {l : Outline} (h : Tree l) {i p : Nat} (hi : i < l.length) (hp : parent l i = some p) : ∃ x A B D E, l[i]? = some x ∧ l.take i = A ∧ l = A ++ (x :: (B ++ (D ++ E))) ∧ OfDesk.partOf l i (OfDesk.halt_ l i) = x :: B ∧
    OfDesk.partOf l (OfDesk.halt_ l i) (OfDesk.halt_ l p) = D ∧ l.drop (OfDesk.halt_ l p) = E ∧ (∀ y ∈ B, x.depth < y.depth) ∧ (∀ y ∈ D, x.depth ≤ y.depth) ∧ (∀ y, D.head? = some y → y.depth ≤ x.depth) ∧ (∀ y, E.head? = some y → y.depth + 1 ≤ x.depth) ∧ 1 ≤ x.depth := by
  obtain ⟨a, b, c⟩ := parent_some hp
  have hh := h.halts hi hp
  have hpl : p < l.length := by omega
  obtain ⟨x, A, B, C, q⟩ := cutting hi
  obtain ⟨xp, Ap, Bp, Cp, qp⟩ := cutting hpl
  rw [depthAt_get q.at_, depthAt_get qp.at_] at b
  have hle := halt_le hpl
  have eC : C = OfDesk.partOf l (OfDesk.halt_ l i) (OfDesk.halt_ l p) ++ l.drop (OfDesk.halt_ l p) := by
    rw [q.eC]
    unfold OfDesk.partOf
    rw [List.drop_take]
    have z : l.drop (OfDesk.halt_ l p) = (l.drop (OfDesk.halt_ l i)).drop (OfDesk.halt_ l p - OfDesk.halt_ l i) := by
      rw [List.drop_drop, show OfDesk.halt_ l i + (OfDesk.halt_ l p - OfDesk.halt_ l i) = OfDesk.halt_ l p by omega]
    rw [z, List.take_append_drop]
  refine ⟨x, A, B, _, _, q.at_, q.eA.symm, ?_, q.part, rfl, rfl, q.deep, fun y hy => ?_, fun y hy => ?_, fun y hy => ?_, by omega⟩
  · rw [← eC]
    exact q.all
  · obtain ⟨j, hj⟩ := List.getElem?_of_mem hy
    unfold OfDesk.partOf at hj
    rw [List.getElem?_drop] at hj
    have hlt : OfDesk.halt_ l i + j < OfDesk.halt_ l p := by
      rcases Nat.lt_or_ge (OfDesk.halt_ l i + j) (OfDesk.halt_ l p) with z | z
      · exact z
      · rw [List.getElem?_eq_none (by rw [List.length_take]; omega)] at hj
        cases hj
    rw [List.getElem?_take, if_pos hlt] at hj
    have h0 : i + 1 ≤ OfDesk.halt_ l i := Nat.le_add_right _ _
    have := block_in (i := p) (by omega) hlt hj
    rw [depthAt_get qp.at_] at this
    omega
  · refine q.next y ?_
    rw [eC, List.head?_append, hy]
    rfl
  · have := qp.next y (by rw [qp.eC]; exact hy)
    omega
theorem good_of {l m : Outline} (g : Good l) (hl : m.length ≤ l.length) (h : ∀ y ∈ m, ∃ x ∈ l, y.text = x.text ∧ y.depth ≤ x.depth) : Good m := by
  refine ⟨Nat.le_trans hl g.len, fun y hy => ?_, fun y hy => ?_⟩
  · obtain ⟨x, hx, _, e⟩ := h y hy
    exact Nat.le_trans e (g.dep x hx)
  · obtain ⟨x, hx, e, _⟩ := h y hy
    rw [e]
    exact g.txt x hx
structure GoodT (l : Outline) : Prop where
  g : Good l
  t : Tree l
theorem GoodT.nil : GoodT [] := ⟨Good.nil, trivial⟩
theorem good_add {l : Outline} {e d : Nat} {t : Bytes} (g : Good l) (h1 : ¬ 64 ≤ l.length) (h2 : ¬ 16 ≤ d) (h3 : t.length ≤ 64) : Good (l.take e ++ (⟨d, t⟩ :: l.drop e)) := by
  have hm : ∀ y ∈ l.take e ++ (⟨d, t⟩ :: l.drop e), y ∈ l ∨ y = ⟨d, t⟩ := fun y hy => by
    rcases List.mem_append.mp hy with z | z
    · exact .inl (List.mem_of_mem_take z)
    · rcases List.mem_cons.mp z with z | z
      · exact .inr z
      · exact .inl (List.mem_of_mem_drop z)
  refine ⟨?_, fun y hy => ?_, fun y hy => ?_⟩
  · rw [List.length_append, List.length_cons, List.length_take, List.length_drop]
    omega
  · rcases hm y hy with z | z
    · exact g.dep y z
    · rw [z]; show d ≤ 15; omega
  · rcases hm y hy with z | z
    · exact g.txt y z
    · rw [z]; exact h3
theorem isText_len {t : Bytes} (h : isText t = true) : 1 ≤ t.length ∧ t.length ≤ 64 := by
  unfold isText at h
  rw [Bool.and_eq_true, Bool.and_eq_true] at h
  exact ⟨of_decide_eq_true h.1.1, of_decide_eq_true h.1.2⟩
theorem tree_add {l : Outline} (h : Tree l) {p : Nat} {t : Bytes} (hp : p ≤ l.length) : Tree (l.take (if p = 0 then l.length else OfDesk.halt_ l (p - 1)) ++ (⟨if p = 0 then 0 else depthAt l (p - 1) + 1, t⟩ :: l.drop (if p = 0 then l.length else OfDesk.halt_ l (p - 1)))) := by
  by_cases h0 : p = 0
  · rw [if_pos h0, if_pos h0, List.take_length, List.drop_length, Tree, treeF_app]
    exact ⟨h, Nat.zero_le _, trivial⟩
  · rw [if_neg h0, if_neg h0]
    obtain ⟨x, A, B, C, q⟩ := cutting (l := l) (i := p - 1) (by omega)
    rw [depthAt_get q.at_, ← q.eC]
    have et : l.take (OfDesk.halt_ l (p - 1)) = A ++ (x :: B) := by
      have e2 : l = (A ++ (x :: B)) ++ C := by rw [List.append_assoc]; exact q.all
      have hl : (A ++ (x :: B)).length = OfDesk.halt_ l (p - 1) := by rw [List.length_append, List.length_cons, q.len, q.halt]; omega
      rw [← hl]
      conv => lhs; rw [e2]
      rw [List.take_left' rfl]
    rw [et]
    have h2 := h
    rw [Tree, q.all, treeF_app] at h2
    obtain ⟨t1, t2, t3⟩ := h2
    rw [treeF_app] at t3
    rw [Tree, treeF_app, treeF_app, nextD_app]
    refine ⟨⟨t1, t2, t3.1⟩, ?_, ?_⟩
    · show x.depth + 1 ≤ nextD (x.depth + 1) B
      exact nextD_ge (Nat.le_refl _) fun y hy => by have := q.deep y hy; omega
    · exact t3.2.head fun y hy => by
        have := q.next y hy
        show y.depth ≤ x.depth + 1 + 1
        omega
theorem tree_cut {l : Outline} (h : Tree l) {i : Nat} (hi : i < l.length) : Tree (l.take i ++ l.drop (OfDesk.halt_ l i)) := by
  obtain ⟨x, A, B, C, q⟩ := cutting hi
  rw [← q.eA, ← q.eC]
  have h2 := h
  rw [Tree, q.all, treeF_app] at h2
  obtain ⟨t1, t2, t3⟩ := h2
  rw [treeF_app] at t3
  rw [Tree, treeF_app]
  exact ⟨t1, t3.2.head fun y hy => Nat.le_trans (q.next y hy) t2⟩
theorem tree_in {l : Outline} (h : Tree l) {i : Nat} (hi : i < l.length) (h0 : ¬ (i = 0 ∨ depthAt l (i - 1) < depthAt l i)) : Tree (OfDesk.deeper l i) := by
  obtain ⟨x, A, B, C, q⟩ := cutting hi
  unfold OfDesk.deeper
  rw [q.part, ← q.eA, ← q.eC]
  have h2 := h
  rw [Tree, q.all, treeF_app] at h2
  obtain ⟨t1, t2, t3⟩ := h2
  rw [treeF_app] at t3
  have hA : nextD 0 A = depthAt l (i - 1) + 1 := by
    have := nextD_at l 0 (i - 1) (by omega)
    rw [show i - 1 + 1 = i by omega, ← q.eA] at this
    exact this
  rw [Tree, treeF_app, treeF_app]
  rw [depthAt_get q.at_] at h0
  refine ⟨t1, ⟨?_, t3.1.deeper⟩, ?_⟩
  · show x.depth + 1 ≤ _
    rw [hA]
    omega
  · refine t3.2.head fun y hy => ?_
    have := q.next y hy
    refine Nat.le_trans this ?_
    show x.depth ≤ nextD (x.depth + 1 + 1) (OfDesk.deeperBy B 1)
    refine nextD_ge (by omega) fun z hz => ?_
    obtain ⟨w, hw, rfl⟩ := List.mem_map.mp hz
    have := q.deep w hw
    show x.depth ≤ w.depth + 1 + 1
    omega
theorem tree_out {l : Outline} (h : Tree l) {i p : Nat} (hi : i < l.length) (hp : parent l i = some p) : Tree (OfDesk.moved l i (OfDesk.halt_ l p)) := by
  obtain ⟨x, A, B, D, E, e1, e2, e3, e4, e5, e6, k1, k2, k3, k4, k5⟩ := moving h hi hp
  unfold OfDesk.moved
  rw [e2, e4, e5, e6]
  have h2 := h
  rw [Tree, e3, treeF_app] at h2
  obtain ⟨t1, t2, t3⟩ := h2
  rw [treeF_app, treeF_app] at t3
  obtain ⟨tB, tD, tE⟩ := t3
  rw [Tree, treeF_app, treeF_app, treeF_app]
  refine ⟨t1, tD.head fun y hy => Nat.le_trans (k3 y hy) t2, ⟨?_, ?_⟩, ?_⟩
  · show x.depth - 1 ≤ nextD (nextD 0 A) D
    refine nextD_ge (by omega) fun y hy => ?_
    have := k2 y hy
    omega
  · show TreeF (x.depth - 1 + 1) (OfDesk.higher B)
    have := tB.higher (by omega) fun y hy => by have := k1 y hy; omega
    rw [show x.depth - 1 + 1 = x.depth + 1 - 1 by omega]
    exact this
  · refine tE.head fun y hy => ?_
    have := k4 y hy
    show y.depth ≤ nextD (x.depth - 1 + 1) (OfDesk.higher B)
    refine nextD_ge (by omega) fun z hz => ?_
    obtain ⟨w, hw, rfl⟩ := List.mem_map.mp hz
    have := k1 w hw
    show y.depth ≤ w.depth - 1 + 1
    omega
end My
set_option Elab.async false
set_option linter.all false
namespace My
open Of
theorem above_mono : ∀ (r : List Nat) {c d : Nat}, c ≤ d → (above r c).length ≤ (above r d).length
  | [], _, _, _ => Nat.le_refl _
  | e :: r, c, d, h => by
    unfold above
    by_cases h1 : e < c
    · rw [if_pos h1, if_pos (by omega)]
      exact Nat.le_refl _
    · rw [if_neg h1]
      by_cases h2 : e < d
      · rw [if_pos h2, List.length_cons]
        have := above_mono r (c := c) (d := e) (by omega)
        omega
      · rw [if_neg h2]
        exact above_mono r h
theorem nextD_snoc (l : Outline) (x : Node) (d : Nat) : nextD d (l ++ [x]) = x.depth + 1 := by
  rw [nextD_app]
  rfl
theorem tree_snoc {l : Outline} {x : Node} (h : Tree l) (hx : x.depth ≤ nextD 0 l) : Tree (l ++ [x]) := by
  rw [Tree, treeF_app]
  exact ⟨h, hx, trivial⟩
theorem DepthOk.next {cs : List Nat} {l : Outline} (D : DepthOk cs l) (c : Nat) : lineDepth cs l c ≤ nextD 0 l := by
  rw [← D.depth]
  have hl := D.len
  rcases Nat.eq_zero_or_pos l.length with z | z
  · have e : cs = [] := List.eq_nil_of_length_eq_zero (by omega)
    rw [e]
    exact Nat.zero_le _
  · have h1 := nextD_at l 0 (l.length - 1) (by omega)
    rw [show l.length - 1 + 1 = l.length by omega, List.take_length, D.at_ (l.length - 1) (by omega)] at h1
    rw [h1]
    have hj : cs[l.length - 1]? = some cs[l.length - 1] := List.getElem?_eq_getElem (by omega)
    generalize cs[l.length - 1] = d at hj
    have hg : cs.getD (l.length - 1) 0 = d := by rw [List.getD_eq_getElem?_getD, hj]; rfl
    have e : cs.reverse = d :: (cs.take (l.length - 1)).reverse := by
      have t := take_succ_at hj
      rw [show l.length - 1 + 1 = cs.length by omega, List.take_length] at t
      conv => lhs; rw [t]
      rw [List.reverse_append]
      rfl
    rw [hg, e]
    have ea : above (d :: (cs.take (l.length - 1)).reverse) c = if d < c then d :: above (cs.take (l.length - 1)).reverse d else above (cs.take (l.length - 1)).reverse c := rfl
    rw [ea]
    by_cases h2 : d < c
    · rw [if_pos h2, List.length_cons]
      exact Nat.le_refl _
    · rw [if_neg h2]
      exact Nat.le_succ_of_le (above_mono _ (c := c) (d := d) (by omega))
theorem node_cases {brk : Nat} {l n : Outline} {d : Nat} {us : List (Nat × Bytes)} (h : node brk l d us = .ok n) : n = l ∧ us = [] ∨ ∃ t, n = l ++ [⟨d, t⟩] ∧ us ≠ [] := by
  cases us with
  | nil => cases h; exact .inl ⟨rfl, rfl⟩
  | cons u r =>
    unfold node at h
    dsimp only at h
    split at h
    · cases h
    · split at h
      · cases h
      · split at h
        · cases h
        · split at h
          · cases h
          · cases h
            exact .inr ⟨_, rfl, fun z => nomatch z⟩
theorem line_tree {cs : List Nat} {l : Outline} (D : DepthOk cs l) (g : Tree l) {x : Nat × Bytes} {s : Laid} (h : line ⟨cs.reverse, l⟩ x = .ok s) : Tree s.nodes := by
  obtain ⟨o, ln⟩ := x
  rcases line_cases D o ln with ⟨_, e⟩ | ⟨u, r, c, hu, ho, ⟨_, e⟩ | ⟨_, ⟨d, _, _, e⟩ | ⟨_, e⟩⟩⟩
  · rw [e] at h
    cases h
    exact g
  · rw [e] at h
    cases h
    exact g
  · rw [e] at h
    cases h
  · rw [e] at h
    cases hn : node 1 l (lineDepth cs l c) (u :: r) with
    | error f =>
      rw [hn] at h
      cases h
    | ok n =>
      rw [hn] at h
      cases h
      rcases node_cases hn with ⟨z, _⟩ | ⟨t, z, _⟩
      · show Tree n
        rw [z]; exact g
      · show Tree n
        rw [z]; exact tree_snoc g (D.next c)
theorem linesRead_tree : ∀ {xs : List (Nat × Bytes)} {cs : List Nat} {l n : Outline}, DepthOk cs l → GoodT l → linesRead ⟨cs.reverse, l⟩ xs = .ok n → Tree n
  | [], cs, l, n, D, g, h => by
    cases h
    exact g.t
  | x :: r, cs, l, n, D, g, h => by
    unfold linesRead at h
    cases hx : line ⟨cs.reverse, l⟩ x with
    | error f =>
      rw [hx] at h
      cases h
    | ok s =>
      rw [hx] at h
      obtain ⟨cs', e1, D', g'⟩ := line_inv D g.g hx
      have t' := line_tree D g.t hx
      obtain ⟨sc, sn⟩ := s
      dsimp only at e1 D' g' h t'
      subst e1
      exact linesRead_tree D' ⟨g', t'⟩ h
theorem read0_tree {t : Bytes} {n : Outline} (h : read0 t = .ok n) : Tree n := linesRead_tree DepthOk.nil GoodT.nil h
structure BraceT (s : Braced) : Prop where
  t : Tree s.nodes
  d : s.opened.length ≤ nextD 0 s.nodes
theorem ended_tree {s t : Braced} {b : Bool} (g : BraceT s) (h : ended s = .ok (t, b)) : BraceT t ∧ t.opened = s.opened ∧ (b = true → nextD 0 t.nodes = t.opened.length + 1) := by
  obtain ⟨l, os, p⟩ := s
  rw [ended_eq] at h
  cases hn : node 10 l os.length (core p) with
  | error f => rw [hn] at h; cases h
  | ok n =>
    rw [hn] at h
    cases h
    rcases node_cases hn with ⟨z, z2⟩ | ⟨tx, z, z2⟩
    · subst z
      refine ⟨⟨g.t, g.d⟩, rfl, fun w => ?_⟩
      rw [z2] at w
      cases w
    · subst z
      refine ⟨⟨tree_snoc g.t g.d, ?_⟩, rfl, fun _ => nextD_snoc _ _ _⟩
      show os.length ≤ nextD 0 (l ++ [_])
      rw [nextD_snoc]
      exact Nat.le_succ _
theorem unit_tree {s s' : Braced} {u : Nat × Bytes} (g : BraceT s) (h : unit s u = .ok s') : BraceT s' := by
  unfold unit at h
  split at h
  · split at h
    · cases h
    · rename_i t given he
      obtain ⟨gt, eo, en⟩ := ended_tree g he
      split at h
      · cases h; exact gt
      · split at h
        · split at h
          · rename_i hg
            cases h
            refine ⟨gt.t, ?_⟩
            show (u.1 :: t.opened).length ≤ nextD 0 t.nodes
            rw [en hg]
            exact Nat.le_refl _
          · cases h
        · split at h
          · cases h
          · rename_i o r ho
            cases h
            refine ⟨gt.t, ?_⟩
            have := gt.d
            rw [ho, List.length_cons] at this
            show r.length ≤ nextD 0 t.nodes
            omega
  · cases h
    exact ⟨g.t, g.d⟩
theorem unitsRead_tree : ∀ {us : List (Nat × Bytes)} {s : Braced} {n : Outline}, BraceT s → unitsRead s us = .ok n → Tree n
  | [], s, n, g, h => by
    unfold unitsRead at h
    split at h
    · cases h
    · rename_i t b he
      obtain ⟨gt, _, _⟩ := ended_tree g he
      split at h
      · cases h; exact gt.t
      · cases h
  | u :: r, s, n, g, h => by
    unfold unitsRead at h
    split at h
    · cases h
    · rename_i t ht
      exact unitsRead_tree (unit_tree g ht) h
theorem read1_tree {t : Bytes} {n : Outline} (h : read1 t = .ok n) : Tree n := unitsRead_tree (s := ⟨[], [], []⟩) ⟨trivial, Nat.zero_le _⟩ h
theorem good_cut {l : Outline} (g : Good l) {i : Nat} (hi : i < l.length) : Good (l.take i ++ l.drop (OfDesk.halt_ l i)) := by
  refine good_of g ?_ fun y hy => ⟨y, ?_, rfl, Nat.le_refl _⟩
  · have h0 : i + 1 ≤ OfDesk.halt_ l i := Nat.le_add_right _ _
    rw [List.length_append, List.length_take, List.length_drop]
    omega
  · rcases List.mem_append.mp hy with z | z
    · exact List.mem_of_mem_take z
    · exact List.mem_of_mem_drop z
theorem good_in {l : Outline} (g : Good l) {i : Nat} (hi : i < l.length) (h0 : ¬ (OfDesk.partOf l i (OfDesk.halt_ l i)).any (fun (x : Node) => decide (DEPTHS ≤ x.depth + 1)) = true) : Good (OfDesk.deeper l i) := by
  obtain ⟨x, A, B, C, q⟩ := cutting hi
  unfold OfDesk.deeper
  rw [q.part] at h0 ⊢
  rw [← q.eA, ← q.eC]
  have hall := q.all
  have hlen : (A ++ (OfDesk.deeperBy (x :: B) 1 ++ C)).length = l.length := by
    rw [hall, List.length_append, List.length_append, List.length_append, List.length_cons, List.length_append]
    unfold OfDesk.deeperBy
    rw [List.length_map, List.length_cons]
    omega
  have hm : ∀ y ∈ A ++ (OfDesk.deeperBy (x :: B) 1 ++ C), y ∈ l ∨ ∃ z ∈ x :: B, z ∈ l ∧ y = ⟨z.depth + 1, z.text⟩ := fun y hy => by
    rcases List.mem_append.mp hy with z | z
    · left; rw [hall]; exact List.mem_append_left _ z
    · rcases List.mem_append.mp z with z | z
      · obtain ⟨w, hw, rfl⟩ := List.mem_map.mp z
        refine .inr ⟨w, hw, ?_, rfl⟩
        rw [hall]
        refine List.mem_append_right _ ?_
        rcases List.mem_cons.mp hw with e | e
        · rw [e]; exact List.mem_cons_self
        · exact List.mem_cons_of_mem _ (List.mem_append_left _ e)
      · left; rw [hall]; exact List.mem_append_right _ (List.mem_cons_of_mem _ (List.mem_append_right _ z))
  refine ⟨by rw [hlen]; exact g.len, fun y hy => ?_, fun y hy => ?_⟩
  · rcases hm y hy with z | ⟨z, hz, _, rfl⟩
    · exact g.dep y z
    · rcases Nat.lt_or_ge z.depth 15 with w | w
      · exact w
      · exact absurd (List.any_eq_true.mpr ⟨z, hz, decide_eq_true (show 16 ≤ z.depth + 1 by omega)⟩) h0
  · rcases hm y hy with z | ⟨z, _, hz, rfl⟩
    · exact g.txt y z
    · exact g.txt z hz
theorem good_out {l : Outline} (t : Tree l) (g : Good l) {i p : Nat} (hi : i < l.length) (hp : parent l i = some p) : Good (OfDesk.moved l i (OfDesk.halt_ l p)) := by
  obtain ⟨x, A, B, D, E, e1, e2, e3, e4, e5, e6, _⟩ := moving t hi hp
  unfold OfDesk.moved
  rw [e2, e4, e5, e6]
  refine good_of g ?_ fun y hy => ?_
  · conv => rhs; rw [e3]
    unfold OfDesk.higher
    simp only [List.length_append, List.length_cons, List.length_map]
    omega
  · rw [e3]
    rcases List.mem_append.mp hy with z | z
    · exact ⟨y, List.mem_append_left _ z, rfl, Nat.le_refl _⟩
    · rcases List.mem_append.mp z with z | z
      · exact ⟨y, List.mem_append_right _ (List.mem_cons_of_mem _ (List.mem_append_right _ (List.mem_append_left _ z))), rfl, Nat.le_refl _⟩
      · rcases List.mem_append.mp z with z | z
        · obtain ⟨w, hw, rfl⟩ := List.mem_map.mp z
          refine ⟨w, List.mem_append_right _ ?_, rfl, Nat.sub_le _ _⟩
          rcases List.mem_cons.mp hw with e | e
          · rw [e]; exact List.mem_cons_self
          · exact List.mem_cons_of_mem _ (List.mem_append_left _ e)
        · exact ⟨y, List.mem_append_right _ (List.mem_cons_of_mem _ (List.mem_append_right _ (List.mem_append_right _ z))), rfl, Nat.le_refl _⟩
theorem good_step {l : Outline} (g : GoodT l) : ∀ c : OfDesk.Call, GoodT (OfDesk.step l c).1
  | .init => GoodT.nil
  | .read f t => by
    show GoodT (if f = 0 then OfDesk.readAs l t (read0 t) else if f = 1 then OfDesk.readAs l t (read1 t) else (l, OfDesk.says (-1))).1
    by_cases h0 : f = 0
    · rw [if_pos h0]
      unfold OfDesk.readAs
      cases e : read0 t with
      | error f => exact g
      | ok n => exact ⟨read0_good e, read0_tree e⟩
    · rw [if_neg h0]
      by_cases h1 : f = 1
      · rw [if_pos h1]
        unfold OfDesk.readAs
        cases e : read1 t with
        | error f => exact g
        | ok n => exact ⟨read1_good e, read1_tree e⟩
      · rw [if_neg h1]
        exact g
  | .write _ _ => g
  | .count => g
  | .depth _ => g
  | .parent _ => g
  | .block _ => g
  | .path _ => g
  | .text _ => g
  | .find _ _ => g
  | .add p t => by
    unfold OfDesk.step
    dsimp only
    by_cases h1 : OfDesk.parentOk l p = false
    · rw [if_pos h1]; exact g
    · rw [if_neg h1]
      by_cases h2 : isText t = false
      · rw [if_pos h2]; exact g
      · rw [if_neg h2]
        by_cases h3 : NODES ≤ l.length ∨ DEPTHS ≤ (if p = 0 then 0 else depthAt l (p - 1) + 1)
        · rw [if_pos h3]; exact g
        · rw [if_neg h3]
          have hp : p ≤ l.length := by
            have := eq_true_of_ne_false h1
            exact of_decide_eq_true this
          exact ⟨good_add g.g (fun z => h3 (.inl z)) (fun z => h3 (.inr z)) (isText_len (eq_true_of_ne_false h2)).2, tree_add g.t hp⟩
  | .cut i => by
    unfold OfDesk.step
    dsimp only
    by_cases h1 : l.length ≤ i
    · rw [if_pos h1]; exact g
    · rw [if_neg h1]
      exact ⟨good_cut g.g (by omega), tree_cut g.t (by omega)⟩
  | .in_ i => by
    unfold OfDesk.step
    dsimp only
    by_cases h1 : l.length ≤ i
    · rw [if_pos h1]; exact g
    · rw [if_neg h1]
      by_cases h2 : i = 0 ∨ depthAt l (i - 1) < depthAt l i
      · rw [if_pos h2]; exact g
      · rw [if_neg h2]
        by_cases h3 : (OfDesk.partOf l i (OfDesk.halt_ l i)).any (fun (x : Node) => decide (DEPTHS ≤ x.depth + 1)) = true
        · rw [if_pos h3]; exact g
        · rw [if_neg h3]
          exact ⟨good_in g.g (by omega) h3, tree_in g.t (by omega) h2⟩
  | .out i => by
    unfold OfDesk.step
    dsimp only
    by_cases h1 : l.length ≤ i
    · rw [if_pos h1]; exact g
    · rw [if_neg h1]
      cases e : parent l i with
      | none => exact g
      | some p => exact ⟨good_out g.t g.g (by omega) e, tree_out g.t (by omega) e⟩
end My
set_option Elab.async false
set_option linter.all false
namespace My
open Of
theorem told_len (a : OfDesk.Answer) : (OutlineNeutral.told a).length = 1 + a.nums.length + a.out.length := by
  unfold OutlineNeutral.told
  rw [List.length_cons, List.length_append, List.length_map, List.length_map]
  omega
theorem pathOf_len (l : Outline) : ∀ f i, (OfDesk.pathOf l f i).length ≤ f + 1
  | 0, i => Nat.le_refl _
  | f + 1, i => by
    unfold OfDesk.pathOf
    cases parent l i with
    | none => show 1 ≤ _; omega
    | some p =>
      dsimp only
      rw [List.length_append, List.length_singleton]
      have := pathOf_len l f p
      omega
theorem write0_len {step : Nat} {l : Outline} (g : Good l) (hs : step ≤ 8) : (write0 step l).length ≤ 20000 := by
  have h := w0_len g hs l.length
  unfold w0 at h
  rw [List.take_length] at h
  have := g.len
  omega
theorem ans_len {l : Outline} (g : Good l) : ∀ c : OfDesk.Call, (OutlineNeutral.told (OfDesk.step l c).2).length ≤ 20001
  | .init => by rw [told_len]; show 1 + 0 + 0 ≤ _; omega
  | .read f t => by
    rw [told_len]
    have key : ∀ r, 1 + (OfDesk.readAs l t r).2.nums.length + (OfDesk.readAs l t r).2.out.length ≤ 20001 := fun r => by
      cases r with
      | error f => show 1 + 2 + 0 ≤ _; omega
      | ok n => show 1 + 0 + 0 ≤ _; omega
    unfold OfDesk.step
    dsimp only
    by_cases h0 : f = 0
    · rw [if_pos h0]; exact key _
    · rw [if_neg h0]
      by_cases h1 : f = 1
      · rw [if_pos h1]; exact key _
      · rw [if_neg h1]; show 1 + 0 + 0 ≤ _; omega
  | .write f s => by
    rw [told_len]
    unfold OfDesk.step
    dsimp only
    by_cases h0 : 1 < f ∨ s = 0 ∨ 8 < s
    · rw [if_pos h0]; show 1 + 0 + 0 ≤ _; omega
    · rw [if_neg h0]
      show 1 + 0 + (if f = 0 then write0 s l else write1 l).length ≤ _
      by_cases h1 : f = 0
      · rw [if_pos h1]
        have := write0_len g (step := s) (by omega)
        omega
      · rw [if_neg h1]
        have := write1_len g
        omega
  | .count => by rw [told_len]; show 1 + 0 + 0 ≤ _; omega
  | .depth i => by
    rw [told_len]
    show 1 + (OfDesk.of l i _).nums.length + (OfDesk.of l i _).out.length ≤ _
    unfold OfDesk.of
    split <;> · show 1 + 0 + 0 ≤ _; omega
  | .parent i => by
    rw [told_len]
    show 1 + (OfDesk.of l i _).nums.length + (OfDesk.of l i _).out.length ≤ _
    unfold OfDesk.of
    split <;> · show 1 + 0 + 0 ≤ _; omega
  | .block i => by
    rw [told_len]
    show 1 + (OfDesk.of l i _).nums.length + (OfDesk.of l i _).out.length ≤ _
    unfold OfDesk.of
    split <;> · show 1 + 0 + 0 ≤ _; omega
  | .path i => by
    rw [told_len]
    show 1 + (OfDesk.of l i _).nums.length + (OfDesk.of l i _).out.length ≤ _
    unfold OfDesk.of
    split
    · show 1 + 0 + 0 ≤ _; omega
    · show 1 + (OfDesk.pathOf l DEPTHS i).length + 0 ≤ _
      have := pathOf_len l DEPTHS i
      have : DEPTHS = 16 := rfl
      omega
  | .text i => by
    rw [told_len]
    unfold OfDesk.step
    dsimp only
    cases e : l[i]? with
    | none => show 1 + 0 + 0 ≤ _; omega
    | some x =>
      show 1 + 0 + x.text.length ≤ _
      have := g.txt x (List.mem_of_getElem? e)
      omega
  | .find p t => by
    rw [told_len]
    unfold OfDesk.step
    dsimp only
    split
    · show 1 + 0 + 0 ≤ _; omega
    · split <;> · show 1 + 0 + 0 ≤ _; omega
  | .add p t => by
    rw [told_len]
    unfold OfDesk.step
    dsimp only
    repeat' split
    all_goals · show 1 + 0 + 0 ≤ _; omega
  | .cut i => by
    rw [told_len]
    unfold OfDesk.step
    dsimp only
    split <;> · show 1 + 0 + 0 ≤ _; omega
  | .in_ i => by
    rw [told_len]
    unfold OfDesk.step
    dsimp only
    repeat' split
    all_goals · show 1 + 0 + 0 ≤ _; omega
  | .out i => by
    rw [told_len]
    unfold OfDesk.step
    dsimp only
    repeat' split
    all_goals · show 1 + 0 + 0 ≤ _; omega
end My
set_option Elab.async false
set_option linter.all false
namespace My
open Of
theorem parent_zero {l : Outline} {i : Nat} (h : depthAt l i = 0) : parent l i = none := by
  cases e : parent l i with
  | none => rfl
  | some p =>
    have := (parent_some e).2.1
    omega
theorem path_more (l : Outline) : ∀ (f i : Nat), depthAt l i ≤ f → OfDesk.pathOf l (f + 1) i = OfDesk.pathOf l f i
  | 0, i, h => by
    have e := parent_zero (l := l) (i := i) (by omega)
    show (match parent l i with | none => [i] | some p => OfDesk.pathOf l 0 p ++ [i]) = [i]
    rw [e]
  | f + 1, i, h => by
    show (match parent l i with | none => [i] | some p => OfDesk.pathOf l (f + 1) p ++ [i]) = (match parent l i with | none => [i] | some p => OfDesk.pathOf l f p ++ [i])
    cases e : parent l i with
    | none => rfl
    | some p =>
      have := (parent_some e).2.1
      show OfDesk.pathOf l (f + 1) p ++ [i] = OfDesk.pathOf l f p ++ [i]
      rw [path_more l f p (by omega)]
theorem depth_le {l : Outline} (g : Good l) (i : Nat) : depthAt l i ≤ 15 := by
  unfold depthAt
  cases e : l[i]? with
  | none => exact Nat.zero_le _
  | some x => exact g.dep x (List.mem_of_getElem? e)
theorem path_top {l : Outline} {i : Nat} (h : parent l i = none) (f : Nat) : OfDesk.pathOf l f i = [i] := by
  cases f with
  | zero => rfl
  | succ f =>
    show (match parent l i with | none => [i] | some p => OfDesk.pathOf l f p ++ [i]) = [i]
    rw [h]
theorem path_step {l : Outline} (g : Good l) {i p : Nat} (h : parent l i = some p) : OfDesk.pathOf l 16 i = OfDesk.pathOf l 16 p ++ [i] := by
  show (match parent l i with | none => [i] | some p => OfDesk.pathOf l 15 p ++ [i]) = _
  rw [h]
  show OfDesk.pathOf l 15 p ++ [i] = _
  have := (parent_some h).2.1
  have := depth_le g i
  rw [← path_more l 15 p (by omega)]
theorem range_none {q : Nat → Bool} {n : Nat} (h : ∀ j, j < n → q j = false) : (List.range n).find? q = none := by
  rw [List.find?_eq_none]
  intro j hj
  rw [h j (List.mem_range.mp hj)]
  decide
theorem range_some {q : Nat → Bool} {n j : Nat} (hj : j < n) (hq : q j = true) (h : ∀ k, k < j → q k = false) : (List.range n).find? q = some j := by
  cases e : (List.range n).find? q with
  | none =>
    have := List.find?_eq_none.mp e j (List.mem_range.mpr hj)
    exact absurd hq this
  | some k =>
    obtain ⟨hk, as, bs, e2, h2⟩ := List.find?_eq_some_iff_append.mp e
    have hkn : k < n := List.mem_range.mp (by rw [e2]; exact List.mem_append_right _ List.mem_cons_self)
    have hlen : as.length = k := by
      have z : (List.range n)[as.length]? = some k := by
        rw [e2, List.getElem?_append_right (Nat.le_refl _), Nat.sub_self]
        rfl
      have hl : as.length < n := by
        have := congrArg List.length e2
        rw [List.length_range, List.length_append, List.length_cons] at this
        omega
      rw [List.getElem?_range hl] at z
      exact Option.some.inj z
    rcases Nat.lt_trichotomy j k with z | z | z
    · have hm : (List.range n)[j]? = some j := List.getElem?_range hj
      rw [e2, List.getElem?_append_left (by omega)] at hm
      have := h2 j (List.mem_of_getElem? hm)
      rw [hq] at this
      cases this
    · rw [z]
    · rw [h k z] at hk
      cases hk
end My
set_option Elab.async false
set_option linter.all false
set_option maxRecDepth 100000
set_option maxHeartbeats 4000000
namespace My
open PySem PySem.Spec PyProof.Rows L2
def top (i : Nat) : Stmt := PySem.Challenge.pw_outlinetexts_s01_answers.main.body.getD i (.Pass ⟨0, 0, 0, 0⟩)
abbrev sFault : Stmt := inClass (top 11) 0
abbrev sUnit : Stmt := inClass (top 33) 0
abbrev sPart : Stmt := top 34
abbrev sBack : Stmt := top 35
abbrev sIsPlain : Stmt := top 36
abbrev sTrimmed : Stmt := top 37
abbrev sNodeText : Stmt := top 38
abbrev sCheckUnit : Stmt := top 39
def Cst (mg : Str → Option Value) (x : Str) (i : Int) : Prop := ∃ t, mg x = some (.int i t)
theorem pe_cst {X : Cx} {x : Str} {i : Int} {pos : Pos} (h : Cst X.mg x i) (hg : Gl X x := by rfl) (hd : (x == ("__debug__" : Str)) = false := by decide) : PE X (.Name x pos) (tC (.int i)) := by
  obtain ⟨t, e⟩ := h
  exact pe_glob hg e ⟨t, rfl⟩ hd
theorem lk1 {f : Str} {v : V} {r : List (Str × V)} : List.lookup f ((f, v) :: r) = some v := List.lookup_cons_self
theorem lk2 {f g : Str} {v : V} {r : List (Str × V)} {x : Option V} (h : (f == g) = false) (e : List.lookup f r = x) : List.lookup f ((g, v) :: r) = x := by rw [List.lookup_cons, h]; exact e
theorem putF_nil {f : Str} {v : V} : putF f v [] = [(f, v)] := rfl
theorem putF_ne {f g : Str} {v x : V} {r : List (Str × V)} (h : ¬ g = f) : putF f v ((g, x) :: r) = (g, x) :: putF f v r := by
  show (if g = f then _ else _) = _
  rw [if_neg h]
theorem putF_eq {f : Str} {v x : V} {r : List (Str × V)} : putF f v ((f, x) :: r) = (f, v) :: r := by
  show (if f = f then _ else _) = _
  rw [if_pos rfl]
def intsV (l : List Int) : List V := l.map V.int
theorem in_ints (i : Int) : ∀ l : List Int, inV (.int i) (intsV l) = l.contains i
  | [] => rfl
  | j :: l => by
    show (eqV (.int j) (.int i) || inV (.int i) (intsV l)) = _
    rw [in_ints i l, List.contains_cons]
    have e : eqV (.int j) (.int i) = (i == j) := by
      show (j == i) = (i == j)
      exact Bool.beq_comm
    rw [e]
theorem flat_ints : ∀ l : List Int, (intsV l).all flatV = true
  | [] => rfl
  | _ :: l => flat_ints l
def uf (u : U) : List (Str × V) := [("place", .int u.place), ("byte", .int u.byte), ("plain", .bl u.plain)]
theorem uf_place (u : U) : (uf u).lookup ("place" : Str) = some (.int u.place) := lk1
theorem uf_byte (u : U) : (uf u).lookup ("byte" : Str) = some (.int u.byte) := lk2 (by decide +kernel) lk1
theorem uf_plain (u : U) : (uf u).lookup ("plain" : Str) = some (.bl u.plain) := lk2 (by decide +kernel) (lk2 (by decide +kernel) lk1)
def UnitAt (C : Addr) (H : Hp) (a : Addr) (u : U) : Prop := ∃ dx, H a = some (.ins C dx (uf u))
theorem UnitAt.same {C : Addr} {H H' : Hp} {a : Addr} {u : U} (h : UnitAt C H a u) (s : Same H H') : UnitAt C H' a u := by
  obtain ⟨dx, e⟩ := h
  exact ⟨dx, s _ _ e⟩
structure TU (K : PySem.W.Frag) (mg : Str → Option Value) (C : Addr) : Prop where
  cl : Cls K C
  n1 : NoAttr K C "place"
  n2 : NoAttr K C "byte"
  n3 : NoAttr K C "plain"
  mgC : mg "Unit" = some (.ref C)
def spUnit (C : Addr) : Sp := fun vs H Q _ => ∃ (p dx : Addr) (i b : Int) (q : Bool), vs = [.ref p, .int i, .int b, .bl q] ∧ H p = some (.ins C dx []) ∧ Q .non (upd H p (.ins C dx (uf ⟨i, b, q⟩)))
def spIsPlain (K : PySem.W.Frag) (C : Addr) : Sp := fun vs H Q _ => ∃ (a p : Addr) (u : U) (ws : List Int), vs = [.ref a, .ref p] ∧ UnitAt C H a u ∧ SqT K H p (intsV ws) ∧ Q (.bl (isPl ws u)) H
section
variable {P : Program} {w : World} {K : PySem.W.Frag} {mg : Str → Option Value} {base : Heap}
theorem scUnit : FnScope ["self", "place", "byte", "plain"] ["self", "place", "byte", "plain"] (defScope sUnit) := ⟨rfl, rfl, rfl, by decide +kernel, rfl, by decide +kernel, by decide +kernel⟩
theorem ok_unit {f C : Addr} {fd : FuncData} (F : Fun K "__init__" "Unit.__init__" sUnit f fd) (T : TU K mg C) : FnOk P w K mg base CX0 1 f fd ["self", "place", "byte", "plain"] (spUnit C) := by
  refine F.ok scUnit (fun vs H Q E h => ?_) (fun cdv A outer s H vs Q E hr h => ?_)
  · obtain ⟨p, dx, i, b, q, rfl, _⟩ := h
    rfl
  · obtain ⟨p, dx, i, b, q, rfl, hp, k⟩ := h
    refine ⟨_, pss_cons (ps_fld (pv 0) (pv 1) rfl) (pss_cons (ps_fld (pv 0) (pv 2) rfl) (pss_one (ps_fld (pv 0) (pv 3) rfl))), ?_⟩
    refine ⟨_, rfl, _, rfl, p, C, dx, [], rfl, hp, T.cl, T.n1, (by show 0 < 1000; decide), ?_⟩
    refine ⟨_, rfl, _, rfl, p, C, dx, _, rfl, upd_same, T.cl, T.n2, (by show 1 < 1000; decide), ?_⟩
    refine ⟨_, rfl, _, rfl, p, C, dx, _, rfl, upd_same, T.cl, T.n3, ?_, ?_⟩
    · rw [putF_nil, putF_ne (by decide +kernel), putF_nil]
      show 2 < 1000
      decide
    · show Q .non _
      rw [putF_nil, putF_ne (by decide +kernel), putF_nil, putF_ne (by decide +kernel), putF_ne (by decide +kernel), putF_nil, upd_upd, upd_upd]
      exact k
theorem scIsPlain : FnScope ["unit", "wanted"] ["unit", "wanted"] (defScope sIsPlain) := ⟨rfl, rfl, rfl, by decide +kernel, rfl, by decide +kernel, by decide +kernel⟩
theorem ok_isplain {f C : Addr} {fd : FuncData} (F : Fun K "is_plain" "is_plain" sIsPlain f fd) (T : TU K mg C) : FnOk P w K mg base CX0 1 f fd ["unit", "wanted"] (spIsPlain K C) := by
  refine F.ok scIsPlain (fun vs H Q E h => ?_) (fun cdv A outer s H vs Q E hr h => ?_)
  · obtain ⟨a, p, u, ws, rfl, _⟩ := h
    rfl
  · obtain ⟨a, p, u, ws, rfl, ⟨dx, hu⟩, hw, k⟩ := h
    refine ⟨_, pss_one (ps_ret (pe_and (pe_fld (pv 0) rfl) (pe_one (pe_cmpR op_in_seq (pe_fld (pv 0) rfl) (pv 1) rfl)))), ?_⟩
    refine ⟨_, rfl, a, C, dx, _, _, rfl, hu, T.cl, T.n3, uf_plain u, _, rfl, ?_⟩
    unfold isPl at k
    cases e : u.plain with
    | true =>
      rw [e] at k
      refine iteT ⟨_, rfl, a, C, dx, _, _, rfl, hu, T.cl, T.n2, uf_byte u, _, rfl, p, _, rfl, .inr hw, rfl, flat_ints ws, ?_⟩
      rw [in_ints]
      exact k
    | false =>
      rw [e] at k
      exact iteF k
end
end My
set_option Elab.async false
set_option linter.all false
set_option maxRecDepth 100000
set_option maxHeartbeats 4000000
namespace My
open PySem PySem.Spec PyProof.Rows L2
open Of (Bytes)
def bV (bs : Bytes) : List V := bs.map fun c => V.int (c.toNat : Int)
theorem bV_at {bs : Bytes} {i : Nat} {c : UInt8} (h : bs[i]? = some c) : (bV bs)[i]? = some (.int (c.toNat : Int)) := by
  unfold bV
  rw [List.getElem?_map, h]
  rfl
theorem bV_len (bs : Bytes) : (bV bs).length = bs.length := List.length_map _
def UnitsAt (C : Addr) (H : Hp) (l : Addr) (us : List U) : Prop := ∃ as : List Addr, H l = some (.lst (as.map V.ref)) ∧ Paired (UnitAt C H) as us
theorem Paired.snoc {α β : Type} {F : α → β → Prop} {a : α} {b : β} (h : F a b) : ∀ {l : List α} {m : List β}, Paired F l m → Paired F (l ++ [a]) (m ++ [b])
  | _, _, .nil => .cons h .nil
  | _, _, .cons q r => .cons q (Paired.snoc h r)
theorem Paired.get {α β : Type} {F : α → β → Prop} : ∀ {l : List α} {m : List β} {i : Nat} {b : β}, Paired F l m → m[i]? = some b → ∃ a, l[i]? = some a ∧ F a b
  | _, _, i, b, .nil, e => by simp at e
  | _, _, 0, b, .cons q _, e => by
    have e' := Option.some.inj e
    subst e'
    exact ⟨_, rfl, q⟩
  | _, _, i + 1, b, .cons _ r, e => Paired.get (i := i) r e
theorem UnitsAt.same {C : Addr} {H H' : Hp} {l : Addr} {us : List U} (h : UnitsAt C H l us) (s : Same H H') : UnitsAt C H' l us := by
  obtain ⟨as, e, p⟩ := h
  exact ⟨as, s _ _ e, L2.Paired.mapP p fun _ _ q => q.same s⟩
theorem UnitsAt.new (C : Addr) (H : Hp) (l : Addr) : UnitsAt C (upd H l (.lst [])) l [] := ⟨[], upd_same, .nil⟩
theorem UnitsAt.push {C : Addr} {H : Hp} {l x : Addr} {us : List U} {u : U} {as : List Addr} (e : H l = some (.lst (as.map V.ref))) (p : Paired (UnitAt C H) as us) (q : UnitAt C H x u) : UnitsAt C (upd H l (.lst (as.map V.ref ++ [.ref x]))) l (us ++ [u]) := by
  have go : ∀ a v, UnitAt C H a v → UnitAt C (upd H l (.lst (as.map V.ref ++ [.ref x]))) a v := fun a v ⟨dx, z⟩ => ⟨dx, by rw [upd_ne (ne_of z e (by intro y; cases y))]; exact z⟩
  refine ⟨as ++ [x], ?_, Paired.snoc (go _ _ q) (L2.Paired.mapP p go)⟩
  rw [upd_same, List.map_append]
  rfl
theorem same_upd {H H' : Hp} {l : Addr} {o : HO} (s : Same H H') (n : H l = none) : Same H (L2.upd H' l o) := fun b u e => by
  rw [upd_ne (ne_of_none e n)]
  exact s b u e
theorem same_new {H : Hp} {l : Addr} {o : HO} (n : H l = none) : Same H (L2.upd H l o) := same_upd (Same.refl H) n
def spBack (K : PySem.W.Frag) (C : Addr) : Sp := fun vs H Q _ => ∃ (a : Addr) (bs : Bytes) (i e : Nat), vs = [.ref a, .int i, .int e] ∧ SqL K H a (bV bs) ∧ i < e ∧ e ≤ bs.length ∧ ∀ H' x, Same H H' → H x = none → UnitAt C H' x (backU bs e i) → Q (.ref x) H'
def spPart (K : PySem.W.Frag) (C : Addr) : Sp := fun vs H Q _ => ∃ (a : Addr) (bs : Bytes) (b e : Nat), vs = [.ref a, .int b, .int e] ∧ SqL K H a (bV bs) ∧ e ≤ bs.length ∧ bs.length ≤ 2048 ∧
  ∀ H' l, Same H H' → H l = none → UnitsAt C H' l ((Of.units b (sl bs e b)).map uOf) → Q (.ref l) H'
structure Csts (mg : Str → Option Value) : Prop where
  feed : Cst mg "LINE_FEED" 10
  ret : Cst mg "RETURN" 13
  space : Cst mg "SPACE" 32
  hash : Cst mg "HASH" 35
  semi : Cst mg "SEMICOLON" 59
  back : Cst mg "BACKSLASH" 92
  opener : Cst mg "OPENER" 123
  closer : Cst mg "CLOSER" 125
  delete : Cst mg "DELETE" 127
  noByte : Cst mg "NO_BYTE" (-1)
section
variable {P : Program} {w : World} {K : PySem.W.Frag} {mg : Str → Option Value} {base : Heap}
theorem same_unit {H H1 : Hp} {x dx C : Addr} {u : U} (s : Same H H1) (nx : H1 x = none) (nd : H1 dx = none) (ne : dx ≠ x) : Same H (L2.upd (L2.upd (L2.upd H1 dx (.own x)) x (.ins C dx [])) x (.ins C dx (uf u))) ∧ UnitAt C (L2.upd (L2.upd (L2.upd H1 dx (.own x)) x (.ins C dx [])) x (.ins C dx (uf u))) x u :=
  ⟨same_upd (same_upd (same_upd s (s.free nd)) (s.free nx)) (s.free nx), dx, upd_same⟩
theorem scBack : FnScope ["text", "at", "end"] ["text", "at", "end"] (defScope sBack) := ⟨rfl, rfl, rfl, by decide +kernel, rfl, by decide +kernel, by decide +kernel⟩
theorem ok_back {f C fU : Addr} {fd fdU : FuncData} (F : Fun K "backslash_unit" "backslash_unit" sBack f fd) (T : TU K mg C) (c : Csts mg) (M : Mk K C fU) (GU : FnOk P w K mg base CX0 1 fU fdU ["self", "place", "byte", "plain"] (spUnit C)) (bU : Binds K fdU ["self", "place", "byte", "plain"] []) :
    FnOk P w K mg base CX0 3 f fd ["text", "at", "end"] (spBack K C) := by
  refine F.ok scBack (fun vs H Q E h => ?_) (fun cdv A outer s H vs Q E hr h => ?_)
  · obtain ⟨a, bs, i, e, rfl, _⟩ := h
    rfl
  · obtain ⟨a, bs, i, e, rfl, ha, h1, h2, k⟩ := h
    refine ⟨_, pss_cons (ps_if (PW.pt (pw_and (pt_cmpR op_lt (pe_op op_add (pv 1) pe_int) (pv 2) (nomark _)) (pw_and1 (pt_cmpR op_in_seq (pe_ix ix_list (pv 0) (pe_op op_add (pv 1) pe_int) (fun _ _ => rfl))
        (pe_tup (pa_cons (pe_cst c.back) (pa_cons (pe_cst c.hash) (pa_cons (pe_cst c.semi) (pa_cons (pe_cst c.opener) (pa_cons (pe_cst c.closer) (pa_cons (pe_cst c.space) pa_nil)))))) ) rfl))))
      (pss_one (ps_ret (pe_make M GU hr rfl T.mgC bU .nil pass0 (pa_cons (pv 1) (pa_cons (pe_ix ix_list (pv 0) (pe_op op_add (pv 1) pe_int) (fun _ _ => rfl)) (pa_cons pe_bl pa_nil)))))) pss_nil)
      (pss_one (ps_ret (pe_make M GU hr rfl T.mgC bU .nil pass0 (pa_cons (pv 1) (pa_cons (pe_cst c.noByte) (pa_cons pe_bl pa_nil)))))), ?_⟩
    have last : ∀ H1 : Hp, Same H H1 → backU bs e i = ⟨i, -1, false⟩ → tRet (tMake C (spUnit C) [] E0 (tCons (tVar 1) (tCons (tC (.int (-1))) (tCons (tC (.bl false)) tNil)))) { nx := fun _ H' => Q .non H', rt := Q } [some (.ref a), some (.int i), some (.int e)] H1 := fun H1 s1 eb => by
      refine ⟨_, rfl, fun x dx nx nd ne => ⟨x, dx, _, _, _, rfl, upd_same, rfl, ?_⟩⟩
      obtain ⟨s2, u2⟩ := same_unit (C := C) (u := ⟨i, -1, false⟩) s1 nx nd ne
      exact k _ x s2 (s1.free nx) (by rw [eb]; exact u2)
    refine ⟨_, rfl, _, _, rfl, rfl, _, rfl, _, _, rfl, rfl, _, rfl, ?_⟩
    by_cases h5 : i + 1 < e
    · rw [decide_eq_true (show (i : Int) + 1 < (e : Int) by omega)]
      obtain ⟨d, h6, h7⟩ := sl_cons h5 h2
      have hix : atI (bV bs) ((i : Int) + 1) = some (.int (d.toNat : Int)) := at_of (j := i + 1) (by omega) (bV_at h6)
      refine iteT ⟨_, rfl, _, rfl, _, _, rfl, rfl, a, _, _, _, rfl, rfl, ha, hix, (by show 6 ≤ sizeLine; decide), fun p hp => ?_⟩
      have s1 : Same H (L2.upd H p (.tup [.int 92, .int 35, .int 59, .int 123, .int 125, .int 32])) := same_new hp
      refine ⟨p, intsV [92, 35, 59, 123, 125, 32], rfl, .inr (SqT.of upd_same), rfl, rfl, _, rfl, ?_⟩
      rw [in_ints, esc_in]
      cases hd : Of.isEsc d with
      | true =>
        refine iteT ⟨_, rfl, _, rfl, _, rfl, _, _, rfl, rfl, a, _, _, _, rfl, rfl, s1.seq ha, hix, fun x dx nx nd ne => ⟨x, dx, _, _, _, rfl, upd_same, rfl, ?_⟩⟩
        obtain ⟨s2, u2⟩ := same_unit (C := C) (u := ⟨i, d.toNat, false⟩) s1 nx nd ne
        refine k _ x s2 (s1.free nx) ?_
        have eb : backU bs e i = ⟨i, d.toNat, false⟩ := by
          unfold backU
          rw [h7]
          show (if Of.isEsc d = true then _ else _) = _
          rw [if_pos hd]
        rw [eb]
        exact u2
      | false =>
        refine iteF (last _ s1 ?_)
        unfold backU
        rw [h7]
        show (if Of.isEsc d = true then _ else _) = _
        rw [if_neg (by rw [hd]; decide)]
    · rw [decide_eq_false (show ¬ (i : Int) + 1 < (e : Int) by omega)]
      refine iteF (iteF (last _ (Same.refl H) ?_))
      unfold backU
      rw [sl_nil (by omega : e ≤ i + 1)]
      rfl
end
end My
set_option Elab.async false
set_option linter.all false
set_option maxRecDepth 100000
set_option maxHeartbeats 4000000
namespace My
open PySem PySem.Spec PyProof.Rows L2
open Of (Bytes)
theorem small1000' {n : Nat} (h : n ≤ 2048) : n < sizeLine := Nat.lt_of_le_of_lt h (by decide)
theorem Paired.len {α β : Type} {F : α → β → Prop} : ∀ {l : List α} {m : List β}, Paired F l m → l.length = m.length
  | _, _, .nil => rfl
  | _, _, .cons _ r => congrArg (· + 1) (Paired.len r)
section
variable {P : Program} {w : World} {K : PySem.W.Frag} {mg : Str → Option Value} {base : Heap}
theorem scPart : FnScope ["text", "start", "end", "units", "at"] ["text", "start", "end"] (defScope sPart) := ⟨rfl, rfl, rfl, by decide +kernel, rfl, by decide +kernel, by decide +kernel⟩
theorem ok_part {f C fU fB : Addr} {fd fdU fdB : FuncData} (F : Fun K "part_units" "part_units" sPart f fd) (T : TU K mg C) (c : Csts mg) (M : Mk K C fU) (GU : FnOk P w K mg base CX0 1 fU fdU ["self", "place", "byte", "plain"] (spUnit C)) (bU : Binds K fdU ["self", "place", "byte", "plain"] [])
    (GB : FnOk P w K mg base CX0 3 fB fdB ["text", "at", "end"] (spBack K C)) (bB : Binds K fdB ["text", "at", "end"] []) (mB : mg "backslash_unit" = some (.ref fB)) (kB : PySem.W.keepIn K (.ref fB) = true) :
    FnOk P w K mg base CX0 4 f fd ["text", "start", "end"] (spPart K C) := by
  refine F.ok scPart (fun vs H Q E h => ?_) (fun cdv A outer s H vs Q E hr h => ?_)
  · obtain ⟨a, bs, b, e, rfl, _⟩ := h
    rfl
  · obtain ⟨a, bs, b, e, rfl, ha, h2, h3, k⟩ := h
    have nd := scPart.nd
    refine ⟨_, pss_cons (ps_set (i := 3) nd rfl (Or.inl rfl) (pe_lst pa_nil)) (pss_cons (ps_set (i := 4) nd rfl (Or.inl rfl) (pv 1))
      (pss_cons (ps_while PassesOwn.never (pt_cmpR op_lt (pv 4) (pv 2) (nomark _))
        (pss_one (ps_if (pt_cmpR op_eq (pe_ix ix_list (pv 0) (pv 4) (fun _ _ => rfl)) (pe_cst c.back) (nomark _))
          (pss_cons (ps_expr (pe_bm PySem.F.plainAttrs_list PySem.F.slot_list_append PySem.F.type_list_append mt_append (pv 3) (pa_cons (pe_call GB hr rfl mB kB bB .nil pass0 (pa_cons (pv 0) (pa_cons (pv 4) (pa_cons (pv 2) pa_nil)))) pa_nil)))
            (pss_one (ps_aug (i := 4) nd rfl (Or.inl rfl) pe_int ip_add)))
          (pss_cons (ps_expr (pe_bm PySem.F.plainAttrs_list PySem.F.slot_list_append PySem.F.type_list_append mt_append (pv 3) (pa_cons (pe_make M GU (hr.mono (by decide)) rfl T.mgC bU .nil pass0 (pa_cons (pv 4) (pa_cons (pe_ix ix_list (pv 0) (pv 4) (fun _ _ => rfl)) (pa_cons pe_bl pa_nil)))) pa_nil)))
            (pss_one (ps_aug (i := 4) nd rfl (Or.inl rfl) pe_int ip_add))))))
        (pss_one (ps_ret (pv 3))))), ?_⟩
    refine ⟨Nat.zero_le _, fun l hl => ⟨_, rfl, ?_⟩⟩
    have tot : ((Of.units b (sl bs e b)).map uOf).length ≤ 2048 := by
      rw [List.length_map]
      have := units_len b (sl bs e b)
      have := sl_len bs e b
      omega
    refine ⟨fun m σ H' => ∃ (i : Nat) (us : List U), m = e + 2 - i ∧ σ = [some (.ref a), some (.int b), some (.int e), some (.ref l), some (.int i)] ∧ Same H H' ∧ UnitsAt C H' l us ∧ us ++ (Of.units i (sl bs e i)).map uOf = (Of.units b (sl bs e b)).map uOf,
      ⟨_, b, [], rfl, rfl, same_new hl, UnitsAt.new C H l, rfl⟩, ?_⟩
    rintro m σ H1 ⟨i, us, rfl, rfl, s1, ⟨as, el, pu⟩, eq⟩
    refine ⟨_, rfl, _, rfl, _, _, rfl, rfl, _, rfl, ?_⟩
    have lus : as.length < sizeLine := by
      have h5 := congrArg List.length eq
      rw [List.length_append] at h5
      have h6 := Paired.len pu
      exact small1000' (by omega)
    by_cases h5 : i < e
    · rw [decide_eq_true (show (i : Int) < (e : Int) by omega)]
      refine iteT ⟨fun σ' H' => ∃ (j : Nat) (us : List U), i < j ∧ σ' = [some (.ref a), some (.int b), some (.int e), some (.ref l), some (.int j)] ∧ Same H H' ∧ UnitsAt C H' l us ∧ us ++ (Of.units j (sl bs e j)).map uOf = (Of.units b (sl bs e b)).map uOf,
        fun σ' H' ⟨j, us', z1, z2, z3, z4, z5⟩ => ⟨e + 2 - j, by omega, j, us', rfl, z2, z3, z4, z5⟩, ?_⟩
      obtain ⟨d, h6, h7⟩ := sl_cons h5 h2
      have hix : atI (bV bs) (i : Int) = some (.int (d.toNat : Int)) := atI_nat (bV_at h6)
      refine ⟨_, rfl, _, rfl, a, _, _, _, rfl, rfl, s1.seq ha, hix, rfl, _, rfl, ?_⟩
      by_cases h92 : d = 92
      · subst h92
        rw [decide_eq_true (show V.int ((92 : UInt8).toNat : Int) = V.int 92 from rfl)]
        refine iteT ⟨_, rfl, .inl ⟨rfl, _, SqL.of el⟩, _, rfl, _, rfl, _, rfl, a, bs, i, e, rfl, s1.seq ha, h5, h2, fun H2 x s2 nx ux => ?_⟩
        refine ⟨l, _, _, rfl, rfl, s2 _ _ el, (by rw [List.length_map]; exact lus), ?_⟩
        refine ⟨_, rfl, _, _, rfl, rfl, i + 2, us ++ [backU bs e i], by omega, ?_, same_upd (s1.trans s2) hl, UnitsAt.push (s2 _ _ el) (L2.Paired.mapP pu fun _ _ q => q.same s2) ux, ?_⟩
        · show [some (V.ref a), some (V.int b), some (V.int e), some (V.ref l), some (V.int ((i : Int) + 2))] = _
          rw [show (i : Int) + 2 = ((i + 2 : Nat) : Int) by omega]
        · rw [List.append_assoc, ← eq, units_back h5 h2 h6]
          rfl
      · rw [decide_eq_false (show ¬ V.int (d.toNat : Int) = V.int 92 from fun z => u8_ne d 92 h92 (V.int.inj z))]
        refine iteF ⟨_, rfl, .inl ⟨rfl, _, SqL.of el⟩, _, rfl, _, rfl, _, rfl, a, _, _, _, rfl, rfl, s1.seq ha, hix, fun x dx nx nd ne => ⟨x, dx, _, _, _, rfl, upd_same, rfl, ?_⟩⟩
        obtain ⟨s2, u2⟩ := same_unit (C := C) (u := ⟨i, d.toNat, true⟩) (Same.refl H1) nx nd ne
        refine ⟨l, _, _, rfl, rfl, s2 _ _ el, (by rw [List.length_map]; exact lus), ?_⟩
        refine ⟨_, rfl, _, _, rfl, rfl, i + 1, us ++ [⟨i, d.toNat, true⟩], by omega, ?_, same_upd (s1.trans s2) hl, UnitsAt.push (s2 _ _ el) (L2.Paired.mapP pu fun _ _ q => q.same s2) u2, ?_⟩
        · show [some (V.ref a), some (V.int b), some (V.int e), some (V.ref l), some (V.int ((i : Int) + 1))] = _
          rw [show (i : Int) + 1 = ((i + 1 : Nat) : Int) by omega]
        · rw [List.append_assoc, ← eq, units_plain h5 h2 h6 h92]
          rfl
    · rw [decide_eq_false (show ¬ (i : Int) < (e : Int) by omega)]
      refine iteF ⟨_, rfl, k _ l s1 hl ?_⟩
      rw [sl_nil (by omega : e ≤ i), units_nil, List.map_nil, List.append_nil] at eq
      rw [← eq]
      exact ⟨as, el, pu⟩
end
end My
set_option Elab.async false
set_option linter.all false
set_option maxRecDepth 100000
set_option maxHeartbeats 4000000
namespace My
open PySem PySem.Spec PyProof.Rows L2
open Of (Bytes)
theorem cutV_nat (xs : List V) {i j : Nat} (hi : i ≤ j) (hj : j ≤ xs.length) : cutV xs (some (i : Int)) (some (j : Int)) = cut xs i j := by
  unfold cutV cut
  rw [HT.sIx_nat, HT.sIx_nat, Nat.min_eq_left (show i ≤ xs.length by omega), Nat.min_eq_left hj, List.drop_take]
theorem cutV_from (xs : List V) {i : Nat} (hi : i ≤ xs.length) : cutV xs (some (i : Int)) none = xs.drop i := by
  unfold cutV
  rw [HT.sIx_nat, Nat.min_eq_left hi]
  show (xs.drop i).take (xs.length - i) = _
  rw [List.take_of_length_le (by rw [List.length_drop]; exact Nat.le_refl _)]
theorem cutV_to (xs : List V) {j : Nat} (hj : j ≤ xs.length) : cutV xs none (some (j : Int)) = xs.take j := by
  unfold cutV
  rw [HT.sIx_nat, Nat.min_eq_left hj]
  show (xs.drop 0).take (j - 0) = _
  rw [List.drop_zero, Nat.sub_zero]
theorem Paired.cut {α β : Type} {F : α → β → Prop} : ∀ {l : List α} {m : List β} (i j : Nat), Paired F l m → Paired F (My.cut l i j) (My.cut m i j) := by
  have tk : ∀ {l : List α} {m : List β} (j : Nat), Paired F l m → Paired F (l.take j) (m.take j) := fun {l m} j h => by
    induction h generalizing j with
    | nil => simp only [List.take_nil]; exact .nil
    | cons q r ih =>
      cases j with
      | zero => exact .nil
      | succ j => exact .cons q (ih j)
  have dr : ∀ {l : List α} {m : List β} (i : Nat), Paired F l m → Paired F (l.drop i) (m.drop i) := fun {l m} i h => by
    induction h generalizing i with
    | nil => simp only [List.drop_nil]; exact .nil
    | cons q r ih =>
      cases i with
      | zero => exact .cons q r
      | succ i => exact ih i
  intro l m i j h
  exact dr i (tk j h)
theorem map_cut {α β : Type} (f : α → β) (l : List α) (i j : Nat) : (cut l i j).map f = cut (l.map f) i j := by
  unfold cut
  rw [List.map_drop, List.map_take]
theorem refs_at {as : List Addr} {i : Nat} {a : Addr} (h : as[i]? = some a) : (as.map V.ref)[i]? = some (.ref a) := by
  rw [List.getElem?_map, h]
  rfl
structure Blt (mg : Str → Option Value) : Prop where
  len : mg "len" = none
  range : mg "range" = none
  max : mg "max" = none
  any : mg "any" = none
def spTrim (K : PySem.W.Frag) (C : Addr) : Sp := fun vs H Q _ => ∃ (l p : Addr) (us : List U) (ws : List Int), vs = [.ref l, .ref p] ∧ UnitsAt C H l us ∧ SqT K H p (intsV ws) ∧ us.length ≤ 2048 ∧
  ∀ H' m, Same H H' → H m = none → UnitsAt C H' m (trimU (isPl ws) us) → Q (.ref m) H'
section
variable {P : Program} {w : World} {K : PySem.W.Frag} {mg : Str → Option Value} {base : Heap}
theorem scTrim : FnScope ["units", "blanks", "start", "end"] ["units", "blanks"] (defScope sTrimmed) := ⟨rfl, rfl, rfl, by decide +kernel, rfl, by decide +kernel, by decide +kernel⟩
theorem ok_trim {f C fP : Addr} {fd fdP : FuncData} (F : Fun K "trimmed" "trimmed" sTrimmed f fd) (B : Blt mg) (GP : FnOk P w K mg base CX0 1 fP fdP ["unit", "wanted"] (spIsPlain K C)) (bP : Binds K fdP ["unit", "wanted"] []) (mP : mg "is_plain" = some (.ref fP))
    (kP : PySem.W.keepIn K (.ref fP) = true) : FnOk P w K mg base CX0 2 f fd ["units", "blanks"] (spTrim K C) := by
  refine F.ok scTrim (fun vs H Q E h => ?_) (fun cdv A outer s H vs Q E hr h => ?_)
  · obtain ⟨l, p, us, ws, rfl, _⟩ := h
    rfl
  · obtain ⟨l, p, us, ws, rfl, ⟨as, el, pu⟩, hw, hz, k⟩ := h
    have nd := scTrim.nd
    refine ⟨_, pss_cons (ps_set (i := 2) nd rfl (Or.inl rfl) pe_int)
      (pss_cons (ps_while PassesOwn.never (PW.pt (pw_and (pt_cmpR op_lt (pv 2) (pe_callB call_len_seq (by rfl) B.len PySem.boot_len (pa_cons (pv 0) pa_nil)) (nomark _))
          (pw_and1 (pt_val (pe_call GP hr rfl mP kP bP .nil pass0 (pa_cons (pe_ix ix_list (pv 0) (pv 2) (fun _ _ => rfl)) (pa_cons (pv 1) pa_nil)))))))
        (pss_one (ps_aug (i := 2) nd rfl (Or.inl rfl) pe_int ip_add)))
      (pss_cons (ps_set (i := 3) nd rfl (Or.inl rfl) (pe_callB call_len_seq (by rfl) B.len PySem.boot_len (pa_cons (pv 0) pa_nil)))
      (pss_cons (ps_while PassesOwn.never (PW.pt (pw_and (pt_cmpR op_gt (pv 3) (pv 2) (nomark _))
          (pw_and1 (pt_val (pe_call GP hr rfl mP kP bP .nil pass0 (pa_cons (pe_ix ix_list (pv 0) (pe_op op_sub (pv 3) pe_int) (fun _ _ => rfl)) (pa_cons (pv 1) pa_nil)))))))
        (pss_one (ps_aug (i := 3) nd rfl (Or.inl rfl) pe_int ip_sub)))
      (pss_one (ps_ret (pe_slice sl_list (pv 0) (po_some (pv 2)) (po_some (pv 3)))))))), ?_⟩
    have lu := Paired.len pu
    have lm : (as.map V.ref).length = us.length := by rw [List.length_map]; exact lu
    -- start
    refine ⟨fun m σ H' => ∃ i : Nat, m = us.length - i ∧ i ≤ us.length ∧ σ = [some (.ref l), some (.ref p), some (.int i), none] ∧ H' = H ∧ us.dropWhile (isPl ws) = (us.drop i).dropWhile (isPl ws), ⟨_, 0, rfl, Nat.zero_le _, rfl, rfl, rfl⟩, ?_⟩
    rintro m σ H1 ⟨i, rfl, hi, rfl, rfl, e1⟩
    -- end
    have back : ∀ i : Nat, i ≤ us.length → us.dropWhile (isPl ws) = us.drop i → tSeq (tAsg (tCB (fun xs H Q => ∃ p ys, xs = [V.ref p] ∧ (SqL K H p ys ∨ SqT K H p ys) ∧ Q (.int ys.length) H) (tCons (tVar 0) tNil)) (gName 3))
        (tSeq (tWhile (tAnd (tTest (tOp (rI0 fun i j => .bl (decide (j < i))) (tVar 3) (tVar 2))) (tB (tCall (spIsPlain K C) [] E0 (tCons (tOp (rIxL K) (tVar 0) (tOp (rI0 fun i j => .int (i - j)) (tVar 3) (tC (.int 1)))) (tCons (tVar 1) tNil))))) (tAug 3 (tC (.int 1)) (ipI fun i j => i - j)))
          (tRet (tSl (rSlL K) (tVar 0) (tPart (tVar 2)) (tPart (tVar 3))))) { nx := fun _ H' => Q .non H', rt := Q } [some (.ref l), some (.ref p), some (.int i), none] H1 := fun i hi e1 => by
      refine ⟨_, rfl, l, _, rfl, .inl (SqL.of el), ?_⟩
      rw [lm]
      refine ⟨fun m σ H' => ∃ j : Nat, m = j ∧ i ≤ j ∧ j ≤ us.length ∧ σ = [some (.ref l), some (.ref p), some (.int i), some (.int j)] ∧ H' = H1 ∧ trimU (isPl ws) us = dropEndU (isPl ws) (cut us i j), ⟨_, us.length, rfl, hi, Nat.le_refl _, rfl, rfl, ?_⟩, ?_⟩
      · unfold trimU
        rw [e1, cut_all]
      · rintro m σ H2 ⟨j, rfl, hij, hj, rfl, rfl, e2⟩
        have fin : trimU (isPl ws) us = cut us i m → tRet (tSl (rSlL K) (tVar 0) (tPart (tVar 2)) (tPart (tVar 3))) { nx := fun _ H' => Q .non H', rt := Q } [some (.ref l), some (.ref p), some (.int i), some (.int m)] H2 := fun e3 => by
          refine ⟨_, rfl, _, rfl, _, rfl, _, rfl, _, rfl, l, _, rfl, SqL.of el, fun q hq => k _ q (same_new hq) hq ?_⟩
          rw [cutV_nat _ hij (by rw [lm]; exact hj), ← map_cut, e3]
          exact ⟨cut as i m, upd_same, L2.Paired.mapP (Paired.cut i m pu) fun _ _ z => z.same (same_new hq)⟩
        refine ⟨_, rfl, _, rfl, _, _, rfl, rfl, _, rfl, ?_⟩
        by_cases h5 : i < m
        · rw [decide_eq_true (show (i : Int) < (m : Int) by omega)]
          obtain ⟨j, rfl⟩ : ∃ j, m = j + 1 := ⟨m - 1, by omega⟩
          have hu : us[j]? = some us[j] := List.getElem?_eq_getElem (by omega)
          obtain ⟨a, ha, ua⟩ := Paired.get pu hu
          refine iteT ⟨_, rfl, _, rfl, _, _, rfl, rfl, l, _, _, _, rfl, rfl, SqL.of el, at_of (j := j) (by omega) (refs_at ha), _, rfl, a, p, _, ws, rfl, ua, hw, _, rfl, ?_⟩
          cases hpl : isPl ws us[j] with
          | true =>
            refine iteT ⟨fun σ' H' => σ' = [some (.ref l), some (.ref p), some (.int i), some (.int j)] ∧ H' = H2, fun σ' H' ⟨z1, z2⟩ => ⟨j, by omega, j, rfl, by omega, by omega, z1, z2, ?_⟩, ⟨_, rfl, _, _, rfl, rfl, ?_, rfl⟩⟩
            · rw [e2, cut_snoc hu (by omega), dropEndU_snoc _ _ _ hpl]
            · show [some (V.ref l), some (V.ref p), some (V.int i), some (V.int (((j + 1 : Nat) : Int) - 1))] = _
              rw [show ((j + 1 : Nat) : Int) - 1 = (j : Int) by omega]
          | false =>
            refine iteF (fin ?_)
            rw [e2, cut_snoc hu (by omega), dropEndU_keep _ _ _ hpl]
        · rw [decide_eq_false (show ¬ (i : Int) < (m : Int) by omega)]
          have e4 : i = m := by omega
          subst e4
          refine iteF (iteF (fin ?_))
          rw [e2, cut_none, dropEndU_nil]
    refine ⟨_, rfl, _, rfl, l, _, rfl, .inl (SqL.of el), _, _, rfl, rfl, _, rfl, ?_⟩
    rw [lm]
    by_cases h5 : i < us.length
    · rw [decide_eq_true (show (i : Int) < (us.length : Int) by omega)]
      have hu : us[i]? = some us[i] := List.getElem?_eq_getElem h5
      obtain ⟨a, ha, ua⟩ := Paired.get pu hu
      refine iteT ⟨_, rfl, _, rfl, l, _, _, _, rfl, rfl, SqL.of el, atI_nat (refs_at ha), _, rfl, a, p, _, ws, rfl, ua, hw, _, rfl, ?_⟩
      cases hpl : isPl ws us[i] with
      | true =>
        refine iteT ⟨fun σ' H' => σ' = [some (.ref l), some (.ref p), some (.int (i + 1 : Nat)), none] ∧ H' = H1, fun σ' H' ⟨z1, z2⟩ => ⟨us.length - (i + 1), by omega, i + 1, rfl, by omega, z1, z2, ?_⟩, ⟨_, rfl, _, _, rfl, rfl, ?_, rfl⟩⟩
        · rw [e1, dw_step hu hpl]
        · show [some (V.ref l), some (V.ref p), some (V.int ((i : Int) + 1)), none] = _
          rw [show (i : Int) + 1 = ((i + 1 : Nat) : Int) by omega]
      | false =>
        refine iteF (back i hi ?_)
        rw [e1, dw_stop hu hpl]
    · rw [decide_eq_false (show ¬ (i : Int) < (us.length : Int) by omega)]
      refine iteF (iteF (back i hi ?_))
      rw [e1, List.drop_eq_nil_of_le (by omega : us.length ≤ i)]
      rfl
end
end My
set_option Elab.async false
set_option linter.all false
set_option maxRecDepth 100000
set_option maxHeartbeats 4000000
namespace My
open PySem PySem.Spec PyProof.Rows L2
open Of (Bytes)
abbrev ff (n p : V) : List (Str × V) := [("number", n), ("place", p)]
def FaultE (CF : Addr) (n p : Int) (H : Hp) (E : XK) : Prop := ∀ dx H', Same H H' → H dx = none → H' dx = some (xdO dx (ff (.int n) (.int p))) → E (.ref CF) (some dx) H'
theorem FaultE.same {CF : Addr} {n p : Int} {H H1 : Hp} {E : XK} (h : FaultE CF n p H E) (s : Same H H1) : FaultE CF n p H1 E := fun dx H' s' nd e => h dx H' (s.trans s') (s.free nd) e
structure TF (P : Program) (w : World) (K : PySem.W.Frag) (mg : Str → Option Value) (base : Heap) (CF fI : Addr) (fdI : FuncData) : Prop where
  mgF : mg "Fault" = some (.ref CF)
  cls : xclsIn K CF fI ["number", "place"] = true
  kp : PySem.W.keepIn K (.ref CF) = true
  fn : PySem.W.isFn K (.ref fI) = true
  ini : FnOk P w K mg base CX0 1 fI fdI ["self", "number", "place"] (L2.spInit CF ["number", "place"])
  bi : Binds K fdI ["self", "number", "place"] []
theorem tl_number : typeLookup (.type "Exception") "number" = pure none := by rw [typeLookup_type, builtinLookup_eq_fast]; kernel_rfl
theorem tl_place : typeLookup (.type "Exception") "place" = pure none := by rw [typeLookup_type, builtinLookup_eq_fast]; kernel_rfl
structure FCsts (mg : Str → Option Value) : Prop where
  ctl : Cst mg "CONTROL_BYTE" 1
  wrong : Cst mg "WRONG_BACKSLASH" 2
  other : Cst mg "OTHER_COLUMN" 3
  many : Cst mg "TOO_MANY_NODES" 4
  deep : Cst mg "TOO_DEEP" 5
  long : Cst mg "TOO_LONG" 6
  hold : Cst mg "NOTHING_TO_HOLD" 7
  close : Cst mg "NOTHING_TO_CLOSE" 8
  closed : Cst mg "NOT_CLOSED" 9
  inside : Cst mg "LINE_END_INSIDE" 10
  most : Cst mg "MOST_NODES" 64
  deepest : Cst mg "DEEPEST" 15
  longest : Cst mg "LONGEST_TEXT" 64
abbrev sIsControl : Stmt := top 27
def spIsControl : Sp := fun vs H Q _ => ∃ i : Int, vs = [.int i] ∧ Q (.bl (decide (i < 32 ∨ i = 127))) H
def spCheckUnit (K : PySem.W.Frag) (C CF : Addr) : Sp := fun vs H Q E => ∃ (a p : Addr) (u : U) (ws : List Int), vs = [.ref a, .ref p] ∧ UnitAt C H a u ∧ SqT K H p (intsV ws) ∧
  match unitFault ws u with
  | some n => FaultE CF n u.place H E
  | none => ∀ H', Same H H' → Q .non H'
section
variable {P : Program} {w : World} {K : PySem.W.Frag} {mg : Str → Option Value} {base : Heap}
theorem scFault : FnScope ["self", "number", "place"] ["self", "number", "place"] (defScope sFault) := ⟨rfl, rfl, rfl, by decide +kernel, rfl, by decide +kernel, by decide +kernel⟩
theorem ok_fault {f CF : Addr} {fd : FuncData} (F : Fun K "__init__" "Fault.__init__" sFault f fd) (hx : xclsIn K CF f ["number", "place"] = true) : FnOk P w K mg base CX0 1 f fd ["self", "number", "place"] (L2.spInit CF ["number", "place"]) := by
  refine F.ok scFault (fun vs H Q E h => ?_) (fun cdv A outer s H vs Q E hr h => ?_)
  · obtain ⟨x, rest, rfl, e, _⟩ := h
    rw [List.length_cons, e]
    rfl
  · obtain ⟨x, rest, rfl, e, ex, k⟩ := h
    match rest, e with
    | [n, p], _ =>
      refine ⟨_, pss_cons (ps_x1 ⟨rfl, rfl, rfl⟩ hx (by simp) tl_number (pv 0) (pv 1) rfl) (pss_one (ps_x2 hx (by simp) tl_place (pv 0) (pv 2) rfl)), ?_⟩
      refine ⟨_, rfl, _, rfl, x, rfl, ex, fun dx h1 h2 => ?_⟩
      refine ⟨_, rfl, _, rfl, x, dx, [("number", n)], rfl, upd_same, ?_, h2, (by show 1 < 1000; decide), ?_⟩
      · rw [upd_ne h2, upd_same]
      · have e1 : putF "place" p [("number", n)] = ff n p := by rw [putF_ne (by decide +kernel), putF_nil]
        have e2 : L2.upd (L2.upd (L2.upd H dx (xdO dx [("number", n)])) x (excO x CF (some dx))) dx (xdO dx (putF "place" p [("number", n)])) = L2.upd (L2.upd H dx (xdO dx (ff n p))) x (excO x CF (some dx)) := by
          rw [e1, upd_comm (Ne.symm h2), upd_upd]
        show Q .non _
        rw [e2]
        exact k dx h1 h2
theorem raised {CF : Addr} {n p : Int} {H : Hp} {E : XK} (h : FaultE CF n p H E) : ∀ dx, H dx = none → E (.ref CF) (some dx) (L2.upd H dx (xdO dx ((["number", "place"] : List Str).zip [.int n, .int p]))) := fun dx nd => h dx _ (same_new nd) nd upd_same
theorem scIsControl : FnScope ["byte"] ["byte"] (defScope sIsControl) := ⟨rfl, rfl, rfl, by decide +kernel, rfl, by decide +kernel, by decide +kernel⟩
theorem ok_iscontrol {f : Addr} {fd : FuncData} (F : Fun K "is_control" "is_control" sIsControl f fd) (c : Csts mg) : FnOk P w K mg base CX0 1 f fd ["byte"] spIsControl := by
  refine F.ok scIsControl (fun vs H Q E h => ?_) (fun cdv A outer s H vs Q E hr h => ?_)
  · obtain ⟨i, rfl, _⟩ := h
    rfl
  · obtain ⟨i, rfl, k⟩ := h
    refine ⟨_, pss_one (ps_ret (pe_or (pe_cmpR op_lt (pv 0) (pe_cst c.space) (nomark _)) (pe_one (pe_cmpR op_eq (pv 0) (pe_cst c.delete) (nomark _))))), ?_⟩
    refine ⟨_, rfl, _, _, rfl, rfl, _, rfl, ?_⟩
    by_cases h1 : i < 32
    · rw [decide_eq_true h1]
      rw [decide_eq_true (show i < 32 ∨ i = 127 from .inl h1)] at k
      exact iteT k
    · rw [decide_eq_false h1]
      refine iteF ⟨_, rfl, rfl, ?_⟩
      show Q (.bl (decide (V.int i = V.int 127))) H
      rw [show decide (V.int i = V.int 127) = decide (i < 32 ∨ i = 127) from decide_eq_decide.mpr ⟨fun z => .inr (V.int.inj z), fun z => z.elim (fun q => absurd q h1) fun q => by rw [q]⟩]
      exact k
theorem scCheckUnit : FnScope ["unit", "line_ends"] ["unit", "line_ends"] (defScope sCheckUnit) := ⟨rfl, rfl, rfl, by decide +kernel, rfl, by decide +kernel, by decide +kernel⟩
theorem ok_checkunit {f C CF fI fO : Addr} {fd fdI fdO : FuncData} (F : Fun K "check_unit" "check_unit" sCheckUnit f fd) (T : TU K mg C) (c : Csts mg) (fc : FCsts mg) (R : TF P w K mg base CF fI fdI)
    (GO : FnOk P w K mg base CX0 1 fO fdO ["byte"] spIsControl) (bO : Binds K fdO ["byte"] []) (mO : mg "is_control" = some (.ref fO)) (kO : PySem.W.keepIn K (.ref fO) = true) : FnOk P w K mg base (CX1 P w) 3 f fd ["unit", "line_ends"] (spCheckUnit K C CF) := by
  refine F.okX scCheckUnit (fun vs H Q E h => ?_) (fun cdv A outer s H vs Q E hr h => ?_)
  · obtain ⟨a, p, u, ws, rfl, _⟩ := h
    rfl
  · obtain ⟨a, p, u, ws, rfl, ⟨dx, hu⟩, hw, k⟩ := h
    refine ⟨_, pss_cons (ps_if (pt_cmpR op_eq (pe_fld (pv 0) rfl) (pe_cst c.noByte) (nomark _)) (pss_one (ps_raise rfl indef_cx throws_def R.ini hr (by decide) rfl R.mgF R.cls R.kp R.fn R.bi (pa_cons (pe_cst fc.wrong) (pa_cons (pe_fld (pv 0) rfl) pa_nil)))) pss_nil)
      (pss_cons (ps_if (pt_cmpR op_in_seq (pe_fld (pv 0) rfl) (pv 1) rfl) (pss_one (ps_raise rfl indef_cx throws_def R.ini hr (by decide) rfl R.mgF R.cls R.kp R.fn R.bi (pa_cons (pe_cst fc.inside) (pa_cons (pe_fld (pv 0) rfl) pa_nil)))) pss_nil)
      (pss_one (ps_if (pt_val (pe_call GO.lift (hr.mono (by decide)) rfl mO kO bO .nil (throws_def.passes indef_cx) (pa_cons (pe_fld (pv 0) rfl) pa_nil)))
        (pss_one (ps_raise rfl indef_cx throws_def R.ini hr (by decide) rfl R.mgF R.cls R.kp R.fn R.bi (pa_cons (pe_cst fc.ctl) (pa_cons (pe_fld (pv 0) rfl) pa_nil)))) pss_nil))), ?_⟩
    unfold unitFault at k
    refine ⟨_, rfl, a, C, dx, _, _, rfl, hu, T.cl, T.n2, uf_byte u, rfl, _, rfl, ?_⟩
    by_cases h1 : u.byte = -1
    · rw [decide_eq_true (show V.int u.byte = V.int (-1) by rw [h1])]
      rw [if_pos h1] at k
      exact iteT ⟨_, rfl, a, C, dx, _, _, rfl, hu, T.cl, T.n1, uf_place u, rfl, raised k⟩
    · rw [decide_eq_false (show ¬ V.int u.byte = V.int (-1) from fun z => h1 (V.int.inj z))]
      rw [if_neg h1] at k
      refine iteF ⟨_, rfl, a, C, dx, _, _, rfl, hu, T.cl, T.n2, uf_byte u, _, rfl, p, _, rfl, .inr hw, rfl, flat_ints ws, _, rfl, ?_⟩
      rw [in_ints]
      by_cases h2 : ws.contains u.byte = true
      · rw [if_pos h2] at k
        rw [h2]
        exact iteT ⟨_, rfl, a, C, dx, _, _, rfl, hu, T.cl, T.n1, uf_place u, rfl, raised k⟩
      · rw [if_neg h2] at k
        rw [Bool.not_eq_true] at h2
        rw [h2]
        refine iteF ⟨_, rfl, a, C, dx, _, _, rfl, hu, T.cl, T.n2, uf_byte u, u.byte, rfl, _, rfl, ?_⟩
        by_cases h3 : u.byte < 32 ∨ u.byte = 127
        · rw [if_pos h3] at k
          rw [decide_eq_true h3]
          exact iteT ⟨_, rfl, a, C, dx, _, _, rfl, hu, T.cl, T.n1, uf_place u, rfl, raised k⟩
        · rw [if_neg h3] at k
          rw [decide_eq_false h3]
          exact iteF (k _ (Same.refl H))
end
end My
set_option Elab.async false
set_option linter.all false
set_option maxRecDepth 100000
set_option maxHeartbeats 4000000
namespace My
open PySem PySem.Spec PyProof.Rows L2
open Of (Bytes)
def spNodeText (K : PySem.W.Frag) (C CF : Addr) : Sp := fun vs H Q E => ∃ (l p : Addr) (us : List U) (ws : List Int), vs = [.ref l, .ref p] ∧ UnitsAt C H l us ∧ SqT K H p (intsV ws) ∧ us ≠ [] ∧ us.length ≤ 2048 ∧
  match textU ws us with
  | .bad n q => FaultE CF n q H E
  | .good bs => ∀ H' m, Same H H' → H m = none → H' m = some (.lst (intsV bs)) → Q (.ref m) H'
theorem intsV_snoc (l : List Int) (i : Int) : intsV (l ++ [i]) = intsV l ++ [.int i] := by
  unfold intsV
  rw [List.map_append]
  rfl
theorem SqT.same {K : PySem.W.Frag} {H H' : Hp} {a : Addr} {xs : List V} (h : SqT K H a xs) (e : Same H H') : SqT K H' a xs := by
  rcases h with (h | ⟨o, h⟩) | h
  · exact .inl (.inl (e _ _ h))
  · exact .inl (.inr ⟨o, e _ _ h⟩)
  · exact .inr h
section
variable {P : Program} {w : World} {K : PySem.W.Frag} {mg : Str → Option Value} {base : Heap}
theorem scNodeText : FnScope ["units", "line_ends", "unit"] ["units", "line_ends"] (defScope sNodeText) := ⟨rfl, rfl, rfl, by decide +kernel, rfl, by decide +kernel, by decide +kernel⟩
theorem ok_nodetext {f C CF fI fU : Addr} {fd fdI fdU : FuncData} (F : Fun K "node_text" "node_text" sNodeText f fd) (T : TU K mg C) (B : Blt mg) (fc : FCsts mg) (R : TF P w K mg base CF fI fdI)
    (GU : FnOk P w K mg base (CX1 P w) 3 fU fdU ["unit", "line_ends"] (spCheckUnit K C CF)) (bU : Binds K fdU ["unit", "line_ends"] []) (mU : mg "check_unit" = some (.ref fU)) (kU : PySem.W.keepIn K (.ref fU) = true) :
    FnOk P w K mg base (CX1 P w) 4 f fd ["units", "line_ends"] (spNodeText K C CF) := by
  refine F.okX scNodeText (fun vs H Q E h => ?_) (fun cdv A outer s H vs Q E hr h => ?_)
  · obtain ⟨l, p, us, ws, rfl, _⟩ := h
    rfl
  · obtain ⟨l, p, us, ws, rfl, ⟨as, el, pu⟩, hw, hne, hz, k⟩ := h
    have nd := scNodeText.nd
    refine ⟨_, pss_cons (ps_for passes_own rfl (pi_list (pv 0)) (pg_name (i := 2) nd rfl (Or.inl rfl)) (pss_one (ps_expr (pe_call GU hr rfl mU kU bU .nil (throws_def.passes indef_cx) (pa_cons (pv 2) (pa_cons (pv 1) pa_nil))))))
      (pss_cons (ps_if (pt_cmpR op_gt (pe_callB call_len_seq (by rfl) B.len PySem.boot_len (pa_cons (pv 0) pa_nil)) (pe_cst fc.longest) (nomark _))
        (pss_one (ps_raise rfl indef_cx throws_def R.ini (hr.mono (by decide)) (by decide) rfl R.mgF R.cls R.kp R.fn R.bi (pa_cons (pe_cst fc.long) (pa_cons (pe_fld (pe_ix ix_list (pv 0) pe_int (fun _ _ => rfl)) rfl) pa_nil)))) pss_nil)
      (pss_one (ps_ret (pe_lc (own := [("unit", 2)]) (g := gName 2) (tt := tYes) (te := tFld K (tVar 2) "byte") rfl nd (pi_list (pv 0)) (blkOk_by (show blkC ["units", "line_ends", "unit"] (defScope sNodeText) _ [("unit", 2)] = true by decide +kernel))
        (by intro _ _ _ _ _; exact pg_name (i := 2) nd rfl (Or.inl rfl)) (by intro _ _ _ _ _; exact pts_nil) (by intro _ _ _ _ _; exact pe_fld (pv 2) rfl))))), ?_⟩
    have lu := Paired.len pu
    have lm : (as.map V.ref).length = us.length := by rw [List.length_map]; exact lu
    unfold textU at k
    refine ⟨_, rfl, l, rfl, ⟨_, SqL.of el⟩, for_list (K := K) (a := l) (xs := as.map V.ref) (fun i σ H' => ∃ v : Option V, σ = [some (.ref l), some (.ref p), v] ∧ Same H H' ∧ ∀ j u, j < i → us[j]? = some u → unitFault ws u = none)
      ⟨none, rfl, Same.refl H, fun j u hj => absurd hj (by omega)⟩ (fun i σ H' _ ⟨_, _, s1, _⟩ => SqL.of (s1 _ _ el)) ?_ ?_⟩
    · rintro i y σ H1 hy ⟨v, rfl, s1, hn⟩
      have hi : i < us.length := by rw [← lm]; exact (List.getElem?_eq_some_iff.mp hy).1
      have hu : us[i]? = some us[i] := List.getElem?_eq_getElem hi
      obtain ⟨a, ha, ua⟩ := Paired.get pu hu
      rw [refs_at ha] at hy
      cases hy
      refine ⟨_, rfl, _, rfl, a, p, us[i], ws, rfl, ua.same s1, SqT.same hw s1, ?_⟩
      cases hf : unitFault ws us[i] with
      | some n =>
        rw [firstFault_at hn hu hf] at k
        exact FaultE.same k s1
      | none =>
        refine fun H2 s2 => ⟨_, rfl, s1.trans s2, fun j u hj hu' => ?_⟩
        by_cases hji : j = i
        · subst hji
          rw [hu] at hu'
          cases hu'
          exact hf
        · exact hn j u (by omega) hu'
    · rintro σ H1 ⟨v, rfl, s1, hn⟩
      rw [lm] at hn
      rw [firstFault_none hn] at k
      refine ⟨_, rfl, l, _, rfl, .inl (SqL.of (s1 _ _ el)), _, _, rfl, rfl, _, rfl, ?_⟩
      rw [lm]
      by_cases h5 : 64 < us.length
      · rw [decide_eq_true (show (64 : Int) < (us.length : Int) by omega)]
        dsimp only at k
        rw [if_pos h5] at k
        obtain ⟨u0, r0, e0⟩ : ∃ u0 r0, us = u0 :: r0 := by
          cases us with
          | nil => exact absurd rfl hne
          | cons u0 r0 => exact ⟨u0, r0, rfl⟩
        have hu : us[0]? = some u0 := by rw [e0]; rfl
        obtain ⟨a, ha, dx, ua⟩ := Paired.get pu hu
        have ep : (us.head?.map U.place).getD 0 = u0.place := by rw [e0]; rfl
        rw [ep] at k
        exact iteT ⟨_, rfl, l, _, _, _, rfl, rfl, SqL.of (s1 _ _ el), at_of (j := 0) rfl (refs_at ha), a, C, dx, _, _, rfl, s1 _ _ ua, T.cl, T.n1, uf_place u0, rfl, raised (FaultE.same k s1)⟩
      · rw [decide_eq_false (show ¬ (64 : Int) < (us.length : Int) by omega)]
        dsimp only at k
        rw [if_neg h5] at k
        refine iteF ⟨_, rfl, l, rfl, ⟨_, SqL.of (s1 _ _ el)⟩, fun D hD => lc_list (K := K) (a := l) (xs := as.map V.ref) (fun i H' => H' D = some (.lst (intsV ((us.map U.byte).take i))) ∧ Same H1 H')
          ⟨upd_same, same_new hD⟩ (fun i H' _ ⟨_, s2⟩ => SqL.of (s2 _ _ (s1 _ _ el))) ?_ ?_⟩
        · rintro i y H2 hy ⟨eD, s2⟩
          have hi : i < us.length := by rw [← lm]; exact (List.getElem?_eq_some_iff.mp hy).1
          have hu : us[i]? = some us[i] := List.getElem?_eq_getElem hi
          obtain ⟨a, ha, dx, ua⟩ := Paired.get pu hu
          rw [refs_at ha] at hy
          cases hy
          refine ⟨rfl, ?_⟩
          dsimp only [tYes]
          rw [if_pos rfl]
          refine ⟨_, rfl, a, C, dx, _, _, rfl, s2 _ _ (s1 _ _ ua), T.cl, T.n2, uf_byte _, _, eD, ?_, ?_, same_upd s2 hD⟩
          · unfold intsV
            rw [List.length_map, List.length_take]
            exact small1000' (Nat.le_trans (Nat.min_le_left _ _) (by omega))
          · rw [upd_same, take_snoc (show (us.map U.byte)[i]? = some us[i].byte by rw [List.getElem?_map, hu]; rfl), intsV_snoc]
        · rintro H2 ⟨eD, s2⟩
          rw [lm, List.take_of_length_le (by rw [List.length_map]; exact Nat.le_refl _)] at eD
          exact k H2 D (s1.trans s2) (s1.free hD) eD
end
end My
set_option Elab.async false
set_option linter.all false
set_option maxRecDepth 100000
set_option maxHeartbeats 4000000
namespace My
open PySem PySem.Spec PyProof.Rows L2
open Of (Bytes Outline Node)
abbrev sNodes : Stmt := inClass (top 29) 0
abbrev sSize : Stmt := inClass (top 29) 1
abbrev sAddLast : Stmt := inClass (top 29) 2
abbrev sParentOf : Stmt := inClass (top 29) 7
abbrev sBlockEnd : Stmt := inClass (top 29) 10
abbrev sPutAt : Stmt := inClass (top 29) 3
abbrev sTakeOut : Stmt := inClass (top 29) 4
abbrev sMoveBehind : Stmt := inClass (top 29) 5
abbrev sShift : Stmt := inClass (top 29) 6
abbrev sDepthBelow : Stmt := inClass (top 29) 8
abbrev sPathTo : Stmt := inClass (top 29) 9
abbrev sRoom : Stmt := top 30
def nf (t d : Addr) : List (Str × V) := [("texts", .ref t), ("depths", .ref d)]
theorem nf_texts (t d : Addr) : (nf t d).lookup ("texts" : Str) = some (.ref t) := lk1
theorem nf_depths (t d : Addr) : (nf t d).lookup ("depths" : Str) = some (.ref d) := lk2 (by decide +kernel) lk1
theorem nf_no {t d : Addr} {m : Str} (h1 : (m == ("texts" : Str)) = false) (h2 : (m == ("depths" : Str)) = false) : (nf t d).lookup m = none := lk2 h1 (lk2 h2 rfl)
def depV (l : Outline) : List V := l.map fun x => V.int (x.depth : Int)
structure NodesAt (C : Addr) (H : Hp) (a t d : Addr) (ts : List Addr) (l : Outline) : Prop where
  ob : ∃ dx, H a = some (.ins C dx (nf t d))
  tx : H t = some (.lst (ts.map V.ref))
  dp : H d = some (.lst (depV l))
  td : t ≠ d
  pr : Paired (fun b (x : Node) => H b = some (.lst (bV x.text)) ∧ b ≠ t ∧ b ≠ d) ts l
theorem NodesAt.same {C : Addr} {H H' : Hp} {a t d : Addr} {ts : List Addr} {l : Outline} (n : NodesAt C H a t d ts l) (s : Same H H') : NodesAt C H' a t d ts l :=
  ⟨let ⟨dx, e⟩ := n.ob; ⟨dx, s _ _ e⟩, s _ _ n.tx, s _ _ n.dp, n.td, L2.Paired.mapP n.pr fun _ _ q => ⟨s _ _ q.1, q.2⟩⟩
theorem depV_at {l : Outline} {i : Nat} {x : Node} (h : l[i]? = some x) : (depV l)[i]? = some (.int (x.depth : Int)) := by
  unfold depV
  rw [List.getElem?_map, h]
  rfl
theorem depV_len (l : Outline) : (depV l).length = l.length := List.length_map _
def pushed (H : Hp) (t d m : Addr) (ts : List Addr) (l : Outline) (x : Node) : Hp := L2.upd (L2.upd H t (.lst (ts.map V.ref ++ [.ref m]))) d (.lst (depV l ++ [.int (x.depth : Int)]))
theorem pushed_ne {H : Hp} {t d m b : Addr} {ts : List Addr} {l : Outline} {x : Node} (h1 : b ≠ t) (h2 : b ≠ d) : pushed H t d m ts l x b = H b := by
  unfold pushed
  rw [upd_ne h2, upd_ne h1]
theorem NodesAt.push {C : Addr} {H : Hp} {a t d m : Addr} {ts : List Addr} {l : Outline} {x : Node} (n : NodesAt C H a t d ts l) (hm : H m = some (.lst (bV x.text))) (h1 : m ≠ t) (h2 : m ≠ d) : NodesAt C (pushed H t d m ts l x) a t d (ts ++ [m]) (l ++ [x]) := by
  have go : ∀ b (y : Node), (H b = some (.lst (bV y.text)) ∧ b ≠ t ∧ b ≠ d) → (pushed H t d m ts l x b = some (.lst (bV y.text)) ∧ b ≠ t ∧ b ≠ d) := fun b y ⟨q, z1, z2⟩ => ⟨by rw [pushed_ne z1 z2]; exact q, z1, z2⟩
  obtain ⟨dx, e⟩ := n.ob
  refine ⟨⟨dx, ?_⟩, ?_, ?_, n.td, Paired.snoc (F := fun b (y : Node) => pushed H t d m ts l x b = some (.lst (bV y.text)) ∧ b ≠ t ∧ b ≠ d) (go m x ⟨hm, h1, h2⟩) (L2.Paired.mapP n.pr go)⟩
  · rw [pushed_ne (ne_of e n.tx (by intro z; cases z)) (ne_of e n.dp (by intro z; cases z))]
    exact e
  · unfold pushed
    rw [upd_ne n.td, upd_same, List.map_append]
    rfl
  · unfold pushed
    rw [upd_same]
    unfold depV
    rw [List.map_append]
    rfl
def putH (H : Hp) (t d m : Addr) (ts : List Addr) (l : Outline) (k : Nat) (x : Node) : Hp := L2.upd (L2.upd H t (.lst ((ts.map V.ref).take k ++ .ref m :: (ts.map V.ref).drop k))) d (.lst ((depV l).take k ++ .int (x.depth : Int) :: (depV l).drop k))
theorem putH_last {H : Hp} {t d m : Addr} {ts : List Addr} {l : Outline} {x : Node} (h : ts.length = l.length) : putH H t d m ts l l.length x = pushed H t d m ts l x := by
  have e1 : (ts.map V.ref).length = l.length := by rw [List.length_map]; exact h
  have e2 := depV_len l
  unfold putH pushed
  rw [List.take_of_length_le (by omega), List.drop_eq_nil_of_le (by omega), List.take_of_length_le (by omega), List.drop_eq_nil_of_le (by omega)]
structure TN (K : PySem.W.Frag) (mg : Str → Option Value) (C : Addr) : Prop where
  cl : Cls K C
  n1 : NoAttr K C "texts"
  n2 : NoAttr K C "depths"
  mgC : mg "Nodes" = some (.ref C)
def spNodes (C : Addr) : Sp := fun vs H Q _ => ∃ (p dx : Addr), vs = [.ref p] ∧ H p = some (.ins C dx []) ∧ ∀ H' t d, NodesAt C H' p t d [] [] → H t = none → H d = none → (∀ b o, H b = some o → b ≠ p → H' b = some o) → Q .non H'
def spSize (C : Addr) : Sp := fun vs H Q _ => ∃ (a t d : Addr) (ts : List Addr) (l : Outline), vs = [.ref a] ∧ NodesAt C H a t d ts l ∧ Q (.int l.length) H
def spAddLast (C : Addr) : Sp := fun vs H Q _ => ∃ (a t d m : Addr) (ts : List Addr) (l : Outline) (x : Node), vs = [.ref a, .ref m, .int (x.depth : Int)] ∧ NodesAt C H a t d ts l ∧ l.length ≤ 100 ∧ Q .non (pushed H t d m ts l x)
def spPutAt (C : Addr) : Sp := fun vs H Q _ => ∃ (a t d m : Addr) (ts : List Addr) (l : Outline) (x : Node) (k : Nat), vs = [.ref a, .int (k : Int), .ref m, .int (x.depth : Int)] ∧ NodesAt C H a t d ts l ∧ k ≤ l.length ∧ l.length ≤ 100 ∧ Q .non (putH H t d m ts l k x)
def spRoom (C CF : Addr) : Sp := fun vs H Q E => ∃ (a t d : Addr) (ts : List Addr) (l : Outline) (k p : Int), vs = [.ref a, .int k, .int p] ∧ NodesAt C H a t d ts l ∧ if 64 ≤ l.length then FaultE CF 4 p H E else if 15 < k then FaultE CF 5 p H E else Q .non H
def parV (l : Outline) (i : Nat) : Nat := match Of.parent l i with
  | some j => j + 1
  | none => 0
def spParentOf (C : Addr) : Sp := fun vs H Q _ => ∃ (a t d : Addr) (ts : List Addr) (l : Outline) (i : Nat), vs = [.ref a, .int i] ∧ NodesAt C H a t d ts l ∧ i < l.length ∧ l.length ≤ 100 ∧ Q (.int (parV l i : Nat)) H
def spBlockEnd (C : Addr) : Sp := fun vs H Q _ => ∃ (a t d : Addr) (ts : List Addr) (l : Outline) (i : Nat), vs = [.ref a, .int i] ∧ NodesAt C H a t d ts l ∧ i < l.length ∧ Q (.int (OfDesk.halt_ l i : Nat)) H
section
variable {P : Program} {w : World} {K : PySem.W.Frag} {mg : Str → Option Value} {base : Heap}
theorem scNodes : FnScope ["self"] ["self"] (defScope sNodes) := ⟨rfl, rfl, rfl, by decide +kernel, rfl, by decide +kernel, by decide +kernel⟩
theorem ok_nodes {f C : Addr} {fd : FuncData} (F : Fun K "__init__" "Nodes.__init__" sNodes f fd) (T : TN K mg C) : FnOk P w K mg base CX0 1 f fd ["self"] (spNodes C) := by
  refine F.ok scNodes (fun vs H Q E h => ?_) (fun cdv A outer s H vs Q E hr h => ?_)
  · obtain ⟨p, dx, rfl, _⟩ := h
    rfl
  · obtain ⟨p, dx, rfl, hp, k⟩ := h
    refine ⟨_, pss_cons (ps_fld (pv 0) (pe_lst pa_nil) rfl) (pss_one (ps_fld (pv 0) (pe_lst pa_nil) rfl)), ?_⟩
    refine ⟨Nat.zero_le _, fun t ht => ⟨_, rfl, p, C, dx, [], rfl, ?_, T.cl, T.n1, (by show 0 < 1000; decide), ?_⟩⟩
    · rw [upd_ne (ne_of_none hp ht)]
      exact hp
    refine ⟨Nat.zero_le _, fun d hd => ⟨_, rfl, p, C, dx, putF "texts" (.ref t) [], rfl, ?_, T.cl, T.n2, (by show 1 < 1000; decide), ?_⟩⟩
    · rw [upd_ne (ne_of_none upd_same hd), upd_same]
    · have npt : p ≠ t := ne_of_none hp ht
      have npd : p ≠ d := ne_of_none upd_same hd
      have ntd : t ≠ d := by
        have : (L2.upd (L2.upd H t (.lst [])) p (.ins C dx (putF "texts" (.ref t) []))) t = some (.lst []) := by rw [upd_ne (Ne.symm npt), upd_same]
        exact ne_of_none this hd
      have hd0 : H d = none := by
        rw [upd_ne (Ne.symm npd), upd_ne (Ne.symm ntd)] at hd
        exact hd
      refine k _ t d ⟨⟨dx, ?_⟩, ?_, ?_, ntd, .nil⟩ ht hd0 fun b o e hb => ?_
      · rw [upd_same, putF_nil, putF_ne (by decide +kernel), putF_nil]
        rfl
      · rw [upd_ne (Ne.symm npt), upd_ne ntd, upd_ne (Ne.symm npt), upd_same]
        rfl
      · rw [upd_ne (Ne.symm npd), upd_same]
        rfl
      · rw [upd_ne hb, upd_ne (ne_of_none e hd0), upd_ne hb, upd_ne (ne_of_none e ht)]
        exact e
theorem scSize : FnScope ["self"] ["self"] (defScope sSize) := ⟨rfl, rfl, rfl, by decide +kernel, rfl, by decide +kernel, by decide +kernel⟩
theorem ok_size {f C : Addr} {fd : FuncData} (F : Fun K "size" "Nodes.size" sSize f fd) (T : TN K mg C) (B : Blt mg) : FnOk P w K mg base CX0 1 f fd ["self"] (spSize C) := by
  refine F.ok scSize (fun vs H Q E h => ?_) (fun cdv A outer s H vs Q E hr h => ?_)
  · obtain ⟨a, t, d, ts, l, rfl, _⟩ := h
    rfl
  · obtain ⟨a, t, d, ts, l, rfl, n, k⟩ := h
    obtain ⟨dx, e⟩ := n.ob
    refine ⟨_, pss_one (ps_ret (pe_callB call_len_seq (by rfl) B.len PySem.boot_len (pa_cons (pe_fld (pv 0) rfl) pa_nil))), ?_⟩
    refine ⟨_, rfl, a, C, dx, _, _, rfl, e, T.cl, T.n2, nf_depths t d, d, _, rfl, .inl (SqL.of n.dp), ?_⟩
    rw [depV_len]
    exact k
theorem scPutAt : FnScope ["self", "place", "text", "depth"] ["self", "place", "text", "depth"] (defScope sPutAt) := ⟨rfl, rfl, rfl, by decide +kernel, rfl, by decide +kernel, by decide +kernel⟩
theorem ok_putat {f C : Addr} {fd : FuncData} (F : Fun K "put_at" "Nodes.put_at" sPutAt f fd) (T : TN K mg C) : FnOk P w K mg base CX0 1 f fd ["self", "place", "text", "depth"] (spPutAt C) := by
  refine F.ok scPutAt (fun vs H Q E h => ?_) (fun cdv A outer s H vs Q E hr h => ?_)
  · obtain ⟨a, t, d, m, ts, l, x, k, rfl, _⟩ := h
    rfl
  · obtain ⟨a, t, d, m, ts, l, x, k, rfl, n, hk, hz, q⟩ := h
    obtain ⟨dx, e⟩ := n.ob
    have lt := Paired.len n.pr
    refine ⟨_, pss_cons (ps_expr (pe_bm PySem.F.plainAttrs_list PySem.F.slot_list_insert PySem.F.type_list_insert mt_insert (pe_fld (pv 0) rfl) (pa_cons (pv 1) (pa_cons (pv 2) pa_nil))))
      (pss_one (ps_expr (pe_bm PySem.F.plainAttrs_list PySem.F.slot_list_insert PySem.F.type_list_insert mt_insert (pe_fld (pv 0) rfl) (pa_cons (pv 1) (pa_cons (pv 3) pa_nil))))), ?_⟩
    refine ⟨_, rfl, a, C, dx, _, _, rfl, e, T.cl, T.n1, nf_texts t d, .inl ⟨rfl, _, SqL.of n.tx⟩, _, rfl, _, rfl, t, k, _, _, rfl, rfl, n.tx, (by rw [List.length_map]; omega), (by rw [List.length_map]; exact small1000' (by omega)), ?_⟩
    have nat : a ≠ t := ne_of e n.tx (by intro z; cases z)
    have e2 : L2.upd H t (.lst ((ts.map V.ref).take k ++ .ref m :: (ts.map V.ref).drop k)) a = some (.ins C dx (nf t d)) := by rw [upd_ne nat]; exact e
    have d2 : L2.upd H t (.lst ((ts.map V.ref).take k ++ .ref m :: (ts.map V.ref).drop k)) d = some (.lst (depV l)) := by rw [upd_ne (Ne.symm n.td)]; exact n.dp
    exact ⟨_, rfl, a, C, dx, _, _, rfl, e2, T.cl, T.n2, nf_depths t d, .inl ⟨rfl, _, SqL.of d2⟩, _, rfl, _, rfl, d, k, _, _, rfl, rfl, d2, (by rw [depV_len]; exact hk), (by rw [depV_len]; exact small1000' (by omega)), q⟩
theorem scAddLast : FnScope ["self", "text", "depth"] ["self", "text", "depth"] (defScope sAddLast) := ⟨rfl, rfl, rfl, by decide +kernel, rfl, by decide +kernel, by decide +kernel⟩
theorem ok_addlast {f C fP fS : Addr} {fd fdP fdS : FuncData} (F : Fun K "add_last" "Nodes.add_last" sAddLast f fd) (T : TN K mg C) (GP : FnOk P w K mg base CX0 1 fP fdP ["self", "place", "text", "depth"] (spPutAt C)) (bP : Binds K fdP ["self", "place", "text", "depth"] []) (mP : Meth K C "put_at" fP)
    (GS : FnOk P w K mg base CX0 1 fS fdS ["self"] (spSize C)) (bS : Binds K fdS ["self"] []) (mS : Meth K C "size" fS) : FnOk P w K mg base CX0 2 f fd ["self", "text", "depth"] (spAddLast C) := by
  refine F.ok scAddLast (fun vs H Q E h => ?_) (fun cdv A outer s H vs Q E hr h => ?_)
  · obtain ⟨a, t, d, m, ts, l, x, rfl, _⟩ := h
    rfl
  · obtain ⟨a, t, d, m, ts, l, x, rfl, n, hz, k⟩ := h
    obtain ⟨dx, e⟩ := n.ob
    refine ⟨_, pss_one (ps_expr (pe_meth (pv 0) T.cl mP GP hr bP .nil pass0 (pa_cons (pe_meth0 (pv 0) T.cl mS GS hr bS .nil pass0) (pa_cons (pv 1) (pa_cons (pv 2) pa_nil))))), ?_⟩
    refine ⟨_, rfl, a, dx, _, rfl, e, nf_no (by decide +kernel) (by decide +kernel), _, rfl, a, dx, _, rfl, e, nf_no (by decide +kernel) (by decide +kernel), a, t, d, ts, l, rfl, n, _, rfl, _, rfl, a, t, d, m, ts, l, x, l.length, rfl, n, Nat.le_refl _, hz, ?_⟩
    rw [putH_last (Paired.len n.pr)]
    exact k
theorem scRoom : FnScope ["nodes", "depth", "place"] ["nodes", "depth", "place"] (defScope sRoom) := ⟨rfl, rfl, rfl, by decide +kernel, rfl, by decide +kernel, by decide +kernel⟩
theorem ok_room {f C CF fI fS : Addr} {fd fdI fdS : FuncData} (F : Fun K "check_room" "check_room" sRoom f fd) (T : TN K mg C) (fc : FCsts mg) (R : TF P w K mg base CF fI fdI) (GS : FnOk P w K mg base CX0 1 fS fdS ["self"] (spSize C)) (bS : Binds K fdS ["self"] []) (mS : Meth K C "size" fS) :
    FnOk P w K mg base (CX1 P w) 3 f fd ["nodes", "depth", "place"] (spRoom C CF) := by
  refine F.okX scRoom (fun vs H Q E h => ?_) (fun cdv A outer s H vs Q E hr h => ?_)
  · obtain ⟨a, t, d, ts, l, k, p, rfl, _⟩ := h
    rfl
  · obtain ⟨a, t, d, ts, l, k, p, rfl, n, q⟩ := h
    obtain ⟨dx, e⟩ := n.ob
    refine ⟨_, pss_cons (ps_if (pt_cmpR op_ge (pe_meth0 (pv 0) T.cl mS GS.lift (hr.mono (by decide)) bS .nil (throws_def.passes indef_cx)) (pe_cst fc.most) (nomark _)) (pss_one (ps_raise rfl indef_cx throws_def R.ini hr (by decide) rfl R.mgF R.cls R.kp R.fn R.bi (pa_cons (pe_cst fc.many) (pa_cons (pv 2) pa_nil)))) pss_nil)
      (pss_one (ps_if (pt_cmpR op_gt (pv 1) (pe_cst fc.deepest) (nomark _)) (pss_one (ps_raise rfl indef_cx throws_def R.ini hr (by decide) rfl R.mgF R.cls R.kp R.fn R.bi (pa_cons (pe_cst fc.deep) (pa_cons (pv 2) pa_nil)))) pss_nil)), ?_⟩
    refine ⟨_, rfl, a, dx, _, rfl, e, nf_no (by decide +kernel) (by decide +kernel), a, t, d, ts, l, rfl, n, _, _, rfl, rfl, _, rfl, ?_⟩
    by_cases h1 : 64 ≤ l.length
    · rw [if_pos h1] at q
      rw [decide_eq_true (show (64 : Int) ≤ (l.length : Int) by omega)]
      exact iteT ⟨_, rfl, rfl, raised q⟩
    · rw [if_neg h1] at q
      rw [decide_eq_false (show ¬ (64 : Int) ≤ (l.length : Int) by omega)]
      refine iteF ⟨_, rfl, _, _, rfl, rfl, _, rfl, ?_⟩
      by_cases h2 : 15 < k
      · rw [if_pos h2] at q
        rw [decide_eq_true h2]
        exact iteT ⟨_, rfl, rfl, raised q⟩
      · rw [if_neg h2] at q
        rw [decide_eq_false h2]
        exact iteF q
end
end My
set_option Elab.async false
set_option linter.all false
set_option maxRecDepth 100000
set_option maxHeartbeats 4000000
namespace My
open PySem PySem.Spec PyProof.Rows L2
open Of (Bytes Outline Node)
def belowD (l : Outline) (p : Nat) : Nat := match p with
  | 0 => 0
  | q + 1 => Of.depthAt l q + 1
def spDepthBelow (C : Addr) : Sp := fun vs H Q _ => ∃ (a t d : Addr) (ts : List Addr) (l : Outline) (p : Nat), vs = [.ref a, .int p] ∧ NodesAt C H a t d ts l ∧ p ≤ l.length ∧ Q (.int (belowD l p : Nat)) H
section
variable {P : Program} {w : World} {K : PySem.W.Frag} {mg : Str → Option Value} {base : Heap}
theorem scParentOf : FnScope ["self", "i", "j"] ["self", "i"] (defScope sParentOf) := ⟨rfl, rfl, rfl, by decide +kernel, rfl, by decide +kernel, by decide +kernel⟩
theorem ok_parentof {f C : Addr} {fd : FuncData} (F : Fun K "parent_of" "Nodes.parent_of" sParentOf f fd) (T : TN K mg C) (B : Blt mg) : FnOk P w K mg base CX0 1 f fd ["self", "i"] (spParentOf C) := by
  refine F.ok scParentOf (fun vs H Q E h => ?_) (fun cdv A outer s H vs Q E hr h => ?_)
  · obtain ⟨a, t, d, ts, l, i, rfl, _⟩ := h
    rfl
  · obtain ⟨a, t, d, ts, l, i, rfl, n, hi, hz, k⟩ := h
    obtain ⟨dx, e⟩ := n.ob
    have nd := scParentOf.nd
    unfold parV at k
    refine ⟨_, pss_cons (ps_for PassesOwn.never rfl (pi_range3 rfl B.range (pa_cons (pe_op op_sub (pv 1) pe_int) (pa_cons (pe_un un_neg pe_int) (pa_cons (pe_un un_neg pe_int) pa_nil)))) (pg_name (i := 2) nd rfl (Or.inl rfl))
        (pss_one (ps_if (pt_cmpR op_eq (pe_ix ix_list (pe_fld (pv 0) rfl) (pv 2) (fun _ _ => rfl)) (pe_op op_sub (pe_ix ix_list (pe_fld (pv 0) rfl) (pv 1) (fun _ _ => rfl)) pe_int) (nomark _)) (pss_one (ps_ret (pe_op op_add (pv 2) pe_int))) pss_nil)))
      (pss_one (ps_ret pe_int)), ?_⟩
    have hli : l[i]? = some l[i] := List.getElem?_eq_getElem hi
    have di := depthAt_get hli
    have rg : RgC ((i : Int) - 1) (-1) (-1) i := by
      have z := RgC.neg (i := (i : Int) - 1) (j := -1) (by omega) (by omega) (by omega) (by omega)
      rwa [show ((i : Int) - 1 - (-1)).toNat = i by omega] at z
    refine ⟨_, rfl, _, _, rfl, rfl, _, rfl, _, rfl, _, _, _, i, rfl, rg, for_rangeC (lo := (i : Int) - 1) (c := -1) (n := i) (fun j σ H' => ∃ v : Option V, σ = [some (.ref a), some (.int i), v] ∧ H' = H ∧ Of.parent l i = lastOf (fun j => Of.depthAt l j + 1 == Of.depthAt l i) (i - j))
      ⟨none, rfl, rfl, parent_eq l i⟩ ?_ ?_⟩
    · rintro j σ H1 hj ⟨v, rfl, rfl, e1⟩
      obtain ⟨m, hm⟩ : ∃ m, i - j = m + 1 := ⟨i - j - 1, by omega⟩
      have hlm : l[m]? = some l[m] := List.getElem?_eq_getElem (by omega)
      have dm := depthAt_get hlm
      have ev : ((i : Int) - 1 + (j : Nat) * -1) = (m : Int) := by omega
      rw [ev]
      refine ⟨_, rfl, a, C, dx, _, _, rfl, e, T.cl, T.n2, nf_depths t d, _, rfl, d, _, _, _, rfl, rfl, SqL.of n.dp, atI_nat (depV_at hlm), _, rfl, a, C, dx, _, _, rfl, e, T.cl, T.n2, nf_depths t d, _, rfl, d, _, _, _, rfl, rfl, SqL.of n.dp, atI_nat (depV_at hli), _, _, rfl, rfl, rfl, _, rfl, ?_⟩
      rw [hm, lastOf_succ, dm, di] at e1
      by_cases h5 : (l[m]).depth + 1 = (l[i]).depth
      · rw [if_pos (beq_iff_eq.mpr h5)] at e1
        rw [decide_eq_true (show V.int ((l[m]).depth : Int) = V.int (((l[i]).depth : Int) - 1) from congrArg V.int (by omega))]
        refine iteT ⟨_, rfl, _, _, rfl, rfl, ?_⟩
        rw [e1] at k
        exact k
      · rw [if_neg (fun z => h5 (beq_iff_eq.mp z))] at e1
        rw [decide_eq_false (show ¬ V.int ((l[m]).depth : Int) = V.int (((l[i]).depth : Int) - 1) from fun z => h5 (by have := V.int.inj z; omega))]
        refine iteF ⟨_, rfl, rfl, ?_⟩
        rw [show i - (j + 1) = m by omega, di]
        exact e1
    · rintro σ H1 ⟨v, rfl, rfl, e1⟩
      rw [Nat.sub_self, lastOf_zero] at e1
      rw [e1] at k
      exact k
theorem scBlockEnd : FnScope ["self", "i", "end"] ["self", "i"] (defScope sBlockEnd) := ⟨rfl, rfl, rfl, by decide +kernel, rfl, by decide +kernel, by decide +kernel⟩
theorem ok_blockend {f C fS : Addr} {fd fdS : FuncData} (F : Fun K "block_end" "Nodes.block_end" sBlockEnd f fd) (T : TN K mg C) (GS : FnOk P w K mg base CX0 1 fS fdS ["self"] (spSize C)) (bS : Binds K fdS ["self"] []) (mS : Meth K C "size" fS) : FnOk P w K mg base CX0 2 f fd ["self", "i"] (spBlockEnd C) := by
  refine F.ok scBlockEnd (fun vs H Q E h => ?_) (fun cdv A outer s H vs Q E hr h => ?_)
  · obtain ⟨a, t, d, ts, l, i, rfl, _⟩ := h
    rfl
  · obtain ⟨a, t, d, ts, l, i, rfl, n, hi, k⟩ := h
    obtain ⟨dx, e⟩ := n.ob
    have nd := scBlockEnd.nd
    refine ⟨_, pss_cons (ps_set (i := 2) nd rfl (Or.inl rfl) (pe_op op_add (pv 1) pe_int))
      (pss_cons (ps_while PassesOwn.never (PW.pt (pw_and (pt_cmpR op_lt (pv 2) (pe_meth0 (pv 0) T.cl mS GS hr bS .nil pass0) (nomark _))
          (pw_and1 (pt_cmpR op_gt (pe_ix ix_list (pe_fld (pv 0) rfl) (pv 2) (fun _ _ => rfl)) (pe_ix ix_list (pe_fld (pv 0) rfl) (pv 1) (fun _ _ => rfl)) (nomark _)))))
        (pss_one (ps_aug (i := 2) nd rfl (Or.inl rfl) pe_int ip_add)))
      (pss_one (ps_ret (pv 2)))), ?_⟩
    have hli : l[i]? = some l[i] := List.getElem?_eq_getElem hi
    have di := depthAt_get hli
    refine ⟨_, rfl, _, _, rfl, rfl, ?_⟩
    refine ⟨fun m σ H' => ∃ j : Nat, m = l.length + 1 - j ∧ i < j ∧ σ = [some (.ref a), some (.int i), some (.int j)] ∧ H' = H ∧ Of.block l i = j - i - 1 + ((l.drop j).takeWhile fun x => decide (Of.depthAt l i < x.depth)).length,
      ⟨_, i + 1, rfl, by omega, ?_, rfl, ?_⟩, ?_⟩
    · show [some (V.ref a), some (V.int i), some (V.int ((i : Int) + 1))] = _
      rw [show (i : Int) + 1 = ((i + 1 : Nat) : Int) by omega]
    · unfold Of.block
      omega
    rintro m σ H1 ⟨j, rfl, hij, rfl, rfl, e1⟩
    have fin : ((l.drop j).takeWhile fun x => decide (Of.depthAt l i < x.depth)).length = 0 → tRet (tVar 2) { nx := fun _ H' => Q .non H', rt := Q } [some (.ref a), some (.int i), some (.int j)] H1 := fun z => by
      refine ⟨_, rfl, ?_⟩
      rw [z] at e1
      have e2 : OfDesk.halt_ l i = j := by
        unfold OfDesk.halt_
        omega
      rw [e2] at k
      exact k
    refine ⟨_, rfl, _, rfl, a, dx, _, rfl, e, nf_no (by decide +kernel) (by decide +kernel), a, t, d, ts, l, rfl, n, _, _, rfl, rfl, _, rfl, ?_⟩
    by_cases h5 : j < l.length
    · rw [decide_eq_true (show (j : Int) < (l.length : Int) by omega)]
      have hlj : l[j]? = some l[j] := List.getElem?_eq_getElem h5
      refine iteT ⟨_, rfl, a, C, dx, _, _, rfl, e, T.cl, T.n2, nf_depths t d, _, rfl, d, _, _, _, rfl, rfl, SqL.of n.dp, atI_nat (depV_at hlj), _, rfl, a, C, dx, _, _, rfl, e, T.cl, T.n2, nf_depths t d, _, rfl, d, _, _, _, rfl, rfl, SqL.of n.dp, atI_nat (depV_at hli), _, _, rfl, rfl, _, rfl, ?_⟩
      by_cases h6 : (l[i]).depth < (l[j]).depth
      · rw [decide_eq_true (show ((l[i]).depth : Int) < ((l[j]).depth : Int) by omega)]
        refine iteT ⟨fun σ' H' => σ' = [some (.ref a), some (.int i), some (.int (j + 1 : Nat))] ∧ H' = H1, fun σ' H' ⟨z1, z2⟩ => ⟨l.length + 1 - (j + 1), by omega, j + 1, rfl, by omega, z1, z2, ?_⟩, ⟨_, rfl, _, _, rfl, rfl, ?_, rfl⟩⟩
        · rw [e1, tw_step hlj (by rw [di]; exact decide_eq_true h6)]
          omega
        · show [some (V.ref a), some (V.int i), some (V.int ((j : Int) + 1))] = _
          rw [show (j : Int) + 1 = ((j + 1 : Nat) : Int) by omega]
      · rw [decide_eq_false (show ¬ ((l[i]).depth : Int) < ((l[j]).depth : Int) by omega)]
        exact iteF (fin (tw_stop hlj (by rw [di]; exact decide_eq_false h6)))
    · rw [decide_eq_false (show ¬ (j : Int) < (l.length : Int) by omega)]
      exact iteF (iteF (fin (tw_end (by omega))))
theorem scDepthBelow : FnScope ["self", "parent"] ["self", "parent"] (defScope sDepthBelow) := ⟨rfl, rfl, rfl, by decide +kernel, rfl, by decide +kernel, by decide +kernel⟩
theorem ok_depthbelow {f C : Addr} {fd : FuncData} (F : Fun K "depth_below" "Nodes.depth_below" sDepthBelow f fd) (T : TN K mg C) : FnOk P w K mg base CX0 1 f fd ["self", "parent"] (spDepthBelow C) := by
  refine F.ok scDepthBelow (fun vs H Q E h => ?_) (fun cdv A outer s H vs Q E hr h => ?_)
  · obtain ⟨a, t, d, ts, l, p, rfl, _⟩ := h
    rfl
  · obtain ⟨a, t, d, ts, l, p, rfl, n, hp, k⟩ := h
    obtain ⟨dx, e⟩ := n.ob
    refine ⟨_, pss_one (ps_ret (pe_ifExp (pt_cmpR op_gt (pv 1) pe_int (nomark _)) (pe_op op_add (pe_ix ix_list (pe_fld (pv 0) rfl) (pe_op op_sub (pv 1) pe_int) (fun _ _ => rfl)) pe_int) pe_int)), ?_⟩
    refine ⟨_, rfl, _, _, rfl, rfl, _, rfl, ?_⟩
    unfold belowD at k
    cases p with
    | zero =>
      rw [decide_eq_false (show ¬ (0 : Int) < ((0 : Nat) : Int) by decide)]
      exact iteF k
    | succ pp =>
      have hlp : l[pp]? = some l[pp] := List.getElem?_eq_getElem (by omega)
      rw [decide_eq_true (show (0 : Int) < ((pp + 1 : Nat) : Int) by omega)]
      refine iteT ⟨_, rfl, a, C, dx, _, _, rfl, e, T.cl, T.n2, nf_depths t d, _, rfl, _, _, rfl, rfl, d, _, _, _, rfl, rfl, SqL.of n.dp, at_of (j := pp) (by omega) (depV_at hlp), _, _, rfl, rfl, ?_⟩
      dsimp only at k
      rw [depthAt_get hlp] at k
      exact k
end
end My
set_option Elab.async false
set_option linter.all false
set_option maxRecDepth 100000
set_option maxHeartbeats 4000000
namespace My
open PySem PySem.Spec PyProof.Rows L2
open Of (Bytes Outline Node)
abbrev sReadLayout : Stmt := top 55
abbrev sLineEnd : Stmt := top 56
abbrev sLineUnits : Stmt := top 57
abbrev sTakeLine : Stmt := top 58
abbrev sParentLine : Stmt := top 59
abbrev sCheckColumn : Stmt := top 60
def natV (cs : List Nat) : List V := cs.map fun (c : Nat) => V.int (c : Int)
theorem natV_at {cs : List Nat} {i c : Nat} (h : cs[i]? = some c) : (natV cs)[i]? = some (.int (c : Int)) := by
  unfold natV
  rw [List.getElem?_map, h]
  rfl
theorem natV_len (cs : List Nat) : (natV cs).length = cs.length := List.length_map _
def spLineEnd (K : PySem.W.Frag) : Sp := fun vs H Q _ => ∃ (a : Addr) (bs : Bytes) (b : Nat), vs = [.ref a, .int b] ∧ SqL K H a (bV bs) ∧ b ≤ bs.length ∧ Q (.int (lineEnd bs b : Nat)) H
def spLineUnits (K : PySem.W.Frag) (C : Addr) : Sp := fun vs H Q _ => ∃ (a : Addr) (bs : Bytes) (b e : Nat), vs = [.ref a, .int b, .int e] ∧ SqL K H a (bV bs) ∧ b ≤ e ∧ e ≤ bs.length ∧ bs.length ≤ 2048 ∧
  ∀ H' m, Same H H' → H m = none → UnitsAt C H' m ((lineUs b (sl bs e b)).map uOf) → Q (.ref m) H'
def spParentLine (K : PySem.W.Frag) : Sp := fun vs H Q _ => ∃ (a : Addr) (cs : List Nat) (c : Nat), vs = [.ref a, .int c] ∧ SqL K H a (natV cs) ∧ cs.length ≤ 100 ∧ Q (.int (lastLess cs c : Nat)) H
def spCheckColumn (K : PySem.W.Frag) (CF : Addr) : Sp := fun vs H Q E => ∃ (a : Addr) (cs : List Nat) (p c : Nat) (q : Int), vs = [.ref a, .int p, .int c, .int q] ∧ SqL K H a (natV cs) ∧
  (∀ d, cs[p]? = some d → d ≠ c → FaultE CF 3 q H E) ∧ ((∀ d, cs[p]? = some d → d = c) → Q .non H)
section
variable {P : Program} {w : World} {K : PySem.W.Frag} {mg : Str → Option Value} {base : Heap}
theorem scLineEnd : FnScope ["text", "start", "end"] ["text", "start"] (defScope sLineEnd) := ⟨rfl, rfl, rfl, by decide +kernel, rfl, by decide +kernel, by decide +kernel⟩
theorem ok_lineend {f : Addr} {fd : FuncData} (F : Fun K "line_end" "line_end" sLineEnd f fd) (B : Blt mg) (c : Csts mg) : FnOk P w K mg base CX0 1 f fd ["text", "start"] (spLineEnd K) := by
  refine F.ok scLineEnd (fun vs H Q E h => ?_) (fun cdv A outer s H vs Q E hr h => ?_)
  · obtain ⟨a, bs, b, rfl, _⟩ := h
    rfl
  · obtain ⟨a, bs, b, rfl, ha, hb, k⟩ := h
    have nd := scLineEnd.nd
    refine ⟨_, pss_cons (ps_set (i := 2) nd rfl (Or.inl rfl) (pv 1))
      (pss_cons (ps_while PassesOwn.never (PW.pt (pw_and (pt_cmpR op_lt (pv 2) (pe_callB call_len_seq (by rfl) B.len PySem.boot_len (pa_cons (pv 0) pa_nil)) (nomark _)) (pw_and1 (pt_cmpR op_ne (pe_ix ix_list (pv 0) (pv 2) (fun _ _ => rfl)) (pe_cst c.feed) (nomark _)))))
        (pss_one (ps_aug (i := 2) nd rfl (Or.inl rfl) pe_int ip_add)))
      (pss_one (ps_ret (pv 2)))), ?_⟩
    refine ⟨_, rfl, fun m σ H' => ∃ e : Nat, m = bs.length + 1 - e ∧ σ = [some (.ref a), some (.int b), some (.int e)] ∧ H' = H ∧ lineEnd bs b = e + ((bs.drop e).takeWhile noFeed).length, ⟨_, b, rfl, rfl, rfl, rfl⟩, ?_⟩
    rintro m σ H1 ⟨e, rfl, rfl, rfl, e1⟩
    have fin : ((bs.drop e).takeWhile noFeed).length = 0 → tRet (tVar 2) { nx := fun _ H' => Q .non H', rt := Q } [some (.ref a), some (.int b), some (.int e)] H1 := fun z => by
      refine ⟨_, rfl, ?_⟩
      rw [z] at e1
      rw [e1] at k
      exact k
    refine ⟨_, rfl, _, rfl, a, _, rfl, .inl ha, _, _, rfl, rfl, _, rfl, ?_⟩
    rw [bV_len]
    by_cases h5 : e < bs.length
    · rw [decide_eq_true (show (e : Int) < (bs.length : Int) by omega)]
      have hbe : bs[e]? = some bs[e] := List.getElem?_eq_getElem h5
      refine iteT ⟨_, rfl, _, rfl, a, _, _, _, rfl, rfl, ha, atI_nat (bV_at hbe), rfl, _, rfl, ?_⟩
      by_cases h10 : bs[e] = 10
      · rw [decide_eq_true (show V.int ((bs[e]).toNat : Int) = V.int 10 by rw [h10]; rfl)]
        exact iteF (fin (tw_stop hbe (by rw [h10]; rfl)))
      · rw [decide_eq_false (show ¬ V.int ((bs[e]).toNat : Int) = V.int 10 from fun z => u8_ne _ 10 h10 (V.int.inj z))]
        refine iteT ⟨fun σ' H' => σ' = [some (.ref a), some (.int b), some (.int (e + 1 : Nat))] ∧ H' = H1, fun σ' H' ⟨z1, z2⟩ => ⟨bs.length + 1 - (e + 1), by omega, e + 1, rfl, z1, z2, ?_⟩, ⟨_, rfl, _, _, rfl, rfl, ?_, rfl⟩⟩
        · rw [e1, tw_step hbe (by show (!(bs[e] == 10)) = true; rw [beq_eq_false_iff_ne.mpr h10]; rfl)]
          omega
        · show [some (V.ref a), some (V.int b), some (V.int ((e : Int) + 1))] = _
          rw [show (e : Int) + 1 = ((e + 1 : Nat) : Int) by omega]
    · rw [decide_eq_false (show ¬ (e : Int) < (bs.length : Int) by omega)]
      exact iteF (iteF (fin (tw_end (by omega))))
theorem scLineUnits : FnScope ["text", "start", "end"] ["text", "start", "end"] (defScope sLineUnits) := ⟨rfl, rfl, rfl, by decide +kernel, rfl, by decide +kernel, by decide +kernel⟩
theorem ok_lineunits {f C fT fP : Addr} {fd fdT fdP : FuncData} (F : Fun K "line_units" "line_units" sLineUnits f fd) (c : Csts mg) (GT : FnOk P w K mg base CX0 2 fT fdT ["units", "blanks"] (spTrim K C)) (bT : Binds K fdT ["units", "blanks"] []) (mT : mg "trimmed" = some (.ref fT)) (kT : PySem.W.keepIn K (.ref fT) = true)
    (GP : FnOk P w K mg base CX0 4 fP fdP ["text", "start", "end"] (spPart K C)) (bP : Binds K fdP ["text", "start", "end"] []) (mP : mg "part_units" = some (.ref fP)) (kP : PySem.W.keepIn K (.ref fP) = true) : FnOk P w K mg base CX0 5 f fd ["text", "start", "end"] (spLineUnits K C) := by
  refine F.ok scLineUnits (fun vs H Q E h => ?_) (fun cdv A outer s H vs Q E hr h => ?_)
  · obtain ⟨a, bs, b, e, rfl, _⟩ := h
    rfl
  · obtain ⟨a, bs, b, e, rfl, ha, hbe, he, hz, k⟩ := h
    have nd := scLineUnits.nd
    refine ⟨_, pss_cons (ps_if (PW.pt (pw_and (pt_cmpR op_gt (pv 2) (pv 1) (nomark _)) (pw_and1 (pt_cmpR op_eq (pe_ix ix_list (pv 0) (pe_op op_sub (pv 2) pe_int) (fun _ _ => rfl)) (pe_cst c.ret) (nomark _))))) (pss_one (ps_aug (i := 2) nd rfl (Or.inl rfl) pe_int ip_sub)) pss_nil)
      (pss_one (ps_ret (pe_call GT (hr.mono (by decide)) rfl mT kT bT .nil pass0 (pa_cons (pe_call GP hr rfl mP kP bP .nil pass0 (pa_cons (pv 0) (pa_cons (pv 1) (pa_cons (pv 2) pa_nil)))) (pa_cons (pe_tup (pa_cons (pe_cst c.space) pa_nil)) pa_nil))))), ?_⟩
    have last : ∀ e' : Nat, e' ≤ bs.length → Of.noReturn (sl bs e b) = sl bs e' b → tRet (tCall (spTrim K C) [] E0 (tCons (tCall (spPart K C) [] E0 (tCons (tVar 0) (tCons (tVar 1) (tCons (tVar 2) tNil)))) (tCons (tTup (tCons (tC (.int 32)) tNil)) tNil))) { nx := fun _ H' => Q .non H', rt := Q } [some (.ref a), some (.int b), some (.int e')] H := fun e' he' en => by
      refine ⟨_, rfl, _, rfl, _, rfl, a, bs, b, e', rfl, ha, he', hz, fun H1 m s1 nm um => ⟨(by show 1 ≤ sizeLine; decide), fun p hp => ⟨m, p, _, [32], rfl, um.same (same_new hp), SqT.of upd_same, ?_, fun H2 q s2 nq uq => ?_⟩⟩⟩
      · rw [List.length_map]
        have := units_len b (sl bs e' b)
        have := sl_len bs e' b
        omega
      · refine k H2 q (s1.trans ((same_new hp).trans s2)) (s1.free ((same_new hp).free nq)) ?_
        rw [trim_line, ← en] at uq
        exact uq
    refine ⟨_, rfl, _, rfl, _, _, rfl, rfl, _, rfl, ?_⟩
    by_cases h5 : b < e
    · rw [decide_eq_true (show (b : Int) < (e : Int) by omega)]
      have hbe1 : bs[e - 1]? = some bs[e - 1] := List.getElem?_eq_getElem (by omega)
      refine iteT ⟨_, rfl, _, rfl, _, _, rfl, rfl, a, _, _, _, rfl, rfl, ha, at_of (j := e - 1) (by omega) (bV_at hbe1), rfl, _, rfl, ?_⟩
      by_cases h13 : bs[e - 1] = 13
      · rw [decide_eq_true (show V.int ((bs[e - 1]).toNat : Int) = V.int 13 by rw [h13]; rfl)]
        refine iteT ⟨_, rfl, _, _, rfl, rfl, ?_⟩
        have z := last (e - 1) (by omega) (by rw [noReturn_sl he, if_pos ⟨h5, by rw [hbe1, h13]⟩])
        rw [show ((e - 1 : Nat) : Int) = (e : Int) - 1 by omega] at z
        exact z
      · rw [decide_eq_false (show ¬ V.int ((bs[e - 1]).toNat : Int) = V.int 13 from fun z => u8_ne _ 13 h13 (V.int.inj z))]
        refine iteF (last e he ?_)
        rw [noReturn_sl he, if_neg (fun z => h13 (by have := z.2; rw [hbe1] at this; exact Option.some.inj this))]
    · rw [decide_eq_false (show ¬ (b : Int) < (e : Int) by omega)]
      refine iteF (iteF (last e he ?_))
      rw [noReturn_sl he, if_neg (fun z => h5 z.1)]
theorem scParentLine : FnScope ["columns", "column", "j"] ["columns", "column"] (defScope sParentLine) := ⟨rfl, rfl, rfl, by decide +kernel, rfl, by decide +kernel, by decide +kernel⟩
theorem ok_parentline {f : Addr} {fd : FuncData} (F : Fun K "parent_line" "parent_line" sParentLine f fd) (B : Blt mg) : FnOk P w K mg base CX0 1 f fd ["columns", "column"] (spParentLine K) := by
  refine F.ok scParentLine (fun vs H Q E h => ?_) (fun cdv A outer s H vs Q E hr h => ?_)
  · obtain ⟨a, cs, c, rfl, _⟩ := h
    rfl
  · obtain ⟨a, cs, c, rfl, ha, hz, k⟩ := h
    have nd := scParentLine.nd
    refine ⟨_, pss_cons (ps_for PassesOwn.never rfl (pi_range3 rfl B.range (pa_cons (pe_op op_sub (pe_callB call_len_seq (by rfl) B.len PySem.boot_len (pa_cons (pv 0) pa_nil)) pe_int) (pa_cons (pe_un un_neg pe_int) (pa_cons (pe_un un_neg pe_int) pa_nil)))) (pg_name (i := 2) nd rfl (Or.inl rfl))
        (pss_one (ps_if (pt_cmpR op_lt (pe_ix ix_list (pv 0) (pv 2) (fun _ _ => rfl)) (pv 1) (nomark _)) (pss_one (ps_ret (pe_op op_add (pv 2) pe_int))) pss_nil)))
      (pss_one (ps_ret pe_int)), ?_⟩
    have rg : RgC ((cs.length : Int) - 1) (-1) (-1) cs.length := by
      have z := RgC.neg (i := (cs.length : Int) - 1) (j := -1) (by omega) (by omega) (by omega) (by omega)
      rwa [show ((cs.length : Int) - 1 - (-1)).toNat = cs.length by omega] at z
    unfold lastLess at k
    refine ⟨_, rfl, a, _, rfl, .inl ha, _, _, rfl, rfl, _, rfl, _, rfl, _, _, _, cs.length, rfl, (by rw [natV_len]; exact rg), ?_⟩
    rw [natV_len]
    refine for_rangeC (lo := (cs.length : Int) - 1) (c := -1) (n := cs.length) (fun j σ H' => ∃ v : Option V, σ = [some (.ref a), some (.int c), v] ∧ H' = H ∧ lastOf (fun j => decide (cs.getD j 0 < c)) cs.length = lastOf (fun j => decide (cs.getD j 0 < c)) (cs.length - j))
      ⟨none, rfl, rfl, rfl⟩ ?_ ?_
    · rintro j σ H1 hj ⟨v, rfl, rfl, e1⟩
      obtain ⟨m, hm⟩ : ∃ m, cs.length - j = m + 1 := ⟨cs.length - j - 1, by omega⟩
      have hlm : cs[m]? = some cs[m] := List.getElem?_eq_getElem (by omega)
      have hgd : cs.getD m 0 = cs[m] := by rw [List.getD_eq_getElem?_getD, hlm]; rfl
      have ev : ((cs.length : Int) - 1 + (j : Nat) * -1) = (m : Int) := by omega
      rw [ev]
      refine ⟨_, rfl, _, rfl, a, _, _, _, rfl, rfl, ha, atI_nat (natV_at hlm), _, rfl, _, _, rfl, rfl, _, rfl, ?_⟩
      rw [hm, lastOf_succ, hgd] at e1
      by_cases h5 : cs[m] < c
      · rw [if_pos (decide_eq_true h5)] at e1
        rw [decide_eq_true (show ((cs[m] : Nat) : Int) < (c : Int) by omega)]
        refine iteT ⟨_, rfl, _, _, rfl, rfl, ?_⟩
        rw [e1] at k
        exact k
      · rw [if_neg (fun z => h5 (of_decide_eq_true z))] at e1
        rw [decide_eq_false (show ¬ ((cs[m] : Nat) : Int) < (c : Int) by omega)]
        refine iteF ⟨_, rfl, rfl, ?_⟩
        rw [show cs.length - (j + 1) = m by omega]
        exact e1
    · rintro σ H1 ⟨v, rfl, rfl, e1⟩
      rw [Nat.sub_self, lastOf_zero] at e1
      rw [e1] at k
      exact k
theorem scCheckColumn : FnScope ["columns", "parent", "column", "place"] ["columns", "parent", "column", "place"] (defScope sCheckColumn) := ⟨rfl, rfl, rfl, by decide +kernel, rfl, by decide +kernel, by decide +kernel⟩
theorem ok_checkcolumn {f CF fI : Addr} {fd fdI : FuncData} (F : Fun K "check_column" "check_column" sCheckColumn f fd) (B : Blt mg) (fc : FCsts mg) (R : TF P w K mg base CF fI fdI) : FnOk P w K mg base (CX1 P w) 3 f fd ["columns", "parent", "column", "place"] (spCheckColumn K CF) := by
  refine F.okX scCheckColumn (fun vs H Q E h => ?_) (fun cdv A outer s H vs Q E hr h => ?_)
  · obtain ⟨a, cs, p, c, q, rfl, _⟩ := h
    rfl
  · obtain ⟨a, cs, p, c, q, rfl, ha, k1, k2⟩ := h
    refine ⟨_, pss_one (ps_if (PW.pt (pw_and (pt_cmpR op_lt (pv 1) (pe_callB call_len_seq (by rfl) B.len PySem.boot_len (pa_cons (pv 0) pa_nil)) (nomark _)) (pw_and1 (pt_cmpR op_ne (pe_ix ix_list (pv 0) (pv 1) (fun _ _ => rfl)) (pv 2) (nomark _)))))
      (pss_one (ps_raise rfl indef_cx throws_def R.ini hr (by decide) rfl R.mgF R.cls R.kp R.fn R.bi (pa_cons (pe_cst fc.other) (pa_cons (pv 3) pa_nil)))) pss_nil), ?_⟩
    refine ⟨_, rfl, _, rfl, a, _, rfl, .inl ha, _, _, rfl, rfl, _, rfl, ?_⟩
    rw [natV_len]
    by_cases h5 : p < cs.length
    · rw [decide_eq_true (show (p : Int) < (cs.length : Int) by omega)]
      have hp : cs[p]? = some cs[p] := List.getElem?_eq_getElem h5
      refine iteT ⟨_, rfl, _, rfl, a, _, _, _, rfl, rfl, ha, atI_nat (natV_at hp), _, rfl, rfl, _, rfl, ?_⟩
      by_cases h6 : cs[p] = c
      · rw [decide_eq_true (show V.int ((cs[p] : Nat) : Int) = V.int (c : Int) by rw [h6])]
        exact iteF (k2 fun d z => by rw [hp] at z; cases z; exact h6)
      · rw [decide_eq_false (show ¬ V.int ((cs[p] : Nat) : Int) = V.int (c : Int) from fun z => h6 (by have := V.int.inj z; omega))]
        exact iteT ⟨_, rfl, rfl, raised (k1 _ hp h6)⟩
    · rw [decide_eq_false (show ¬ (p : Int) < (cs.length : Int) by omega)]
      exact iteF (iteF (k2 fun d z => by rw [List.getElem?_eq_none (by omega)] at z; cases z))
end
end My
set_option Elab.async false
set_option linter.all false
set_option maxRecDepth 100000
set_option maxHeartbeats 4000000
namespace My
open PySem PySem.Spec PyProof.Rows L2
open Of (Bytes Outline Node)
theorem Paired.mem {α β : Type} {F G : α → β → Prop} : ∀ {l : List α} {m : List β}, Paired F l m → (∀ a b, a ∈ l → F a b → G a b) → Paired G l m
  | _, _, .nil, _ => .nil
  | _, _, .cons q r, h => .cons (h _ _ List.mem_cons_self q) (Paired.mem r fun a b ha => h a b (List.mem_cons_of_mem _ ha))
theorem intsV_bytes (t : Bytes) : intsV (t.map fun c => (c.toNat : Int)) = bV t := by
  unfold intsV bV
  rw [List.map_map]
  rfl
def spTakeLine (CN C CF : Addr) : Sp := fun vs H Q E => ∃ (n t d cl ua : Addr) (ts : List Addr) (l : Outline) (cs : List Nat) (b : Nat) (ln : Bytes), vs = [.ref n, .ref cl, .ref ua, .int b] ∧ NodesAt CN H n t d ts l ∧ H cl = some (.lst (natV cs)) ∧ cl ≠ t ∧ cl ≠ d ∧ (∀ b ∈ ts, b ≠ cl) ∧ DepthOk cs l ∧ Good l ∧
  UnitsAt C H ua ((lineUs b ln).map uOf) ∧ (lineUs b ln).length ≤ 2048 ∧
  match Of.line ⟨cs.reverse, l⟩ (b, ln) with
  | .error f => FaultE CF f.code f.at_ H E
  | .ok s => ∀ H' ts', (∀ x o, H x = some o → x ≠ t → x ≠ d → x ≠ cl → H' x = some o) → NodesAt CN H' n t d ts' s.nodes → (∀ b ∈ ts', b ≠ cl) → (∀ b ∈ ts', b ∈ ts ∨ H b = none) → H' cl = some (.lst (natV s.cols.reverse)) → Q .non H'
section
variable {P : Program} {w : World} {K : PySem.W.Frag} {mg : Str → Option Value} {base : Heap}
theorem scTakeLine : FnScope ["nodes", "columns", "units", "start", "place", "column", "parent", "depth"] ["nodes", "columns", "units", "start"] (defScope sTakeLine) := ⟨rfl, rfl, rfl, by decide +kernel, rfl, by decide +kernel, by decide +kernel⟩
theorem ok_takeline {f CN C CF fP fL fC fR fA fN fB : Addr} {fd fdP fdL fdC fdR fdA fdN fdB : FuncData} (F : Fun K "take_line" "take_line" sTakeLine f fd) (T : TN K mg CN) (TU' : TU K mg C) (B : Blt mg) (c : Csts mg)
    (GP : FnOk P w K mg base CX0 1 fP fdP ["unit", "wanted"] (spIsPlain K C)) (bP : Binds K fdP ["unit", "wanted"] []) (mP : mg "is_plain" = some (.ref fP)) (kP : PySem.W.keepIn K (.ref fP) = true)
    (GL : FnOk P w K mg base CX0 1 fL fdL ["columns", "column"] (spParentLine K)) (bL : Binds K fdL ["columns", "column"] []) (mL : mg "parent_line" = some (.ref fL)) (kL : PySem.W.keepIn K (.ref fL) = true)
    (GC : FnOk P w K mg base (CX1 P w) 3 fC fdC ["columns", "parent", "column", "place"] (spCheckColumn K CF)) (bC : Binds K fdC ["columns", "parent", "column", "place"] []) (mC : mg "check_column" = some (.ref fC)) (kC : PySem.W.keepIn K (.ref fC) = true)
    (GR : FnOk P w K mg base (CX1 P w) 3 fR fdR ["nodes", "depth", "place"] (spRoom CN CF)) (bR : Binds K fdR ["nodes", "depth", "place"] []) (mR : mg "check_room" = some (.ref fR)) (kR : PySem.W.keepIn K (.ref fR) = true)
    (GB : FnOk P w K mg base CX0 1 fB fdB ["self", "parent"] (spDepthBelow CN)) (bB : Binds K fdB ["self", "parent"] []) (mB : Meth K CN "depth_below" fB)
    (GA : FnOk P w K mg base CX0 2 fA fdA ["self", "text", "depth"] (spAddLast CN)) (bA : Binds K fdA ["self", "text", "depth"] []) (mA : Meth K CN "add_last" fA)
    (GN : FnOk P w K mg base (CX1 P w) 4 fN fdN ["units", "line_ends"] (spNodeText K C CF)) (bN : Binds K fdN ["units", "line_ends"] []) (mN : mg "node_text" = some (.ref fN)) (kN : PySem.W.keepIn K (.ref fN) = true) :
    FnOk P w K mg base (CX1 P w) 5 f fd ["nodes", "columns", "units", "start"] (spTakeLine CN C CF) := by
  refine F.okX scTakeLine (fun vs H Q E h => ?_) (fun cdv A outer s H vs Q E hr h => ?_)
  · obtain ⟨n, t, d, cl, ua, ts, l, cs, b, ln, rfl, _⟩ := h
    rfl
  · obtain ⟨n, t, d, cl, ua, ts, l, cs, b, ln, rfl, nn, hcl, nct, ncd, ntc, D, g, hu, hz, k⟩ := h
    have nd := scTakeLine.nd
    have ps := (throws_def (P := P) (w := w) (K := K) (mg := mg) (base := base) (N := ["nodes", "columns", "units", "start", "place", "column", "parent", "depth"]) (qual := "take_line") (scope := defScope sTakeLine) (f := f) (cd := cdv) (A := A) (outer := outer) (s0 := s) (H0 := H) (E := E)).passes indef_cx
    refine ⟨_, pss_cons (ps_if (PW.pt (pw_or (pt_cmpR op_eq (pe_callB call_len_seq (by rfl) B.len PySem.boot_len (pa_cons (pv 2) pa_nil)) pe_int (nomark _))
          (pw_or1 (pt_val (pe_call GP.lift (hr.mono (by decide)) rfl mP kP bP .nil ps (pa_cons (pe_ix ix_list (pv 2) pe_int (fun _ _ => rfl)) (pa_cons (pe_tup (pa_cons (pe_cst c.hash) pa_nil)) pa_nil)))))))
        (pss_one ps_retN) pss_nil)
      (pss_cons (ps_set (i := 4) nd rfl (Or.inl rfl) (pe_fld (pe_ix ix_list (pv 2) pe_int (fun _ _ => rfl)) rfl))
      (pss_cons (ps_set (i := 5) nd rfl (Or.inl rfl) (pe_op op_sub (pv 4) (pv 3)))
      (pss_cons (ps_set (i := 6) nd rfl (Or.inl rfl) (pe_call GL.lift (hr.mono (by decide)) rfl mL kL bL .nil ps (pa_cons (pv 1) (pa_cons (pv 5) pa_nil))))
      (pss_cons (ps_expr (pe_call GC (hr.mono (by decide)) rfl mC kC bC .nil ps (pa_cons (pv 1) (pa_cons (pv 6) (pa_cons (pv 5) (pa_cons (pv 4) pa_nil))))))
      (pss_cons (ps_set (i := 7) nd rfl (Or.inl rfl) (pe_meth (pv 0) T.cl mB GB.lift (hr.mono (by decide)) bB .nil ps (pa_cons (pv 6) pa_nil)))
      (pss_cons (ps_expr (pe_call GR (hr.mono (by decide)) rfl mR kR bR .nil ps (pa_cons (pv 0) (pa_cons (pv 7) (pa_cons (pv 4) pa_nil)))))
      (pss_cons (ps_expr (pe_meth (pv 0) T.cl mA GA.lift (hr.mono (by decide)) bA .nil ps (pa_cons (pe_call GN hr rfl mN kN bN .nil ps (pa_cons (pv 2) (pa_cons (pe_tup pa_nil) pa_nil))) (pa_cons (pv 7) pa_nil))))
      (pss_one (ps_expr (pe_bm PySem.F.plainAttrs_list PySem.F.slot_list_append PySem.F.type_list_append mt_append (pv 1) (pa_cons (pv 5) pa_nil))))))))))), ?_⟩
    obtain ⟨as, el, pu⟩ := id hu
    have lu := Paired.len pu
    rw [List.length_map] at lu
    have lm : (as.map V.ref).length = (lineUs b ln).length := by rw [List.length_map]; exact lu
    refine ⟨_, rfl, ua, _, rfl, .inl (SqL.of el), rfl, _, rfl, ?_⟩
    rw [lm]
    rcases line_cases D b ln with ⟨e0, e1⟩ | ⟨u, r, cc, e0, ho, hcase⟩
    · rw [e0]
      rw [e1] at k
      rw [decide_eq_true (show V.int ((([] : List (Nat × Bytes)).length : Nat) : Int) = V.int 0 from rfl)]
      exact iteT (iteT (k H ts (fun x o z _ _ _ => z) nn ntc (fun _ z => .inl z) (by rw [List.reverse_reverse]; exact hcl)))
    · rw [decide_eq_false (show ¬ V.int (((lineUs b ln).length : Nat) : Int) = V.int 0 from fun z => by have z2 := V.int.inj z; rw [e0, List.length_cons] at z2; omega)]
      have hu0 : ((lineUs b ln).map uOf)[0]? = some (uOf u) := by rw [e0]; rfl
      obtain ⟨a0, ha0, ua0⟩ := Paired.get pu hu0
      have hix : atI (as.map V.ref) 0 = some (.ref a0) := at_of (j := 0) rfl (refs_at ha0)
      refine iteF ⟨_, rfl, ua, _, _, _, rfl, rfl, SqL.of el, hix, (by show 1 ≤ sizeLine; decide), fun p hp => ⟨a0, p, uOf u, [35], rfl, ua0.same (same_new hp), SqT.of upd_same, _, rfl, ?_⟩⟩
      have s1 : Same H (L2.upd H p (.tup [.int 35])) := same_new hp
      generalize hH1 : L2.upd H p (.tup [.int 35]) = H1
      rw [hH1] at s1
      have hU : ∀ v ∈ u :: r, isU v.2 := by rw [← e0]; exact lineUs_isU b ln
      rcases hcase with ⟨h35, e1⟩ | ⟨h35, hrest⟩
      · rw [h35]
        rw [e1] at k
        exact iteT (k H1 ts (fun x o z _ _ _ => s1 x o z) (nn.same s1) ntc (fun _ z => .inl z) (by rw [List.reverse_reverse]; exact s1 _ _ hcl))
      · rw [h35]
        obtain ⟨dx0, ga0⟩ := ua0
        refine iteF ⟨_, rfl, ua, _, _, _, rfl, rfl, SqL.of (s1 _ _ el), hix, a0, C, dx0, _, _, rfl, s1 _ _ ga0, TU'.cl, TU'.n1, uf_place _, ?_⟩
        have epl : (uOf u).place = ((b + cc : Nat) : Int) := by rw [uOf_place, ho]
        rw [epl]
        refine ⟨_, rfl, _, rfl, _, _, rfl, rfl, ?_⟩
        have ecol : (((b + cc : Nat) : Int) - (b : Int)) = (cc : Int) := by omega
        show gName 5 (V.int (((b + cc : Nat) : Int) - (b : Int))) _ _ _
        rw [ecol]
        refine ⟨_, rfl, _, rfl, cl, cs, cc, rfl, SqL.of (s1 _ _ hcl), (by have := D.len; have := g.len; omega), ?_⟩
        refine ⟨_, rfl, _, rfl, _, rfl, _, rfl, cl, cs, lastLess cs cc, cc, _, rfl, SqL.of (s1 _ _ hcl), fun q hq hqc => ?_, fun hall => ?_⟩
        · rcases hrest with ⟨_, _, _, e1⟩ | ⟨hall, _⟩
          · rw [e1] at k
            exact FaultE.same k s1
          · exact absurd (hall q hq) hqc
        · have e1 : Of.line ⟨cs.reverse, l⟩ (b, ln) = match Of.node 1 l (lineDepth cs l cc) (u :: r) with | .error f => .error f | .ok n => .ok ⟨cc :: cs.reverse, n⟩ := by
            rcases hrest with ⟨q, hq, hqc, _⟩ | ⟨_, e1⟩
            · exact absurd (hall q hq) hqc
            · exact e1
          rw [e1] at k
          -- the depth
          have tail : tSeq (tDrop (tCall (spRoom CN CF) [] E (tCons (tVar 0) (tCons (tVar 7) (tCons (tVar 4) tNil)))))
              (tSeq (tDrop (tMeth CN "add_last" (spAddLast CN) [] E (tVar 0) (tCons (tCall (spNodeText K C CF) [] E (tCons (tVar 2) (tCons (tTup tNil) tNil))) (tCons (tVar 7) tNil))))
                (tDrop (tBM K "list" rAppend (tVar 1) (tCons (tVar 5) tNil)))) { nx := fun _ H' => Q .non H', rt := Q }
              [some (.ref n), some (.ref cl), some (.ref ua), some (.int b), some (.int ((b + cc : Nat) : Int)), some (.int cc), some (.int (lastLess cs cc : Nat)), some (.int (lineDepth cs l cc : Nat))] H1 := by
            refine ⟨_, rfl, _, rfl, _, rfl, n, t, d, ts, l, _, _, rfl, nn.same s1, ?_⟩
            have fst : ((b + cc : Nat) : Int) = ((u.1 : Nat) : Int) := by rw [ho]
            by_cases h1 : 64 ≤ l.length
            · rw [if_pos h1]
              rw [node_many h1] at k
              rw [fst]
              exact FaultE.same k s1
            · rw [if_neg h1]
              by_cases h2 : 16 ≤ lineDepth cs l cc
              · rw [if_pos (by omega)]
                rw [node_deep h1 h2] at k
                rw [fst]
                exact FaultE.same k s1
              · rw [if_neg (by omega)]
                obtain ⟨dxn, eob⟩ := nn.ob
                refine ⟨_, rfl, n, dxn, _, rfl, s1 _ _ eob, nf_no (by decide +kernel) (by decide +kernel), _, rfl, (by show 0 ≤ sizeLine; decide), fun p2 hp2 => ?_⟩
                have s2 : Same H1 (L2.upd H1 p2 (.tup [])) := same_new hp2
                refine ⟨ua, p2, _, [], rfl, (hu.same s1).same s2, SqT.of upd_same, (by rw [e0]; exact fun z => nomatch z), (by rw [List.length_map]; exact hz), ?_⟩
                rcases node_room Brk.laid hU h1 h2 with ⟨ff', n1, n2⟩ | ⟨tx, n1, n2, n3⟩
                · rw [e0, n2]
                  rw [n1] at k
                  exact FaultE.same k (s1.trans s2)
                · rw [e0, n2]
                  rw [n1] at k
                  intro H3 m s3 nm em
                  rw [intsV_bytes] at em
                  have S3 : Same H H3 := (s1.trans s2).trans s3
                  have nm0 : H m = none := (s1.trans s2).free nm
                  have nn3 := nn.same S3
                  have mt : m ≠ t := fun z => by rw [z, nn.tx] at nm0; cases nm0
                  have md : m ≠ d := fun z => by rw [z, nn.dp] at nm0; cases nm0
                  have mcl : m ≠ cl := fun z => by rw [z, hcl] at nm0; cases nm0
                  refine ⟨_, rfl, n, t, d, m, ts, l, ⟨lineDepth cs l cc, tx⟩, rfl, nn3, (by have := g.len; omega), ?_⟩
                  have ntc2 : ∀ x ∈ ts ++ [m], x ≠ cl := fun x hx => by
                    rcases List.mem_append.mp hx with z | z
                    · exact ntc x z
                    · rw [List.mem_singleton.mp z]; exact mcl
                  have nn4 := nn3.push (x := ⟨lineDepth cs l cc, tx⟩) em mt md
                  have hcl4 : pushed H3 t d m ts l ⟨lineDepth cs l cc, tx⟩ cl = some (.lst (natV cs)) := by rw [pushed_ne nct ncd]; exact S3 _ _ hcl
                  refine ⟨_, rfl, .inl ⟨rfl, _, SqL.of hcl4⟩, _, rfl, cl, _, _, rfl, rfl, hcl4, (by rw [natV_len]; exact small1000' (by have := D.len; have := g.len; omega)), ?_⟩
                  refine k _ (ts ++ [m]) (fun x o z z1 z2 z3 => ?_) ?_ (fun x hx => ntc2 x hx) (fun x hx => (List.mem_append.mp hx).imp (fun z => z) fun z => by rw [List.mem_singleton.mp z]; exact nm0) ?_
                  · rw [upd_ne z3, pushed_ne z1 z2]
                    exact S3 _ _ z
                  · obtain ⟨dxo, oo⟩ := nn4.ob
                    refine ⟨⟨dxo, ?_⟩, ?_, ?_, nn4.td, Paired.mem nn4.pr fun x y hx z => ⟨?_, z.2⟩⟩
                    · rw [upd_ne (ne_of oo hcl4 (by intro z; cases z))]; exact oo
                    · rw [upd_ne (Ne.symm nct)]; exact nn4.tx
                    · rw [upd_ne (Ne.symm ncd)]; exact nn4.dp
                    · rw [upd_ne (ntc2 x hx)]; exact z.1
                  · rw [upd_same]
                    show some (HO.lst (natV cs ++ [V.int (cc : Int)])) = some (HO.lst (natV (cc :: cs.reverse).reverse))
                    rw [List.reverse_cons, List.reverse_reverse]
                    unfold natV
                    rw [List.map_append]
                    rfl
          obtain ⟨dxn, eob⟩ := nn.ob
          have lp : lastLess cs cc ≤ l.length := by have := lastLess_le cs cc; have := D.len; omega
          have eb : belowD l (lastLess cs cc) = lineDepth cs l cc := by
            unfold belowD lineDepth
            cases lastLess cs cc <;> rfl
          refine ⟨_, rfl, n, dxn, _, rfl, s1 _ _ eob, nf_no (by decide +kernel) (by decide +kernel), _, rfl, n, t, d, ts, l, lastLess cs cc, rfl, nn.same s1, lp, ?_⟩
          rw [eb]
          exact tail
end
end My
set_option Elab.async false
set_option linter.all false
set_option maxRecDepth 100000
set_option maxHeartbeats 4000000
namespace My
open PySem PySem.Spec PyProof.Rows L2
open Of (Bytes Outline Node)
structure NewAt (CN : Addr) (H H' : Hp) (n : Addr) (l : Outline) : Prop where
  ex : ∃ t d ts, NodesAt CN H' n t d ts l ∧ H n = none ∧ H t = none ∧ H d = none ∧ ∀ b ∈ ts, H b = none
def readSays (CN CF : Addr) (H : Hp) (Q : VK) (E : XK) (r : Except Of.Fault Outline) : Prop := match r with
  | .error f => FaultE CF f.code f.at_ H E
  | .ok l => ∀ H' n, Same H H' → NewAt CN H H' n l → Q (.ref n) H'
def spRead (K : PySem.W.Frag) (CN CF : Addr) (rd : Bytes → Except Of.Fault Outline) : Sp := fun vs H Q E => ∃ (a : Addr) (bs : Bytes), vs = [.ref a] ∧ SqL K H a (bV bs) ∧ bs.length ≤ 2048 ∧ readSays CN CF H Q E (rd bs)
theorem lineUs_len (o : Nat) (ln : Bytes) : (lineUs o ln).length ≤ ln.length := by
  unfold lineUs Of.dropEnd
  rw [List.length_reverse]
  have h1 := (List.dropWhile_sublist (fun u : Nat × Bytes => (fun b : Bytes => b == [32]) u.2) (l := (Of.units (o + Of.column (Of.noReturn ln)) ((Of.noReturn ln).drop (Of.column (Of.noReturn ln)))).reverse)).length_le
  rw [List.length_reverse] at h1
  have h2 := units_len (o + Of.column (Of.noReturn ln)) ((Of.noReturn ln).drop (Of.column (Of.noReturn ln)))
  rw [List.length_drop] at h2
  have h3 : (Of.noReturn ln).length ≤ ln.length := by
    unfold Of.noReturn
    split
    · rw [List.length_dropLast]; omega
    · exact Nat.le_refl _
  omega
section
variable {P : Program} {w : World} {K : PySem.W.Frag} {mg : Str → Option Value} {base : Heap}
theorem scReadLayout : FnScope ["text", "nodes", "columns", "start", "end"] ["text"] (defScope sReadLayout) := ⟨rfl, rfl, rfl, by decide +kernel, rfl, by decide +kernel, by decide +kernel⟩
theorem ok_readlayout {f CN C CF fN fE fT fU : Addr} {fd fdN fdE fdT fdU : FuncData} (F : Fun K "read_layout" "read_layout" sReadLayout f fd) (T : TN K mg CN) (B : Blt mg) (M : Mk K CN fN)
    (GN : FnOk P w K mg base CX0 1 fN fdN ["self"] (spNodes CN)) (bN : Binds K fdN ["self"] [])
    (GE : FnOk P w K mg base CX0 1 fE fdE ["text", "start"] (spLineEnd K)) (bE : Binds K fdE ["text", "start"] []) (mE : mg "line_end" = some (.ref fE)) (kE : PySem.W.keepIn K (.ref fE) = true)
    (GT : FnOk P w K mg base (CX1 P w) 5 fT fdT ["nodes", "columns", "units", "start"] (spTakeLine CN C CF)) (bT : Binds K fdT ["nodes", "columns", "units", "start"] []) (mT : mg "take_line" = some (.ref fT)) (kT : PySem.W.keepIn K (.ref fT) = true)
    (GU : FnOk P w K mg base CX0 5 fU fdU ["text", "start", "end"] (spLineUnits K C)) (bU : Binds K fdU ["text", "start", "end"] []) (mU : mg "line_units" = some (.ref fU)) (kU : PySem.W.keepIn K (.ref fU) = true) :
    FnOk P w K mg base (CX1 P w) 6 f fd ["text"] (spRead K CN CF Of.read0) := by
  refine F.okX scReadLayout (fun vs H Q E h => ?_) (fun cdv A outer s H vs Q E hr h => ?_)
  · obtain ⟨a, bs, rfl, _⟩ := h
    rfl
  · obtain ⟨a, bs, rfl, ha, hz, k⟩ := h
    have nd := scReadLayout.nd
    have ps := (throws_def (P := P) (w := w) (K := K) (mg := mg) (base := base) (N := ["text", "nodes", "columns", "start", "end"]) (qual := "read_layout") (scope := defScope sReadLayout) (f := f) (cd := cdv) (A := A) (outer := outer) (s0 := s) (H0 := H) (E := E)).passes indef_cx
    refine ⟨_, pss_cons (ps_set (i := 1) nd rfl (Or.inl rfl) (pe_make0 M GN.lift (hr.mono (by decide)) rfl T.mgC bN .nil ps))
      (pss_cons (ps_set (i := 2) nd rfl (Or.inl rfl) (pe_lst pa_nil))
      (pss_cons (ps_set (i := 3) nd rfl (Or.inl rfl) pe_int)
      (pss_cons (ps_while passes_own (pt_cmpR op_le (pv 3) (pe_callB call_len_seq (by rfl) B.len PySem.boot_len (pa_cons (pv 0) pa_nil)) (nomark _))
        (pss_cons (ps_set (i := 4) nd rfl (Or.inl rfl) (pe_call GE.lift (hr.mono (by decide)) rfl mE kE bE .nil ps (pa_cons (pv 0) (pa_cons (pv 3) pa_nil))))
        (pss_cons (ps_expr (pe_call GT hr rfl mT kT bT .nil ps (pa_cons (pv 1) (pa_cons (pv 2) (pa_cons (pe_call GU.lift hr rfl mU kU bU .nil ps (pa_cons (pv 0) (pa_cons (pv 3) (pa_cons (pv 4) pa_nil)))) (pa_cons (pv 3) pa_nil))))))
        (pss_one (ps_set (i := 3) nd rfl (Or.inl rfl) (pe_op op_add (pv 4) pe_int))))))
      (pss_one (ps_ret (pv 1)))))), ?_⟩
    refine fun n dx nn0 nd0 ne0 => ⟨n, dx, rfl, upd_same, fun H1 t d N1 t0 d0 fr1 => ⟨rfl, Nat.zero_le _, fun cl hcl => ?_⟩⟩
    -- what has come is new
    have ht : H t = none := by
      cases q : H t with
      | none => rfl
      | some o =>
        rw [upd_ne (ne_of_none q nn0), upd_ne (ne_of_none q nd0), q] at t0
        cases t0
    have hd : H d = none := by
      cases q : H d with
      | none => rfl
      | some o =>
        rw [upd_ne (ne_of_none q nn0), upd_ne (ne_of_none q nd0), q] at d0
        cases d0
    have s1 : Same H H1 := fun b o e => fr1 b o (by rw [upd_ne (ne_of_none e nn0), upd_ne (ne_of_none e nd0)]; exact e) (ne_of_none e nn0)
    have nclt : cl ≠ t := fun z => by rw [z, N1.tx] at hcl; cases hcl
    have ncld : cl ≠ d := fun z => by rw [z, N1.dp] at hcl; cases hcl
    have hcl0 : H cl = none := s1.free hcl
    have s2 : Same H1 (L2.upd H1 cl (.lst [])) := same_new hcl
    refine ⟨fun m σ H' => ∃ (st : Nat) (cs : List Nat) (l : Outline) (ts : List Addr) (v : Option V), m = bs.length + 1 - st ∧ σ = [some (.ref a), some (.ref n), some (.ref cl), some (.int st), v] ∧ Same H H' ∧ NodesAt CN H' n t d ts l ∧ H' cl = some (.lst (natV cs)) ∧ (∀ b ∈ ts, b ≠ cl ∧ H b = none) ∧
      DepthOk cs l ∧ Good l ∧ Of.linesRead ⟨cs.reverse, l⟩ (restLines bs st) = Of.read0 bs, ⟨_, 0, [], [], [], none, rfl, rfl, s1.trans s2, N1.same s2, upd_same, (fun _ z => nomatch z), DepthOk.nil, Good.nil, ?_⟩, ?_⟩
    · unfold restLines
      rw [if_pos (Nat.zero_le _)]
      rfl
    rintro m σ H2 ⟨st, cs, l, ts, v, rfl, rfl, S2, N2, hcl2, hts, D, g, e1⟩
    refine ⟨_, rfl, _, rfl, a, _, rfl, .inl (S2.seq ha), _, _, rfl, rfl, _, rfl, ?_⟩
    rw [bV_len]
    by_cases h5 : st ≤ bs.length
    · rw [decide_eq_true (show (st : Int) ≤ (bs.length : Int) by omega)]
      have le := lineEnd_le h5
      have lb : st ≤ lineEnd bs st := Nat.le_add_right _ _
      rw [rest_step h5] at e1
      refine iteT ⟨fun σ' H' => ∃ (cs : List Nat) (l : Outline) (ts : List Addr) (v : Option V), σ' = [some (.ref a), some (.ref n), some (.ref cl), some (.int (lineEnd bs st + 1 : Nat)), v] ∧ Same H H' ∧ NodesAt CN H' n t d ts l ∧ H' cl = some (.lst (natV cs)) ∧ (∀ b ∈ ts, b ≠ cl ∧ H b = none) ∧
          DepthOk cs l ∧ Good l ∧ Of.linesRead ⟨cs.reverse, l⟩ (restLines bs (lineEnd bs st + 1)) = Of.read0 bs,
        fun σ' H' ⟨cs', l', ts', v', z1, z2, z3, z4, z5, z6, z7, z8⟩ => ⟨bs.length + 1 - (lineEnd bs st + 1), by omega, lineEnd bs st + 1, cs', l', ts', v', rfl, z1, z2, z3, z4, z5, z6, z7, z8⟩, ?_⟩
      refine ⟨_, rfl, _, rfl, a, bs, st, rfl, S2.seq ha, h5, ?_⟩
      refine ⟨_, rfl, _, rfl, _, rfl, _, rfl, _, rfl, a, bs, st, lineEnd bs st, rfl, S2.seq ha, lb, le, hz, fun H3 ua s3 nua hua => ?_⟩
      refine ⟨_, rfl, n, t, d, cl, ua, ts, l, cs, st, sl bs (lineEnd bs st) st, rfl, N2.same s3, s3 _ _ hcl2, nclt, ncld, fun b hb => (hts b hb).1, D, g, hua, ?_, ?_⟩
      · have h6 := lineUs_len st (sl bs (lineEnd bs st) st)
        have h7 := sl_len bs (lineEnd bs st) st
        omega
      · have hl : Of.linesRead ⟨cs.reverse, l⟩ ((st, sl bs (lineEnd bs st) st) :: restLines bs (lineEnd bs st + 1)) = match Of.line ⟨cs.reverse, l⟩ (st, sl bs (lineEnd bs st) st) with | .error f => .error f | .ok t => Of.linesRead t (restLines bs (lineEnd bs st + 1)) := rfl
        rw [hl] at e1
        cases hx : Of.line ⟨cs.reverse, l⟩ (st, sl bs (lineEnd bs st) st) with
        | error ff' =>
          rw [hx] at e1
          unfold readSays at k
          rw [← e1] at k
          exact FaultE.same k (S2.trans s3)
        | ok s' =>
          rw [hx] at e1
          obtain ⟨cs', ec, D', g'⟩ := line_inv D g hx
          obtain ⟨sc, sn⟩ := s'
          dsimp only at ec D' g' e1
          subst ec
          intro H4 ts' fr N4 h41 h42 hcl4
          rw [List.reverse_reverse] at hcl4
          refine ⟨_, rfl, _, _, rfl, rfl, cs', sn, ts', some (.int (lineEnd bs st : Nat)), ?_, fun x o z => ?_, N4, hcl4, fun b hb => ⟨h41 b hb, ?_⟩, D', g', e1⟩
          · show [some (V.ref a), some (V.ref n), some (V.ref cl), some (V.int ((lineEnd bs st : Nat) + 1 : Int)), some (V.int (lineEnd bs st : Nat))] = _
            rw [show ((lineEnd bs st : Nat) : Int) + 1 = ((lineEnd bs st + 1 : Nat) : Int) by omega]
          · exact fr x o (s3 _ _ (S2 _ _ z)) (ne_of_none z ht) (ne_of_none z hd) (ne_of_none z hcl0)
          · rcases h42 b hb with z | z
            · exact (hts b z).2
            · exact (S2.trans s3).free z
    · rw [decide_eq_false (show ¬ (st : Int) ≤ (bs.length : Int) by omega)]
      refine iteF ⟨_, rfl, ?_⟩
      unfold restLines at e1
      rw [if_neg h5] at e1
      unfold readSays at k
      rw [← e1] at k
      exact k H2 n S2 ⟨t, d, ts, N2, nn0, ht, hd, fun b hb => (hts b hb).2⟩
end
end My
set_option Elab.async false
set_option linter.all false
set_option maxRecDepth 100000
set_option maxHeartbeats 4000000
namespace My
open PySem PySem.Spec PyProof.Rows L2
open Of (Bytes Outline Node)
abbrev sReadBraces : Stmt := top 41
abbrev sTakePiece : Stmt := top 42
abbrev sTakeMark : Stmt := top 43
def spTakePiece (CN C CF : Addr) : Sp := fun vs H Q E => ∃ (n t d pc : Addr) (ts : List Addr) (l : Outline) (dep : Nat) (p : List (Nat × Bytes)), vs = [.ref n, .int dep, .ref pc] ∧ NodesAt CN H n t d ts l ∧ Good l ∧ UnitsAt C H pc (p.map uOf) ∧ (∀ u ∈ p, isU u.2) ∧ p.length ≤ 2048 ∧
  match Of.node 10 l dep (core p) with
  | .error f => FaultE CF f.code f.at_ H E
  | .ok l' => ∀ H' ts', (∀ x o, H x = some o → x ≠ t → x ≠ d → H' x = some o) → NodesAt CN H' n t d ts' l' → (∀ b ∈ ts', b ∈ ts ∨ H b = none) → Q (.bl (!(core p).isEmpty)) H'
def spTakeMark (C CF : Addr) : Sp := fun vs H Q E => ∃ (op ua : Addr) (os : List Nat) (u : U) (o : Nat) (g : Bool), vs = [.ref op, .ref ua, .bl g] ∧ H op = some (.lst (natV os)) ∧ UnitAt C H ua u ∧ u.place = (o : Int) ∧ os.length ≤ 2048 ∧
  if u.byte = 123 then (if g = true then Q .non (L2.upd H op (.lst (natV (os ++ [o])))) else FaultE CF 7 o H E)
  else if u.byte = 125 then (if os = [] then FaultE CF 8 o H E else Q .non (L2.upd H op (.lst (natV os.dropLast))))
  else Q .non H
theorem natV_snoc (cs : List Nat) (c : Nat) : natV (cs ++ [c]) = natV cs ++ [.int (c : Int)] := by
  unfold natV
  rw [List.map_append]
  rfl
section
variable {P : Program} {w : World} {K : PySem.W.Frag} {mg : Str → Option Value} {base : Heap}
theorem scTakePiece : FnScope ["nodes", "depth", "piece", "units"] ["nodes", "depth", "piece"] (defScope sTakePiece) := ⟨rfl, rfl, rfl, by decide +kernel, rfl, by decide +kernel, by decide +kernel⟩
theorem ok_takepiece {f CN C CF fT fR fA fN : Addr} {fd fdT fdR fdA fdN : FuncData} (F : Fun K "take_piece" "take_piece" sTakePiece f fd) (T : TN K mg CN) (TU' : TU K mg C) (B : Blt mg) (c : Csts mg)
    (GT : FnOk P w K mg base CX0 2 fT fdT ["units", "blanks"] (spTrim K C)) (bT : Binds K fdT ["units", "blanks"] []) (mT : mg "trimmed" = some (.ref fT)) (kT : PySem.W.keepIn K (.ref fT) = true)
    (GR : FnOk P w K mg base (CX1 P w) 3 fR fdR ["nodes", "depth", "place"] (spRoom CN CF)) (bR : Binds K fdR ["nodes", "depth", "place"] []) (mR : mg "check_room" = some (.ref fR)) (kR : PySem.W.keepIn K (.ref fR) = true)
    (GA : FnOk P w K mg base CX0 2 fA fdA ["self", "text", "depth"] (spAddLast CN)) (bA : Binds K fdA ["self", "text", "depth"] []) (mA : Meth K CN "add_last" fA)
    (GN : FnOk P w K mg base (CX1 P w) 4 fN fdN ["units", "line_ends"] (spNodeText K C CF)) (bN : Binds K fdN ["units", "line_ends"] []) (mN : mg "node_text" = some (.ref fN)) (kN : PySem.W.keepIn K (.ref fN) = true) :
    FnOk P w K mg base (CX1 P w) 5 f fd ["nodes", "depth", "piece"] (spTakePiece CN C CF) := by
  refine F.okX scTakePiece (fun vs H Q E h => ?_) (fun cdv A outer s H vs Q E hr h => ?_)
  · obtain ⟨n, t, d, pc, ts, l, dep, p, rfl, _⟩ := h
    rfl
  · obtain ⟨n, t, d, pc, ts, l, dep, p, rfl, nn, g, hu, hU, hz, k⟩ := h
    have nd := scTakePiece.nd
    have ps := (throws_def (P := P) (w := w) (K := K) (mg := mg) (base := base) (N := ["nodes", "depth", "piece", "units"]) (qual := "take_piece") (scope := defScope sTakePiece) (f := f) (cd := cdv) (A := A) (outer := outer) (s0 := s) (H0 := H) (E := E)).passes indef_cx
    refine ⟨_, pss_cons (ps_set (i := 3) nd rfl (Or.inl rfl) (pe_call GT.lift (hr.mono (by decide)) rfl mT kT bT .nil ps (pa_cons (pv 2) (pa_cons (pe_tup (pa_cons (pe_cst c.space) (pa_cons (pe_cst c.feed) (pa_cons (pe_cst c.ret) pa_nil)))) pa_nil))))
      (pss_cons (ps_if (pt_cmpR op_eq (pe_callB call_len_seq (by rfl) B.len PySem.boot_len (pa_cons (pv 3) pa_nil)) pe_int (nomark _)) (pss_one (ps_ret pe_bl)) pss_nil)
      (pss_cons (ps_expr (pe_call GR (hr.mono (by decide)) rfl mR kR bR .nil ps (pa_cons (pv 0) (pa_cons (pv 1) (pa_cons (pe_fld (pe_ix ix_list (pv 3) pe_int (fun _ _ => rfl)) rfl) pa_nil)))))
      (pss_cons (ps_expr (pe_meth (pv 0) T.cl mA GA.lift (hr.mono (by decide)) bA .nil ps (pa_cons (pe_call GN hr rfl mN kN bN .nil ps (pa_cons (pv 3) (pa_cons (pe_tup (pa_cons (pe_cst c.feed) (pa_cons (pe_cst c.ret) pa_nil))) pa_nil))) (pa_cons (pv 1) pa_nil))))
      (pss_one (ps_ret pe_bl))))), ?_⟩
    refine ⟨_, rfl, (by show 3 ≤ sizeLine; decide), fun q hq => ⟨pc, q, _, [32, 10, 13], rfl, hu.same (same_new hq), SqT.of upd_same, (by rw [List.length_map]; exact hz), fun H1 ua s1' nua hua => ?_⟩⟩
    have s1 : Same H H1 := (same_new hq).trans s1'
    rw [trim_piece hU] at hua
    have hcU : ∀ v ∈ core p, isU v.2 := fun v hv => hU v (core_mem hv)
    have hcl := core_len p
    obtain ⟨as, el, pu⟩ := id hua
    have lu := Paired.len pu
    rw [List.length_map] at lu
    have lm : (as.map V.ref).length = (core p).length := by rw [List.length_map]; exact lu
    refine ⟨_, rfl, ua, _, rfl, .inl (SqL.of el), rfl, _, rfl, ?_⟩
    rw [lm]
    cases e0 : core p with
    | nil =>
      rw [e0] at k
      rw [decide_eq_true (show V.int ((([] : List (Nat × Bytes)).length : Nat) : Int) = V.int 0 from rfl)]
      exact iteT (k H1 ts (fun x o z _ _ => s1 x o z) (nn.same s1) fun b hb => .inl hb)
    | cons u r =>
      rw [e0] at k hcU
      rw [decide_eq_false (show ¬ V.int (((u :: r).length : Nat) : Int) = V.int 0 from fun z => by have z2 := V.int.inj z; rw [List.length_cons] at z2; omega)]
      have hu0 : ((core p).map uOf)[0]? = some (uOf u) := by rw [e0]; rfl
      obtain ⟨a0, ha0, dx0, ga0⟩ := Paired.get pu hu0
      have hix : atI (as.map V.ref) 0 = some (.ref a0) := at_of (j := 0) rfl (refs_at ha0)
      refine iteF ⟨_, rfl, _, rfl, _, rfl, ua, _, _, _, rfl, rfl, SqL.of el, hix, a0, C, dx0, _, _, rfl, ga0, TU'.cl, TU'.n1, uf_place _, ?_⟩
      rw [uOf_place]
      refine ⟨n, t, d, ts, l, _, _, rfl, nn.same s1, ?_⟩
      by_cases h1 : 64 ≤ l.length
      · rw [if_pos h1]
        rw [node_many h1] at k
        exact FaultE.same k s1
      · rw [if_neg h1]
        by_cases h2 : 16 ≤ dep
        · rw [if_pos (by omega)]
          rw [node_deep h1 h2] at k
          exact FaultE.same k s1
        · rw [if_neg (by omega)]
          obtain ⟨dxn, eob⟩ := nn.ob
          refine ⟨_, rfl, n, dxn, _, rfl, s1 _ _ eob, nf_no (by decide +kernel) (by decide +kernel), _, rfl, (by show 2 ≤ sizeLine; decide), fun p2 hp2 => ?_⟩
          have s2 : Same H1 (L2.upd H1 p2 (.tup [.int 10, .int 13])) := same_new hp2
          refine ⟨ua, p2, _, [10, 13], rfl, hua.same s2, SqT.of upd_same, (by rw [e0]; exact fun z => nomatch z), (by rw [List.length_map]; omega), ?_⟩
          rcases node_room Brk.braces hcU h1 h2 with ⟨ff', n1, n2⟩ | ⟨tx, n1, n2, n3⟩
          · rw [e0, n2]
            rw [n1] at k
            exact FaultE.same k (s1.trans s2)
          · rw [e0, n2]
            rw [n1] at k
            intro H3 m s3 nm em
            rw [intsV_bytes] at em
            have S3 : Same H H3 := (s1.trans s2).trans s3
            have nm0 : H m = none := (s1.trans s2).free nm
            have nn3 := nn.same S3
            have mt : m ≠ t := fun z => by rw [z, nn.tx] at nm0; cases nm0
            have md : m ≠ d := fun z => by rw [z, nn.dp] at nm0; cases nm0
            refine ⟨_, rfl, n, t, d, m, ts, l, ⟨dep, tx⟩, rfl, nn3, (by have := g.len; omega), ?_⟩
            have nn4 := nn3.push (x := ⟨dep, tx⟩) em mt md
            exact k _ (ts ++ [m]) (fun x o z z1 z2 => by rw [pushed_ne z1 z2]; exact S3 _ _ z) nn4 fun x hx => (List.mem_append.mp hx).imp (fun z => z) fun z => by rw [List.mem_singleton.mp z]; exact nm0
theorem scTakeMark : FnScope ["openers", "unit", "gave_node"] ["openers", "unit", "gave_node"] (defScope sTakeMark) := ⟨rfl, rfl, rfl, by decide +kernel, rfl, by decide +kernel, by decide +kernel⟩
theorem ok_takemark {f C CF fI : Addr} {fd fdI : FuncData} (F : Fun K "take_mark" "take_mark" sTakeMark f fd) (T : TU K mg C) (B : Blt mg) (c : Csts mg) (fc : FCsts mg) (R : TF P w K mg base CF fI fdI) : FnOk P w K mg base (CX1 P w) 3 f fd ["openers", "unit", "gave_node"] (spTakeMark C CF) := by
  refine F.okX scTakeMark (fun vs H Q E h => ?_) (fun cdv A outer s H vs Q E hr h => ?_)
  · obtain ⟨op, ua, os, u, o, g, rfl, _⟩ := h
    rfl
  · obtain ⟨op, ua, os, u, o, g, rfl, hop, ⟨dx, gu⟩, epl, hz, k⟩ := h
    refine ⟨_, pss_cons (ps_if (pt_cmpR op_eq (pe_fld (pv 1) rfl) (pe_cst c.opener) (nomark _))
        (pss_cons (ps_if (pt_not (pt_val (pv 2))) (pss_one (ps_raise rfl indef_cx throws_def R.ini hr (by decide) rfl R.mgF R.cls R.kp R.fn R.bi (pa_cons (pe_cst fc.hold) (pa_cons (pe_fld (pv 1) rfl) pa_nil)))) pss_nil)
        (pss_one (ps_expr (pe_bm PySem.F.plainAttrs_list PySem.F.slot_list_append PySem.F.type_list_append mt_append (pv 0) (pa_cons (pe_fld (pv 1) rfl) pa_nil))))) pss_nil)
      (pss_one (ps_if (pt_cmpR op_eq (pe_fld (pv 1) rfl) (pe_cst c.closer) (nomark _))
        (pss_cons (ps_if (pt_cmpR op_eq (pe_callB call_len_seq (by rfl) B.len PySem.boot_len (pa_cons (pv 0) pa_nil)) pe_int (nomark _)) (pss_one (ps_raise rfl indef_cx throws_def R.ini hr (by decide) rfl R.mgF R.cls R.kp R.fn R.bi (pa_cons (pe_cst fc.close) (pa_cons (pe_fld (pv 1) rfl) pa_nil)))) pss_nil)
        (pss_one (ps_expr (pe_bm0 PySem.F.plainAttrs_list PySem.F.slot_list_pop PySem.F.type_list_pop mt_pop (pv 0))))) pss_nil)), ?_⟩
    refine ⟨_, rfl, ua, C, dx, _, _, rfl, gu, T.cl, T.n2, uf_byte u, rfl, _, rfl, ?_⟩
    by_cases h1 : u.byte = 123
    · rw [if_pos h1] at k
      rw [decide_eq_true (show V.int u.byte = V.int 123 by rw [h1])]
      refine iteT ⟨_, rfl, _, rfl, ?_⟩
      cases g with
      | false =>
        rw [if_neg (by decide)] at k
        refine iteT ⟨_, rfl, ua, C, dx, _, _, rfl, gu, T.cl, T.n1, uf_place u, rfl, ?_⟩
        rw [epl]
        exact raised k
      | true =>
        rw [if_pos rfl] at k
        have gu2 : L2.upd H op (.lst (natV os ++ [.int u.place])) ua = some (.ins C dx (uf u)) := by rw [upd_ne (ne_of gu hop (by intro z; cases z))]; exact gu
        refine iteF ⟨_, rfl, .inl ⟨rfl, _, SqL.of hop⟩, _, rfl, ua, C, dx, _, _, rfl, gu, T.cl, T.n1, uf_place u, op, _, _, rfl, rfl, hop, (by rw [natV_len]; exact small1000' hz), ?_⟩
        refine ⟨_, rfl, ua, C, dx, _, _, rfl, gu2, T.cl, T.n2, uf_byte u, rfl, _, rfl, ?_⟩
        rw [decide_eq_false (show ¬ V.int u.byte = V.int 125 from fun z => by rw [h1] at z; exact absurd (V.int.inj z) (by decide))]
        refine iteF ?_
        rw [natV_snoc, ← epl] at k
        exact k
    · rw [if_neg h1] at k
      rw [decide_eq_false (show ¬ V.int u.byte = V.int 123 from fun z => h1 (V.int.inj z))]
      refine iteF ⟨_, rfl, ua, C, dx, _, _, rfl, gu, T.cl, T.n2, uf_byte u, rfl, _, rfl, ?_⟩
      by_cases h2 : u.byte = 125
      · rw [if_pos h2] at k
        rw [decide_eq_true (show V.int u.byte = V.int 125 by rw [h2])]
        refine iteT ⟨_, rfl, op, _, rfl, .inl (SqL.of hop), rfl, _, rfl, ?_⟩
        rw [natV_len]
        by_cases h3 : os = []
        · rw [if_pos h3] at k
          rw [decide_eq_true (show V.int ((os.length : Nat) : Int) = V.int 0 by rw [h3]; rfl)]
          refine iteT ⟨_, rfl, ua, C, dx, _, _, rfl, gu, T.cl, T.n1, uf_place u, rfl, ?_⟩
          rw [epl]
          exact raised k
        · rw [if_neg h3] at k
          have h4 : 0 < os.length := List.length_pos_iff.mpr h3
          rw [decide_eq_false (show ¬ V.int ((os.length : Nat) : Int) = V.int 0 from fun z => by have z2 := V.int.inj z; omega)]
          have hlast : os[os.length - 1]? = some os[os.length - 1] := List.getElem?_eq_getElem (by omega)
          refine iteF ⟨_, rfl, .inl ⟨rfl, _, SqL.of hop⟩, op, _, _, rfl, rfl, hop, (by rw [natV_len]; exact natV_at hlast), ?_⟩
          have e5 : (natV os).dropLast = natV os.dropLast := by
            unfold natV
            rw [List.map_dropLast]
          rw [e5]
          exact k
      · rw [if_neg h2] at k
        rw [decide_eq_false (show ¬ V.int u.byte = V.int 125 from fun z => h2 (V.int.inj z))]
        exact iteF k
end
end My
set_option Elab.async false
set_option linter.all false
set_option maxRecDepth 100000
set_option maxHeartbeats 4000000
namespace My
open PySem PySem.Spec PyProof.Rows L2
open Of (Bytes Outline Node)
theorem NodesAt.frame {C : Addr} {H H' : Hp} {a t d : Addr} {ts : List Addr} {l : Outline} (n : NodesAt C H a t d ts l) (h1 : ∀ o, H a = some o → H' a = some o) (h2 : ∀ o, H t = some o → H' t = some o) (h3 : ∀ o, H d = some o → H' d = some o) (h4 : ∀ b ∈ ts, ∀ o, H b = some o → H' b = some o) : NodesAt C H' a t d ts l :=
  ⟨let ⟨dx, e⟩ := n.ob; ⟨dx, h1 _ e⟩, h2 _ n.tx, h3 _ n.dp, n.td, Paired.mem n.pr fun b _ hb q => ⟨h4 b hb _ q.1, q.2⟩⟩
theorem UnitsAt.frame {C : Addr} {H H' : Hp} {pc : Addr} {us : List U} (h : UnitsAt C H pc us) (h1 : ∀ o, H pc = some o → H' pc = some o) (h2 : ∀ b dx fs, H b = some (.ins C dx fs) → H' b = some (.ins C dx fs)) : UnitsAt C H' pc us := by
  obtain ⟨as, e, p⟩ := h
  exact ⟨as, h1 _ e, L2.Paired.mapP p fun a u ⟨dx, q⟩ => ⟨dx, h2 _ _ _ q⟩⟩
structure BI (CN C : Addr) (H H3 H' : Hp) (n t d op pc0 pc : Addr) (ts : List Addr) (l : Outline) (os : List Nat) (p : List (Nat × Bytes)) : Prop where
  nn : NodesAt CN H' n t d ts l
  g : Good l
  ho : H' op = some (.lst (natV os))
  hp : UnitsAt C H' pc (p.map uOf)
  fr : ∀ x o, H3 x = some o → x ≠ t → x ≠ d → x ≠ op → x ≠ pc0 → H' x = some o
  sm : Same H H'
  ot : op ≠ t
  od : op ≠ d
  pt : pc ≠ t
  pd : pc ≠ d
  po : pc ≠ op
  pn : pc = pc0 ∨ H3 pc = none
  pH : H pc = none
  tb : ∀ b ∈ ts, b ≠ op ∧ b ≠ pc ∧ H b = none
  ht : H t = none
  hd : H d = none
  hop : H op = none
  kt : ∀ x, H' x = none → H3 x = none
section
variable {CN C : Addr} {H H3 H' : Hp} {n t d op pc0 pc : Addr} {ts : List Addr} {l : Outline} {os : List Nat} {p : List (Nat × Bytes)}
theorem upd_none {H : Hp} {a x : Addr} {o : HO} (h : L2.upd H a o x = none) : H x = none := by
  by_cases e : x = a
  · rw [e, upd_same] at h; cases h
  · rw [upd_ne e] at h; exact h
theorem BI.same {H'' : Hp} (b : BI CN C H H3 H' n t d op pc0 pc ts l os p) (s : Same H' H'') : BI CN C H H3 H'' n t d op pc0 pc ts l os p :=
  ⟨b.nn.same s, b.g, s _ _ b.ho, b.hp.same s, fun x o z z1 z2 z3 z4 => s _ _ (b.fr x o z z1 z2 z3 z4), b.sm.trans s, b.ot, b.od, b.pt, b.pd, b.po, b.pn, b.pH, b.tb, b.ht, b.hd, b.hop, fun x z => b.kt x (s.free z)⟩
theorem BI.append {au : Addr} {u : Nat × Bytes} {as : List Addr} (b : BI CN C H H3 H' n t d op pc0 pc ts l os p) (e : H' pc = some (.lst (as.map V.ref))) (pu : Paired (UnitAt C H') as (p.map uOf)) (hu : UnitAt C H' au (uOf u)) :
    BI CN C H H3 (L2.upd H' pc (.lst (as.map V.ref ++ [.ref au]))) n t d op pc0 pc ts l os (p ++ [u]) := by
  have q := UnitsAt.push e pu hu
  obtain ⟨dxn, en⟩ := b.nn.ob
  refine ⟨b.nn.frame (fun o z => ?_) (fun o z => ?_) (fun o z => ?_) (fun x hx o z => ?_), b.g, ?_, ?_, fun x o z z1 z2 z3 z4 => ?_, same_upd b.sm b.pH, b.ot, b.od, b.pt, b.pd, b.po, b.pn, b.pH, b.tb, b.ht, b.hd, b.hop, fun x z => b.kt x (upd_none z)⟩
  · rw [upd_ne (ne_of en e (by intro y; cases y))]; exact z
  · rw [upd_ne (Ne.symm b.pt)]; exact z
  · rw [upd_ne (Ne.symm b.pd)]; exact z
  · rw [upd_ne (b.tb x hx).2.1]; exact z
  · rw [upd_ne (Ne.symm b.po)]; exact b.ho
  · rw [List.map_append]
    exact q
  · rw [upd_ne]
    · exact b.fr x o z z1 z2 z3 z4
    · intro y
      rcases b.pn with w | w
      · exact z4 (y.trans w)
      · rw [y, w] at z; cases z
theorem BI.taken {H'' : Hp} {ts' : List Addr} {l' : Outline} (b : BI CN C H H3 H' n t d op pc0 pc ts l os p) (fr : ∀ x o, H' x = some o → x ≠ t → x ≠ d → H'' x = some o) (nn : NodesAt CN H'' n t d ts' l') (g : Good l') (h : ∀ x ∈ ts', x ∈ ts ∨ H' x = none) :
    BI CN C H H3 H'' n t d op pc0 pc ts' l' os p := by
  have e := b.hp
  obtain ⟨as, ep, _⟩ := id e
  refine ⟨nn, g, fr _ _ b.ho b.ot b.od, e.frame (fun o z => fr _ _ z b.pt b.pd) (fun x dx fs z => fr _ _ z (ne_of z b.nn.tx (by intro y; cases y)) (ne_of z b.nn.dp (by intro y; cases y))), fun x o z z1 z2 z3 z4 => fr _ _ (b.fr x o z z1 z2 z3 z4) z1 z2,
    fun x o z => fr _ _ (b.sm _ _ z) (ne_of_none z b.ht) (ne_of_none z b.hd), b.ot, b.od, b.pt, b.pd, b.po, b.pn, b.pH, fun x hx => ?_, b.ht, b.hd, b.hop, fun x z => b.kt x ?_⟩
  rotate_left
  · cases q : H' x with
    | none => rfl
    | some o =>
      by_cases h1 : x = t
      · rw [h1, nn.tx] at z; cases z
      · by_cases h2 : x = d
        · rw [h2, nn.dp] at z; cases z
        · rw [fr x o q h1 h2] at z; cases z
  rcases h x hx with z | z
  · exact b.tb x z
  · exact ⟨fun y => (by rw [y, b.ho] at z; cases z), fun y => (by rw [y, ep] at z; cases z), b.sm.free z⟩
theorem BI.mark {os' : List Nat} (b : BI CN C H H3 H' n t d op pc0 pc ts l os p) : BI CN C H H3 (L2.upd H' op (.lst (natV os'))) n t d op pc0 pc ts l os' p := by
  obtain ⟨dxn, en⟩ := b.nn.ob
  refine ⟨b.nn.frame (fun o z => ?_) (fun o z => ?_) (fun o z => ?_) (fun x hx o z => ?_), b.g, upd_same, b.hp.frame (fun o z => ?_) (fun x dx fs z => ?_), fun x o z z1 z2 z3 z4 => ?_, same_upd b.sm b.hop, b.ot, b.od, b.pt, b.pd, b.po, b.pn, b.pH, b.tb, b.ht, b.hd, b.hop, fun x z => b.kt x (upd_none z)⟩
  · rw [upd_ne (ne_of en b.ho (by intro y; cases y))]; exact z
  · rw [upd_ne (Ne.symm b.ot)]; exact z
  · rw [upd_ne (Ne.symm b.od)]; exact z
  · rw [upd_ne (b.tb x hx).1]; exact z
  · rw [upd_ne b.po]; exact z
  · rw [upd_ne (ne_of z b.ho (by intro y; cases y))]; exact z
  · rw [upd_ne z3]; exact b.fr x o z z1 z2 z3 z4
theorem BI.fresh {pc' : Addr} (b : BI CN C H H3 H' n t d op pc0 pc ts l os p) (h : H' pc' = none) : BI CN C H H3 (L2.upd H' pc' (.lst [])) n t d op pc0 pc' ts l os [] := by
  have s : Same H' (L2.upd H' pc' (.lst [])) := same_new h
  have b2 := b.same s
  refine ⟨b2.nn, b.g, b2.ho, UnitsAt.new C H' pc', b2.fr, b2.sm, b.ot, b.od, fun y => ?_, fun y => ?_, fun y => ?_, .inr (b.kt _ h), b.sm.free h, fun x hx => ⟨(b.tb x hx).1, fun y => ?_, (b.tb x hx).2.2⟩, b.ht, b.hd, b.hop, fun x z => b.kt x (upd_none z)⟩
  · rw [y, b.nn.tx] at h; cases h
  · rw [y, b.nn.dp] at h; cases h
  · rw [y, b.ho] at h; cases h
  · obtain ⟨i, hi, ei⟩ := List.mem_iff_getElem.mp hx
    have lt : i < l.length := by rw [← Paired.len b.nn.pr]; exact hi
    obtain ⟨x', hx', q, _⟩ := Paired.get b.nn.pr (List.getElem?_eq_getElem lt)
    rw [List.getElem?_eq_getElem hi, ei] at hx'
    cases hx'
    rw [y, h] at q; cases q
end
section
variable {P : Program} {w : World} {K : PySem.W.Frag} {mg : Str → Option Value} {base : Heap}
theorem scReadBraces : FnScope ["text", "nodes", "openers", "piece", "unit", "gave_node"] ["text"] (defScope sReadBraces) := ⟨rfl, rfl, rfl, by decide +kernel, rfl, by decide +kernel, by decide +kernel⟩
theorem ok_readbraces {f CN C CF fI fN fU fP fT fM : Addr} {fd fdI fdN fdU fdP fdT fdM : FuncData} (F : Fun K "read_braces" "read_braces" sReadBraces f fd) (T : TN K mg CN) (B : Blt mg) (c : Csts mg) (fc : FCsts mg) (M : Mk K CN fN) (R : TF P w K mg base CF fI fdI)
    (GN : FnOk P w K mg base CX0 1 fN fdN ["self"] (spNodes CN)) (bN : Binds K fdN ["self"] [])
    (GU : FnOk P w K mg base CX0 4 fU fdU ["text", "start", "end"] (spPart K C)) (bU : Binds K fdU ["text", "start", "end"] []) (mU : mg "part_units" = some (.ref fU)) (kU : PySem.W.keepIn K (.ref fU) = true)
    (GP : FnOk P w K mg base CX0 1 fP fdP ["unit", "wanted"] (spIsPlain K C)) (bP : Binds K fdP ["unit", "wanted"] []) (mP : mg "is_plain" = some (.ref fP)) (kP : PySem.W.keepIn K (.ref fP) = true)
    (GT : FnOk P w K mg base (CX1 P w) 5 fT fdT ["nodes", "depth", "piece"] (spTakePiece CN C CF)) (bT : Binds K fdT ["nodes", "depth", "piece"] []) (mT : mg "take_piece" = some (.ref fT)) (kT : PySem.W.keepIn K (.ref fT) = true)
    (GM : FnOk P w K mg base (CX1 P w) 3 fM fdM ["openers", "unit", "gave_node"] (spTakeMark C CF)) (bM : Binds K fdM ["openers", "unit", "gave_node"] []) (mM : mg "take_mark" = some (.ref fM)) (kM : PySem.W.keepIn K (.ref fM) = true) :
    FnOk P w K mg base (CX1 P w) 6 f fd ["text"] (spRead K CN CF Of.read1) := by
  refine F.okX scReadBraces (fun vs H Q E h => ?_) (fun cdv A outer s H vs Q E hr h => ?_)
  · obtain ⟨a, bs, rfl, _⟩ := h
    rfl
  · obtain ⟨a, bs, rfl, ha, hz, k⟩ := h
    have nd := scReadBraces.nd
    have ps := (throws_def (P := P) (w := w) (K := K) (mg := mg) (base := base) (N := ["text", "nodes", "openers", "piece", "unit", "gave_node"]) (qual := "read_braces") (scope := defScope sReadBraces) (f := f) (cd := cdv) (A := A) (outer := outer) (s0 := s) (H0 := H) (E := E)).passes indef_cx
    refine ⟨_, pss_cons (ps_set (i := 1) nd rfl (Or.inl rfl) (pe_make0 M GN.lift (hr.mono (by decide)) rfl T.mgC bN .nil ps))
      (pss_cons (ps_set (i := 2) nd rfl (Or.inl rfl) (pe_lst pa_nil))
      (pss_cons (ps_set (i := 3) nd rfl (Or.inl rfl) (pe_lst pa_nil))
      (pss_cons (ps_for passes_own rfl (pi_list (pe_call GU.lift (hr.mono (by decide)) rfl mU kU bU .nil ps (pa_cons (pv 0) (pa_cons pe_int (pa_cons (pe_callB call_len_seq (by rfl) B.len PySem.boot_len (pa_cons (pv 0) pa_nil)) pa_nil))))) (pg_name (i := 4) nd rfl (Or.inl rfl))
        (pss_one (ps_if (pt_val (pe_call GP.lift (hr.mono (by decide)) rfl mP kP bP .nil ps (pa_cons (pv 4) (pa_cons (pe_tup (pa_cons (pe_cst c.semi) (pa_cons (pe_cst c.opener) (pa_cons (pe_cst c.closer) pa_nil)))) pa_nil))))
          (pss_cons (ps_set (i := 5) nd rfl (Or.inl rfl) (pe_call GT hr rfl mT kT bT .nil ps (pa_cons (pv 1) (pa_cons (pe_callB call_len_seq (by rfl) B.len PySem.boot_len (pa_cons (pv 2) pa_nil)) (pa_cons (pv 3) pa_nil)))))
          (pss_cons (ps_expr (pe_call GM (hr.mono (by decide)) rfl mM kM bM .nil ps (pa_cons (pv 2) (pa_cons (pv 4) (pa_cons (pv 5) pa_nil)))))
          (pss_one (ps_set (i := 3) nd rfl (Or.inl rfl) (pe_lst pa_nil)))))
          (pss_one (ps_expr (pe_bm PySem.F.plainAttrs_list PySem.F.slot_list_append PySem.F.type_list_append mt_append (pv 3) (pa_cons (pv 4) pa_nil)))))))
      (pss_cons (ps_expr (pe_call GT hr rfl mT kT bT .nil ps (pa_cons (pv 1) (pa_cons (pe_callB call_len_seq (by rfl) B.len PySem.boot_len (pa_cons (pv 2) pa_nil)) (pa_cons (pv 3) pa_nil)))))
      (pss_cons (ps_if (pt_cmpR op_gt (pe_callB call_len_seq (by rfl) B.len PySem.boot_len (pa_cons (pv 2) pa_nil)) pe_int (nomark _)) (pss_one (ps_raise rfl indef_cx throws_def R.ini (hr.mono (by decide)) (by decide) rfl R.mgF R.cls R.kp R.fn R.bi (pa_cons (pe_cst fc.closed) (pa_cons (pe_ix ix_list (pv 2) (pe_un un_neg pe_int) (fun _ _ => rfl)) pa_nil)))) pss_nil)
      (pss_one (ps_ret (pv 1)))))))), ?_⟩
    refine fun n dx nn0 nd0 ne0 => ⟨n, dx, rfl, upd_same, fun H1 t d N1 t0 d0 fr1 => ⟨rfl, Nat.zero_le _, fun op hop => ⟨Nat.zero_le _, fun pc0 hpc0 => ?_⟩⟩⟩
    have ht : H t = none := by
      cases q : H t with
      | none => rfl
      | some o =>
        rw [upd_ne (ne_of_none q nn0), upd_ne (ne_of_none q nd0), q] at t0
        cases t0
    have hd : H d = none := by
      cases q : H d with
      | none => rfl
      | some o =>
        rw [upd_ne (ne_of_none q nn0), upd_ne (ne_of_none q nd0), q] at d0
        cases d0
    have s1 : Same H H1 := fun b o e => fr1 b o (by rw [upd_ne (ne_of_none e nn0), upd_ne (ne_of_none e nd0)]; exact e) (ne_of_none e nn0)
    have s2 : Same H1 (L2.upd H1 op (.lst [])) := same_new hop
    have s3 : Same (L2.upd H1 op (.lst [])) (L2.upd (L2.upd H1 op (.lst [])) pc0 (.lst [])) := same_new hpc0
    have S3 := (s1.trans s2).trans s3
    have hpn : H1 pc0 = none := s2.free hpc0
    have npo : pc0 ≠ op := fun y => by rw [y, upd_same] at hpc0; cases hpc0
    refine ⟨_, rfl, _, rfl, a, _, rfl, .inl (S3.seq ha), a, bs, 0, bs.length, ?_, S3.seq ha, Nat.le_refl _, hz, fun H3 l0 s4 nl0 hl0 => ?_⟩
    · rw [bV_len]
      rfl
    have S4 := S3.trans s4
    have esl : sl bs bs.length 0 = bs := by
      unfold sl
      rw [List.take_length]
      rfl
    rw [esl] at hl0
    obtain ⟨as, el, pu⟩ := hl0
    have lu := Paired.len pu
    have lm : (as.map V.ref).length = (Of.units 0 bs).length := by rw [List.length_map, lu, List.length_map]
    have lbound := units_len 0 bs
    have nl : ∀ {x : Addr} {o : HO}, L2.upd (L2.upd H1 op (.lst [])) pc0 (.lst []) x = some o → l0 ≠ x := fun {x o} e y => by rw [← y, nl0] at e; cases e
    have b0 : BI CN C H H3 H3 n t d op pc0 pc0 [] [] [] [] := by
      refine ⟨((N1.same s2).same s3).same s4, Good.nil, s4 _ _ (by rw [upd_ne (Ne.symm npo), upd_same]; rfl), ⟨[], s4 _ _ upd_same, .nil⟩, fun x o z _ _ _ _ => z, S4, fun y => ?_, fun y => ?_, fun y => ?_, fun y => ?_, npo, .inl rfl, s1.free hpn, (fun _ z => nomatch z), ht, hd, s1.free hop, fun x z => z⟩
      · rw [y, N1.tx] at hop; cases hop
      · rw [y, N1.dp] at hop; cases hop
      · rw [y, N1.tx] at hpn; cases hpn
      · rw [y, N1.dp] at hpn; cases hpn
    have hl0t : l0 ≠ t := nl (s3 _ _ (s2 _ _ N1.tx))
    have hl0d : l0 ≠ d := nl (s3 _ _ (s2 _ _ N1.dp))
    have hl0o : l0 ≠ op := nl (show _ = some (HO.lst []) by rw [upd_ne (Ne.symm npo), upd_same])
    have hl0p : l0 ≠ pc0 := nl upd_same
    have units_in : ∀ {H' : Hp} {pc : Addr} {ts : List Addr} {l : Outline} {os : List Nat} {p : List (Nat × Bytes)}, BI CN C H H3 H' n t d op pc0 pc ts l os p → ∀ x u, UnitAt C H3 x u → UnitAt C H' x u := fun b x u ⟨dx, z⟩ =>
      ⟨dx, b.fr x _ z (ne_of z b0.nn.tx (by intro y; cases y)) (ne_of z b0.nn.dp (by intro y; cases y)) (ne_of z b0.ho (by intro y; cases y)) (by obtain ⟨as', e', _⟩ := b0.hp; exact ne_of z e' (by intro y; cases y))⟩
    refine ⟨l0, rfl, ⟨_, SqL.of el⟩, for_list (K := K) (a := l0) (xs := as.map V.ref) (fun i σ H' => ∃ (pc : Addr) (v4 v5 : Option V) (ts : List Addr) (l : Outline) (os : List Nat) (p : List (Nat × Bytes)), σ = [some (.ref a), some (.ref n), some (.ref op), some (.ref pc), v4, v5] ∧ BI CN C H H3 H' n t d op pc0 pc ts l os p ∧
        os.length ≤ i ∧ p.length ≤ i ∧ (∀ u ∈ p, isU u.2) ∧ Of.unitsRead ⟨l, os.reverse, p⟩ ((Of.units 0 bs).drop i) = Of.read1 bs)
      ⟨pc0, none, none, [], [], [], [], rfl, b0, Nat.le_refl _, Nat.le_refl _, (fun _ z => nomatch z), rfl⟩ (fun i σ H' _ ⟨_, _, _, _, _, _, _, _, b, _⟩ => SqL.of (b.fr _ _ el hl0t hl0d hl0o hl0p)) ?_ ?_⟩
    · rintro i y σ H4 hy ⟨pc, v4, v5, ts, l, os, p, rfl, b, h1, h2, hU, e1⟩
      have hi : i < (Of.units 0 bs).length := by rw [← lm]; exact (List.getElem?_eq_some_iff.mp hy).1
      have hui : (Of.units 0 bs)[i]? = some (Of.units 0 bs)[i] := List.getElem?_eq_getElem hi
      generalize hu : (Of.units 0 bs)[i] = u at hui
      have hUu : isU u.2 := units_isU 0 bs u (List.mem_of_getElem? hui)
      have hui2 : ((Of.units 0 bs).map uOf)[i]? = some (uOf u) := by rw [List.getElem?_map, hui]; rfl
      obtain ⟨au, hau, uau3⟩ := Paired.get pu hui2
      rw [refs_at hau] at hy
      cases hy
      have uau := units_in b au _ uau3
      have drop1 : (Of.units 0 bs).drop i = u :: (Of.units 0 bs).drop (i + 1) := by rw [List.drop_eq_getElem_cons hi, hu]
      have estep : Of.unitsRead ⟨l, os.reverse, p⟩ ((Of.units 0 bs).drop i) = match Of.unit ⟨l, os.reverse, p⟩ u with | .error f => .error f | .ok t => Of.unitsRead t ((Of.units 0 bs).drop (i + 1)) := by rw [drop1]; rfl
      rw [estep] at e1
      refine ⟨_, rfl, (by show 3 ≤ sizeLine; decide), fun q hq => ⟨au, q, uOf u, [59, 123, 125], rfl, uau.same (same_new hq), SqT.of upd_same, _, rfl, ?_⟩⟩
      have b1 := b.same (same_new (o := .tup [.int 59, .int 123, .int 125]) hq)
      have uau1 : UnitAt C (L2.upd H4 q (.tup [.int 59, .int 123, .int 125])) au (uOf u) := uau.same (same_new hq)
      generalize hH5 : L2.upd H4 q (.tup [.int 59, .int 123, .int 125]) = H5
      rw [hH5] at b1 uau1
      cases hsep : isPl [59, 123, 125] (uOf u) with
      | false =>
        rw [unit_plain hUu hsep] at e1
        obtain ⟨ap, ep, pp⟩ := id b1.hp
        have lp := Paired.len pp
        rw [List.length_map] at lp
        refine iteF ⟨_, rfl, .inl ⟨rfl, _, SqL.of ep⟩, _, rfl, pc, _, _, rfl, rfl, ep, (by rw [List.length_map]; exact small1000' (by omega)), ?_⟩
        refine ⟨pc, _, v5, ts, l, os, p ++ [u], rfl, b1.append ep pp uau1, by omega, by rw [List.length_append, List.length_singleton]; omega, fun v hv => ?_, e1⟩
        rcases List.mem_append.mp hv with z | z
        · exact hU v z
        · rw [List.mem_singleton.mp z]; exact hUu
      | true =>
        refine iteT ⟨_, rfl, _, rfl, op, _, rfl, .inl (SqL.of b1.ho), _, rfl, n, t, d, pc, ts, l, os.length, p, ?_, b1.nn, b1.g, b1.hp, hU, by omega, ?_⟩
        · rw [natV_len]
          rfl
        -- the piece
        have key : (∃ f, Of.node 10 l os.length (core p) = .error f ∧ Of.unit ⟨l, os.reverse, p⟩ u = .error f) ∨ ∃ l', Of.node 10 l os.length (core p) = .ok l' := by
          cases hn : Of.node 10 l os.length (core p) with
          | error ff' =>
            refine .inl ⟨ff', rfl, ?_⟩
            rcases unit_sep (l := l) (os := os.reverse) (p := p) hUu hsep with ⟨_, _, e⟩ | ⟨_, _, e⟩ | ⟨_, _, e⟩ <;> (rw [e, List.length_reverse, hn])
          | ok l' => exact .inr ⟨l', rfl⟩
        rcases key with ⟨ff', hn, hf⟩ | ⟨l', hn⟩
        · rw [hn]
          rw [hf] at e1
          unfold readSays at k
          rw [← e1] at k
          exact FaultE.same k b1.sm
        · rw [hn]
          intro H6 ts' fr6 nn6 h6
          have b2 := b1.taken fr6 nn6 (node_good b1.g hn) h6
          have uau2 := units_in b2 au _ uau3
          have epl := uOf_place u
          refine ⟨_, rfl, _, rfl, _, rfl, op, au, os, uOf u, u.1, _, rfl, b2.ho, uau2, epl, by omega, ?_⟩
          rcases unit_sep (l := l) (os := os.reverse) (p := p) hUu hsep with ⟨_, eb, e⟩ | ⟨_, eb, e⟩ | ⟨_, eb, e⟩
          · rw [eb, if_neg (by decide), if_neg (by decide)]
            rw [e, List.length_reverse, hn] at e1
            refine ⟨Nat.zero_le _, fun pc' hpc' => ⟨pc', _, _, ts', l', os, [], rfl, b2.fresh hpc', by omega, Nat.zero_le _, (fun _ z => nomatch z), e1⟩⟩
          · rw [eb, if_pos rfl]
            rw [e, List.length_reverse, hn] at e1
            dsimp only at e1
            cases hg : (core p).isEmpty with
            | true =>
              rw [if_neg (show ¬ (!true) = true by decide)]
              rw [hg, if_neg (show ¬ (!true) = true by decide)] at e1
              unfold readSays at k
              rw [← e1] at k
              exact FaultE.same k b2.sm
            | false =>
              rw [if_pos (show (!false) = true from rfl)]
              rw [hg, if_pos (show (!false) = true from rfl)] at e1
              have b3 := b2.mark (os' := os ++ [u.1])
              refine ⟨Nat.zero_le _, fun pc' hpc' => ⟨pc', _, _, ts', l', os ++ [u.1], [], rfl, b3.fresh hpc', by rw [List.length_append, List.length_singleton]; omega, Nat.zero_le _, (fun _ z => nomatch z), ?_⟩⟩
              rw [List.reverse_append]
              exact e1
          · rw [eb, if_neg (by decide), if_pos rfl]
            rw [e, List.length_reverse, hn] at e1
            dsimp only at e1
            by_cases hos : os = []
            · rw [if_pos hos]
              rw [hos] at e1
              unfold readSays at k
              rw [← e1] at k
              exact FaultE.same k b2.sm
            · rw [if_neg hos]
              obtain ⟨os0, o0, eo⟩ : ∃ os0 o0, os = os0 ++ [o0] := ⟨os.dropLast, os.getLast hos, (List.dropLast_concat_getLast hos).symm⟩
              subst eo
              rw [List.reverse_append] at e1
              rw [List.dropLast_concat]
              have b3 := b2.mark (os' := os0)
              rw [List.length_append, List.length_singleton] at h1
              exact ⟨Nat.zero_le _, fun pc' hpc' => ⟨pc', _, _, ts', l', os0, [], rfl, b3.fresh hpc', by omega, Nat.zero_le _, (fun _ z => nomatch z), e1⟩⟩
    · rintro σ H4 ⟨pc, v4, v5, ts, l, os, p, rfl, b, h1, h2, hU, e1⟩
      rw [lm] at h1 h2 e1
      rw [List.drop_length] at e1
      have e2 : Of.unitsRead ⟨l, os.reverse, p⟩ [] = match Of.node 10 l os.length (core p) with | .error f => .error f | .ok n => match os.reverse with | [] => .ok n | o :: _ => .error ⟨9, o⟩ := by
        unfold Of.unitsRead
        rw [ended_eq, List.length_reverse]
        cases Of.node 10 l os.length (core p) <;> rfl
      rw [e2] at e1
      refine ⟨_, rfl, _, rfl, op, _, rfl, .inl (SqL.of b.ho), _, rfl, n, t, d, pc, ts, l, os.length, p, ?_, b.nn, b.g, b.hp, hU, by omega, ?_⟩
      · rw [natV_len]
        rfl
      cases hn : Of.node 10 l os.length (core p) with
      | error ff' =>
        rw [hn] at e1
        unfold readSays at k
        rw [← e1] at k
        exact FaultE.same k b.sm
      | ok l' =>
        rw [hn] at e1
        dsimp only at e1
        intro H6 ts' fr6 nn6 h6
        have b2 := b.taken fr6 nn6 (node_good b.g hn) h6
        refine ⟨_, rfl, op, _, rfl, .inl (SqL.of b2.ho), _, _, rfl, rfl, _, rfl, ?_⟩
        rw [natV_len]
        by_cases hos : os = []
        · subst hos
          rw [decide_eq_false (show ¬ (0 : Int) < ((([] : List Nat).length : Nat) : Int) by decide)]
          unfold readSays at k
          rw [← e1] at k
          exact iteF ⟨_, rfl, k H6 n b2.sm ⟨t, d, ts', b2.nn, nn0, ht, hd, fun x hx => (b2.tb x hx).2.2⟩⟩
        · obtain ⟨os0, o0, eo⟩ : ∃ os0 o0, os = os0 ++ [o0] := ⟨os.dropLast, os.getLast hos, (List.dropLast_concat_getLast hos).symm⟩
          subst eo
          rw [List.reverse_append] at e1
          have hlen : (0 : Int) < (((os0 ++ [o0]).length : Nat) : Int) := by rw [List.length_append, List.length_singleton]; omega
          rw [decide_eq_true hlen]
          unfold readSays at k
          rw [← e1] at k
          have hlast : atI (natV (os0 ++ [o0])) (-1) = some (.int (o0 : Int)) := by rw [natV_snoc]; exact atI_last _ _
          exact iteT ⟨_, rfl, _, rfl, op, _, _, _, rfl, rfl, SqL.of b2.ho, hlast, rfl, raised (FaultE.same k b2.sm)⟩
end
end My
set_option Elab.async false
set_option linter.all false
set_option maxRecDepth 100000
set_option maxHeartbeats 4000000
namespace My
open PySem PySem.Spec PyProof.Rows L2
open Of (Bytes Outline Node)
abbrev sWriteLayout : Stmt := top 62
abbrev sWriteBraces : Stmt := top 63
abbrev sMarks : Stmt := top 64
abbrev sGuarded : Stmt := top 65
abbrev sNeeds : Stmt := top 66
structure WCsts (mg : Str → Option Value) : Prop where
  laid : Cst mg "FORM_LAID_OUT" 0
  braces : Cst mg "FORM_BRACES" 1
theorem dec_u8 (c k : UInt8) (j : Int) (hj : j = (k.toNat : Int)) : decide (V.int (c.toNat : Int) = V.int j) = decide (c = k) := by
  subst hj
  apply decide_eq_decide.mpr
  exact ⟨fun z => Classical.byContradiction fun h => u8_ne c k h (V.int.inj z), fun z => by rw [z]⟩
theorem dec_nat (a b : Nat) (j : Int) (hj : j = (b : Int)) : decide (V.int (a : Int) = V.int j) = decide (a = b) := by
  subst hj
  apply decide_eq_decide.mpr
  exact ⟨fun z => by have := V.int.inj z; omega, fun z => by rw [z]⟩
theorem bV_app (s t : Bytes) : bV (s ++ t) = bV s ++ bV t := List.map_append
theorem small {n : Nat} (h : n ≤ 100000) : n ≤ sizeLine := Nat.le_trans h (by decide)
theorem smallL {n : Nat} (h : n ≤ 100000) : n < sizeLine := Nat.lt_of_le_of_lt h (by decide)
def spNeeds (K : PySem.W.Frag) : Sp := fun vs H Q _ => ∃ (a : Addr) (bs : Bytes) (i f : Nat), vs = [.ref a, .int i, .int f] ∧ SqL K H a (bV bs) ∧ i < bs.length ∧ ∀ H', Same H H' → Q (.bl (needs f bs i)) H'
def spGuarded (K : PySem.W.Frag) : Sp := fun vs H Q _ => ∃ (a : Addr) (bs : Bytes) (f : Nat), vs = [.ref a, .int f] ∧ SqL K H a (bV bs) ∧ bs.length ≤ 64 ∧ ∀ H' m, Same H H' → H m = none → H' m = some (.lst (bV (esc f bs))) → Q (.ref m) H'
def spMarks : Sp := fun vs H Q _ => ∃ (a b : Nat), vs = [.int a, .int b] ∧ a ≤ 15 ∧ ∀ H' m, Same H H' → H m = none → H' m = some (.lst (bV (Of.between a b))) → Q (.ref m) H'
def spWriteLayout (CN : Addr) : Sp := fun vs H Q _ => ∃ (n t d : Addr) (ts : List Addr) (l : Outline) (st : Nat), vs = [.ref n, .int st] ∧ NodesAt CN H n t d ts l ∧ Good l ∧ st ≤ 8 ∧ ∀ H' m, Same H H' → H m = none → H' m = some (.lst (bV (Of.write0 st l))) → Q (.ref m) H'
def spWriteBraces (CN : Addr) : Sp := fun vs H Q _ => ∃ (n t d : Addr) (ts : List Addr) (l : Outline), vs = [.ref n] ∧ NodesAt CN H n t d ts l ∧ Good l ∧ ∀ H' m, Same H H' → H m = none → H' m = some (.lst (bV (Of.write1 l))) → Q (.ref m) H'
section
variable {P : Program} {w : World} {K : PySem.W.Frag} {mg : Str → Option Value} {base : Heap}
theorem scNeeds : FnScope ["text", "at", "form"] ["text", "at", "form"] (defScope sNeeds) := ⟨rfl, rfl, rfl, by decide +kernel, rfl, by decide +kernel, by decide +kernel⟩
theorem ok_needs {f : Addr} {fd : FuncData} (F : Fun K "needs_backslash" "needs_backslash" sNeeds f fd) (B : Blt mg) (c : Csts mg) (wc : WCsts mg) : FnOk P w K mg base CX0 1 f fd ["text", "at", "form"] (spNeeds K) := by
  refine F.ok scNeeds (fun vs H Q E h => ?_) (fun cdv A outer s H vs Q E hr h => ?_)
  · obtain ⟨a, bs, i, fm, rfl, _⟩ := h
    rfl
  · obtain ⟨a, bs, i, fm, rfl, ha, hi, k⟩ := h
    refine ⟨_, pss_cons (ps_if (pt_cmpR op_eq (pe_ix ix_list (pv 0) (pv 1) (fun _ _ => rfl)) (pe_cst c.back) (nomark _)) (pss_one (ps_ret pe_bl)) pss_nil)
      (pss_cons (ps_if (pt_cmpR op_eq (pe_ix ix_list (pv 0) (pv 1) (fun _ _ => rfl)) (pe_cst c.space) (nomark _)) (pss_one (ps_ret (pe_or (pe_cmpR op_eq (pv 1) pe_int (nomark _)) (pe_one (pe_cmpR op_eq (pv 1) (pe_op op_sub (pe_callB call_len_seq (by rfl) B.len PySem.boot_len (pa_cons (pv 0) pa_nil)) pe_int) (nomark _)))))) pss_nil)
      (pss_cons (ps_if (pt_cmpR op_eq (pv 2) (pe_cst wc.laid) (nomark _)) (pss_one (ps_ret (pe_and (pe_cmpR op_eq (pe_ix ix_list (pv 0) (pv 1) (fun _ _ => rfl)) (pe_cst c.hash) (nomark _)) (pe_one (pe_cmpR op_eq (pv 1) pe_int (nomark _)))))) pss_nil)
      (pss_one (ps_ret (pe_cmpR op_in_seq (pe_ix ix_list (pv 0) (pv 1) (fun _ _ => rfl)) (pe_tup (pa_cons (pe_cst c.semi) (pa_cons (pe_cst c.opener) (pa_cons (pe_cst c.closer) pa_nil)))) rfl))))), ?_⟩
    have hb : bs[i]? = some bs[i] := List.getElem?_eq_getElem hi
    have hix : atI (bV bs) (i : Int) = some (.int ((bs[i]).toNat : Int)) := atI_nat (bV_at hb)
    have en := needs_prog fm bs i bs[i] hb
    generalize bs[i] = ch at hb hix en
    refine ⟨_, rfl, _, rfl, a, _, _, _, rfl, rfl, ha, hix, rfl, _, rfl, ?_⟩
    rw [dec_u8 ch 92 92 rfl]
    by_cases h1 : ch = 92
    · rw [if_pos h1] at en
      rw [decide_eq_true h1]
      rw [en] at k
      exact iteT (k H (Same.refl H))
    · rw [if_neg h1] at en
      rw [decide_eq_false h1]
      refine iteF ⟨_, rfl, _, rfl, a, _, _, _, rfl, rfl, ha, hix, rfl, _, rfl, ?_⟩
      rw [dec_u8 ch 32 32 rfl]
      by_cases h2 : ch = 32
      · rw [if_pos h2] at en
        rw [decide_eq_true h2]
        rw [en] at k
        refine iteT ⟨_, rfl, rfl, _, rfl, ?_⟩
        rw [dec_nat i 0 0 rfl]
        by_cases h3 : i = 0
        · rw [decide_eq_true h3] at k ⊢
          exact iteT (k H (Same.refl H))
        · rw [decide_eq_false h3] at k ⊢
          refine iteF ⟨_, rfl, _, rfl, a, _, rfl, .inl ha, _, _, rfl, rfl, rfl, ?_⟩
          rw [bV_len]
          show Q (.bl (decide (V.int (i : Int) = V.int ((bs.length : Int) - 1)))) H
          rw [dec_nat i (bs.length - 1) _ (by omega)]
          have e4 : decide (i = bs.length - 1) = decide (i + 1 = bs.length) := decide_eq_decide.mpr (by omega)
          rw [e4]
          exact k H (Same.refl H)
      · rw [if_neg h2] at en
        rw [decide_eq_false h2]
        refine iteF ⟨_, rfl, rfl, _, rfl, ?_⟩
        rw [dec_nat fm 0 0 rfl]
        by_cases h3 : fm = 0
        · rw [if_pos h3] at en
          rw [decide_eq_true h3]
          rw [en] at k
          refine iteT ⟨_, rfl, _, rfl, a, _, _, _, rfl, rfl, ha, hix, rfl, _, rfl, ?_⟩
          rw [dec_u8 ch 35 35 rfl]
          by_cases h4 : ch = 35
          · rw [decide_eq_true h4] at k ⊢
            refine iteT ⟨_, rfl, rfl, ?_⟩
            rw [dec_nat i 0 0 rfl]
            exact k H (Same.refl H)
          · rw [decide_eq_false h4] at k ⊢
            exact iteF (k H (Same.refl H))
        · rw [if_neg h3] at en
          rw [decide_eq_false h3]
          rw [en] at k
          refine iteF ⟨_, rfl, _, rfl, a, _, _, _, rfl, rfl, ha, hix, (by show 3 ≤ sizeLine; decide), fun p hp => ⟨p, intsV [59, 123, 125], rfl, .inr (SqT.of upd_same), rfl, rfl, ?_⟩⟩
          have e5 : inV (.int (ch.toNat : Int)) (intsV [59, 123, 125]) = (decide (ch = 59) || (decide (ch = 123) || decide (ch = 125))) := by
            rw [in_ints, show ([59, 123, 125] : List Int) = [((59 : UInt8).toNat : Int), ((123 : UInt8).toNat : Int), ((125 : UInt8).toNat : Int)] from rfl]
            simp only [List.contains_cons, List.contains_nil, u8_eq, Bool.or_false]
            rfl
          show Q (.bl (inV (.int (ch.toNat : Int)) (intsV [59, 123, 125]))) _
          rw [e5]
          exact k _ (same_new hp)
theorem scGuarded : FnScope ["text", "form", "written", "at"] ["text", "form"] (defScope sGuarded) := ⟨rfl, rfl, rfl, by decide +kernel, rfl, by decide +kernel, by decide +kernel⟩
theorem ok_guarded {f fN : Addr} {fd fdN : FuncData} (F : Fun K "guarded" "guarded" sGuarded f fd) (B : Blt mg) (c : Csts mg) (GN : FnOk P w K mg base CX0 1 fN fdN ["text", "at", "form"] (spNeeds K)) (bN : Binds K fdN ["text", "at", "form"] []) (mN : mg "needs_backslash" = some (.ref fN))
    (kN : PySem.W.keepIn K (.ref fN) = true) : FnOk P w K mg base CX0 2 f fd ["text", "form"] (spGuarded K) := by
  refine F.ok scGuarded (fun vs H Q E h => ?_) (fun cdv A outer s H vs Q E hr h => ?_)
  · obtain ⟨a, bs, fm, rfl, _⟩ := h
    rfl
  · obtain ⟨a, bs, fm, rfl, ha, hz, k⟩ := h
    have nd := scGuarded.nd
    refine ⟨_, pss_cons (ps_set (i := 2) nd rfl (Or.inl rfl) (pe_lst pa_nil))
      (pss_cons (ps_for PassesOwn.never rfl (pi_range1 rfl B.range (pa_cons (pe_callB call_len_seq (by rfl) B.len PySem.boot_len (pa_cons (pv 0) pa_nil)) pa_nil)) (pg_name (i := 3) nd rfl (Or.inl rfl))
        (pss_cons (ps_if (pt_val (pe_call GN hr rfl mN kN bN .nil pass0 (pa_cons (pv 0) (pa_cons (pv 3) (pa_cons (pv 1) pa_nil))))) (pss_one (ps_expr (pe_bm PySem.F.plainAttrs_list PySem.F.slot_list_append PySem.F.type_list_append mt_append (pv 2) (pa_cons (pe_cst c.back) pa_nil)))) pss_nil)
        (pss_one (ps_expr (pe_bm PySem.F.plainAttrs_list PySem.F.slot_list_append PySem.F.type_list_append mt_append (pv 2) (pa_cons (pe_ix ix_list (pv 0) (pv 3) (fun _ _ => rfl)) pa_nil))))))
      (pss_one (ps_ret (pv 2)))), ?_⟩
    refine ⟨Nat.zero_le _, fun m hm => ⟨_, rfl, a, _, rfl, .inl ((same_new hm).seq ha), _, rfl, by omega, by rw [bV_len]; omega, ?_⟩⟩
    rw [bV_len]
    refine for_range (n := bs.length) (lo := 0) (fun i σ H' => ∃ v : Option V, σ = [some (.ref a), some (.int fm), some (.ref m), v] ∧ Same H H' ∧ H' m = some (.lst (bV (escTo fm bs i)))) ⟨none, rfl, same_new hm, upd_same⟩ ?_ ?_
    · rintro i σ H1 hi ⟨v, rfl, s1, em⟩
      have hb : bs[i]? = some bs[i] := List.getElem?_eq_getElem hi
      have hgd : bs.getD i 0 = bs[i] := by rw [List.getD_eq_getElem?_getD, hb]; rfl
      have hlen := escTo_len fm bs i
      have e0 : (0 : Int) + (i : Int) = (i : Int) := by omega
      rw [e0]
      refine ⟨_, rfl, _, rfl, _, rfl, a, bs, i, fm, rfl, s1.seq ha, hi, fun H2 s2 => ⟨_, rfl, ?_⟩⟩
      have em2 := s2 _ _ em
      have S2 := s1.trans s2
      rw [escTo_succ]
      unfold escB
      rw [hgd]
      cases hn : needs fm bs i with
      | true =>
        rw [if_pos rfl]
        refine iteT ⟨_, rfl, .inl ⟨rfl, _, SqL.of em2⟩, m, _, _, rfl, rfl, em2, smallL (by rw [bV_len]; omega), ?_⟩
        refine ⟨_, rfl, .inl ⟨rfl, _, SqL.of upd_same⟩, _, rfl, _, rfl, a, _, _, _, rfl, rfl, (same_upd S2 hm).seq ha, atI_nat (bV_at hb), m, _, _, rfl, rfl, upd_same, smallL (by rw [List.length_append, bV_len, List.length_singleton]; omega), ?_⟩
        refine ⟨_, rfl, same_upd (same_upd S2 hm) hm, ?_⟩
        rw [upd_same, bV_app, List.append_assoc]
        rfl
      | false =>
        rw [if_neg (by decide)]
        refine iteF ⟨_, rfl, .inl ⟨rfl, _, SqL.of em2⟩, _, rfl, _, rfl, a, _, _, _, rfl, rfl, S2.seq ha, atI_nat (bV_at hb), m, _, _, rfl, rfl, em2, smallL (by rw [bV_len]; omega), ?_⟩
        refine ⟨_, rfl, same_upd S2 hm, ?_⟩
        rw [upd_same, bV_app]
        rfl
    · rintro σ H1 ⟨v, rfl, s1, em⟩
      rw [← esc_eq] at em
      exact ⟨_, rfl, k H1 m s1 hm em⟩
theorem scMarks : FnScope ["depth", "depth_after"] ["depth", "depth_after"] (defScope sMarks) := ⟨rfl, rfl, rfl, by decide +kernel, rfl, by decide +kernel, by decide +kernel⟩
theorem bV_rep (n : Nat) (c : UInt8) : bV (List.replicate n c) = (List.replicate n [V.int (c.toNat : Int)]).flatten := by
  unfold bV
  rw [List.map_replicate]
  induction n with
  | zero => rfl
  | succ n ih => rw [List.replicate_succ, List.replicate_succ, ih]; rfl
theorem ok_marks {f : Addr} {fd : FuncData} (F : Fun K "marks_between" "marks_between" sMarks f fd) (c : Csts mg) : FnOk P w K mg base CX0 1 f fd ["depth", "depth_after"] spMarks := by
  refine F.ok scMarks (fun vs H Q E h => ?_) (fun cdv A outer s H vs Q E hr h => ?_)
  · obtain ⟨a, b, rfl, _⟩ := h
    rfl
  · obtain ⟨a, b, rfl, ha, k⟩ := h
    refine ⟨_, pss_cons (ps_if (pt_cmpR op_gt (pv 1) (pv 0) (nomark _)) (pss_one (ps_ret (pe_lst (pa_cons (pe_cst c.opener) pa_nil)))) pss_nil)
      (pss_cons (ps_if (pt_cmpR op_eq (pv 1) (pv 0) (nomark _)) (pss_one (ps_ret (pe_lst (pa_cons (pe_cst c.semi) pa_nil)))) pss_nil)
      (pss_one (ps_ret (pe_op op_rep (pe_lst (pa_cons (pe_cst c.closer) pa_nil)) (pe_op op_sub (pv 0) (pv 1)))))), ?_⟩
    unfold Of.between at k
    refine ⟨_, rfl, _, rfl, _, _, rfl, rfl, _, rfl, ?_⟩
    by_cases h1 : a < b
    · rw [if_pos h1] at k
      rw [decide_eq_true (show (a : Int) < (b : Int) by omega)]
      exact iteT ⟨(by show 1 ≤ sizeLine; decide), fun m hm => k _ m (same_new hm) hm upd_same⟩
    · rw [if_neg h1] at k
      rw [decide_eq_false (show ¬ (a : Int) < (b : Int) by omega)]
      refine iteF ⟨_, rfl, _, rfl, rfl, _, rfl, ?_⟩
      rw [dec_nat b a _ rfl]
      by_cases h2 : b = a
      · rw [if_neg (by omega)] at k
        rw [decide_eq_true h2]
        exact iteT ⟨(by show 1 ≤ sizeLine; decide), fun m hm => k _ m (same_new hm) hm upd_same⟩
      · rw [if_pos (by omega)] at k
        rw [decide_eq_false h2]
        refine iteF ⟨(by show 1 ≤ sizeLine; decide), fun m hm => ⟨_, rfl, _, rfl, _, _, rfl, rfl, m, _, _, rfl, rfl, upd_same, by omega, by omega, ?_, fun q hq => k _ q ((same_new hm).trans (same_new hq)) ((same_new hm).free hq) ?_⟩⟩
        · show 1 * _ ≤ _
          exact small (by omega)
        · rw [upd_same, bV_rep, show ((a : Int) - (b : Int)).toNat = a - b by omega]
          rfl
end
end My
set_option Elab.async false
set_option linter.all false
set_option maxRecDepth 100000
set_option maxHeartbeats 4000000
namespace My
open PySem PySem.Spec PyProof.Rows L2
open Of (Bytes Outline Node)
theorem NodesAt.text {C : Addr} {H : Hp} {a t d : Addr} {ts : List Addr} {l : Outline} (n : NodesAt C H a t d ts l) {i : Nat} {x : Node} (h : l[i]? = some x) : ∃ b, (ts.map V.ref)[i]? = some (.ref b) ∧ H b = some (.lst (bV x.text)) := by
  obtain ⟨b, hb, q, _⟩ := Paired.get n.pr h
  exact ⟨b, refs_at hb, q⟩
section
variable {P : Program} {w : World} {K : PySem.W.Frag} {mg : Str → Option Value} {base : Heap}
theorem scWriteLayout : FnScope ["nodes", "step", "written", "i"] ["nodes", "step"] (defScope sWriteLayout) := ⟨rfl, rfl, rfl, by decide +kernel, rfl, by decide +kernel, by decide +kernel⟩
theorem ok_writelayout {f CN fS fG : Addr} {fd fdS fdG : FuncData} (F : Fun K "write_layout" "write_layout" sWriteLayout f fd) (T : TN K mg CN) (B : Blt mg) (c : Csts mg) (wc : WCsts mg) (GS : FnOk P w K mg base CX0 1 fS fdS ["self"] (spSize CN)) (bS : Binds K fdS ["self"] []) (mS : Meth K CN "size" fS)
    (GG : FnOk P w K mg base CX0 2 fG fdG ["text", "form"] (spGuarded K)) (bG : Binds K fdG ["text", "form"] []) (mG : mg "guarded" = some (.ref fG)) (kG : PySem.W.keepIn K (.ref fG) = true) : FnOk P w K mg base CX0 3 f fd ["nodes", "step"] (spWriteLayout CN) := by
  refine F.ok scWriteLayout (fun vs H Q E h => ?_) (fun cdv A outer s H vs Q E hr h => ?_)
  · obtain ⟨n, t, d, ts, l, st, rfl, _⟩ := h
    rfl
  · obtain ⟨n, t, d, ts, l, st, rfl, nn, g, hst, k⟩ := h
    have nd := scWriteLayout.nd
    obtain ⟨dxn, en⟩ := nn.ob
    refine ⟨_, pss_cons (ps_set (i := 2) nd rfl (Or.inl rfl) (pe_lst pa_nil))
      (pss_cons (ps_for PassesOwn.never rfl (pi_range1 rfl B.range (pa_cons (pe_meth0 (pv 0) T.cl mS GS (hr.mono (by decide)) bS .nil pass0) pa_nil)) (pg_name (i := 3) nd rfl (Or.inl rfl))
        (pss_cons (ps_expr (pe_bm PySem.F.plainAttrs_list PySem.F.slot_list_extend PySem.F.type_list_extend mt_extend (pv 2) (pa_cons (pe_op op_rep (pe_lst (pa_cons (pe_cst c.space) pa_nil)) (pe_op op_mul (pe_ix ix_list (pe_fld (pv 0) rfl) (pv 3) (fun _ _ => rfl)) (pv 1))) pa_nil)))
        (pss_cons (ps_expr (pe_bm PySem.F.plainAttrs_list PySem.F.slot_list_extend PySem.F.type_list_extend mt_extend (pv 2) (pa_cons (pe_call GG hr rfl mG kG bG .nil pass0 (pa_cons (pe_ix ix_list (pe_fld (pv 0) rfl) (pv 3) (fun _ _ => rfl)) (pa_cons (pe_cst wc.laid) pa_nil))) pa_nil)))
        (pss_one (ps_expr (pe_bm PySem.F.plainAttrs_list PySem.F.slot_list_append PySem.F.type_list_append mt_append (pv 2) (pa_cons (pe_cst c.feed) pa_nil)))))))
      (pss_one (ps_ret (pv 2)))), ?_⟩
    refine ⟨Nat.zero_le _, fun m hm => ⟨_, rfl, n, dxn, _, rfl, same_new hm _ _ en, nf_no (by decide +kernel) (by decide +kernel), n, t, d, ts, l, rfl, nn.same (same_new hm), _, rfl, by omega, by have := g.len; omega, ?_⟩⟩
    rw [Int.toNat_natCast]
    refine for_range (n := l.length) (lo := 0) (fun i σ H' => ∃ v : Option V, σ = [some (.ref n), some (.int st), some (.ref m), v] ∧ Same H H' ∧ H' m = some (.lst (bV (w0 st l i)))) ⟨none, rfl, same_new hm, upd_same⟩ ?_ ?_
    · rintro i σ H1 hi ⟨v, rfl, s1, em⟩
      have hli : l[i]? = some l[i] := List.getElem?_eq_getElem hi
      generalize hx : l[i] = x at hli
      have hxm := List.mem_of_getElem? hli
      have h1 := g.dep x hxm
      have h2 := g.txt x hxm
      have h3 := esc_len 0 x.text
      have h4 : x.depth * st ≤ 15 * 8 := Nat.mul_le_mul h1 hst
      have hw := w0_len g hst i
      have hlen := g.len
      have e0 : (0 : Int) + (i : Int) = (i : Int) := by omega
      rw [e0]
      have e5 : ((x.depth : Int) * (st : Int)) = ((x.depth * st : Nat) : Int) := by rw [Int.natCast_mul]
      refine ⟨_, rfl, .inl ⟨rfl, _, SqL.of em⟩, (by show 1 ≤ sizeLine; decide), fun p hp => ?_⟩
      have s2 : Same H1 (L2.upd H1 p (.lst [.int 32])) := same_new hp
      have en2 := (s1.trans s2) _ _ en
      refine ⟨_, rfl, n, CN, dxn, _, _, rfl, en2, T.cl, T.n2, nf_depths t d, _, rfl, d, _, _, _, rfl, rfl, SqL.of ((s1.trans s2) _ _ nn.dp), atI_nat (depV_at hli), _, rfl, _, _, rfl, rfl, .inl ⟨by omega, by omega⟩, p, _, _, rfl, rfl, upd_same, ?_, ?_, ?_, fun q hq => ?_⟩
      · rw [e5]; omega
      · rw [e5]; omega
      · rw [e5, Int.toNat_natCast]
        show 1 * _ ≤ _
        exact small (by omega)
      have s3 := same_new (o := .lst (List.replicate ((x.depth : Int) * (st : Int)).toNat [V.int 32]).flatten) hq
      have S3 := (s1.trans s2).trans s3
      refine ⟨m, q, _, _, rfl, rfl, s3 _ _ (s2 _ _ em), upd_same, ?_, ?_⟩
      · rw [bV_len, len_rep, e5, Int.toNat_natCast]
        show _ + _ * 1 ≤ _
        exact small (by omega)
      have S4 : Same H (L2.upd (L2.upd (L2.upd H1 p (.lst [.int 32])) q (.lst (List.replicate ((x.depth : Int) * (st : Int)).toNat [V.int 32]).flatten)) m (.lst (bV (w0 st l i) ++ (List.replicate ((x.depth : Int) * (st : Int)).toNat [V.int 32]).flatten))) := same_upd S3 hm
      generalize hH4 : L2.upd (L2.upd (L2.upd H1 p (.lst [.int 32])) q (.lst (List.replicate ((x.depth : Int) * (st : Int)).toNat [V.int 32]).flatten)) m (.lst (bV (w0 st l i) ++ (List.replicate ((x.depth : Int) * (st : Int)).toNat [V.int 32]).flatten)) = H4
      rw [hH4] at S4
      have em4 : H4 m = some (.lst (bV (w0 st l i ++ List.replicate (st * x.depth) 32))) := by
        rw [← hH4, upd_same, bV_app, bV_rep, e5, Int.toNat_natCast, Nat.mul_comm st]
        rfl
      obtain ⟨b, hb, eb⟩ := (nn.same S4).text hli
      refine ⟨_, rfl, .inl ⟨rfl, _, SqL.of em4⟩, _, rfl, n, CN, dxn, _, _, rfl, S4 _ _ en, T.cl, T.n1, nf_texts t d, _, rfl, t, _, _, _, rfl, rfl, SqL.of (S4 _ _ nn.tx), atI_nat hb, b, x.text, 0, rfl, SqL.of eb, h2, fun H5 m2 s5 nm2 em2 => ?_⟩
      refine ⟨m, m2, _, _, rfl, rfl, s5 _ _ em4, em2, ?_, ?_⟩
      · rw [bV_len, bV_len, List.length_append, List.length_replicate, Nat.mul_comm st]
        exact small (by omega)
      have S5 := same_upd (o := .lst (bV (w0 st l i ++ List.replicate (st * x.depth) 32) ++ bV (esc 0 x.text))) (S4.trans s5) hm
      refine ⟨_, rfl, .inl ⟨rfl, _, SqL.of upd_same⟩, m, _, _, rfl, rfl, upd_same, ?_, ?_⟩
      · rw [List.length_append, bV_len, bV_len, List.length_append, List.length_replicate, Nat.mul_comm st]
        exact smallL (by omega)
      refine ⟨_, rfl, same_upd S5 hm, ?_⟩
      rw [upd_same, w0_succ hli, bV_app, bV_app, bV_app, bV_app, List.append_assoc, List.append_assoc]
      rfl
    · rintro σ H1 ⟨v, rfl, s1, em⟩
      unfold w0 at em
      rw [List.take_length] at em
      exact ⟨_, rfl, k H1 m s1 hm em⟩
theorem scWriteBraces : FnScope ["nodes", "written", "depth", "i"] ["nodes"] (defScope sWriteBraces) := ⟨rfl, rfl, rfl, by decide +kernel, rfl, by decide +kernel, by decide +kernel⟩
theorem ok_writebraces {f CN fS fG fM : Addr} {fd fdS fdG fdM : FuncData} (F : Fun K "write_braces" "write_braces" sWriteBraces f fd) (T : TN K mg CN) (B : Blt mg) (c : Csts mg) (wc : WCsts mg) (GS : FnOk P w K mg base CX0 1 fS fdS ["self"] (spSize CN)) (bS : Binds K fdS ["self"] []) (mS : Meth K CN "size" fS)
    (GG : FnOk P w K mg base CX0 2 fG fdG ["text", "form"] (spGuarded K)) (bG : Binds K fdG ["text", "form"] []) (mG : mg "guarded" = some (.ref fG)) (kG : PySem.W.keepIn K (.ref fG) = true)
    (GM : FnOk P w K mg base CX0 1 fM fdM ["depth", "depth_after"] spMarks) (bM : Binds K fdM ["depth", "depth_after"] []) (mM : mg "marks_between" = some (.ref fM)) (kM : PySem.W.keepIn K (.ref fM) = true) : FnOk P w K mg base CX0 3 f fd ["nodes"] (spWriteBraces CN) := by
  refine F.ok scWriteBraces (fun vs H Q E h => ?_) (fun cdv A outer s H vs Q E hr h => ?_)
  · obtain ⟨n, t, d, ts, l, rfl, _⟩ := h
    rfl
  · obtain ⟨n, t, d, ts, l, rfl, nn, g, k⟩ := h
    have nd := scWriteBraces.nd
    obtain ⟨dxn, en⟩ := nn.ob
    refine ⟨_, pss_cons (ps_set (i := 1) nd rfl (Or.inl rfl) (pe_lst pa_nil))
      (pss_cons (ps_set (i := 2) nd rfl (Or.inl rfl) pe_int)
      (pss_cons (ps_for PassesOwn.never rfl (pi_range1 rfl B.range (pa_cons (pe_meth0 (pv 0) T.cl mS GS (hr.mono (by decide)) bS .nil pass0) pa_nil)) (pg_name (i := 3) nd rfl (Or.inl rfl))
        (pss_cons (ps_if (pt_cmpR op_gt (pv 3) pe_int (nomark _)) (pss_one (ps_expr (pe_bm PySem.F.plainAttrs_list PySem.F.slot_list_extend PySem.F.type_list_extend mt_extend (pv 1) (pa_cons (pe_call GM (hr.mono (by decide)) rfl mM kM bM .nil pass0 (pa_cons (pv 2) (pa_cons (pe_ix ix_list (pe_fld (pv 0) rfl) (pv 3) (fun _ _ => rfl)) pa_nil))) pa_nil)))) pss_nil)
        (pss_cons (ps_expr (pe_bm PySem.F.plainAttrs_list PySem.F.slot_list_extend PySem.F.type_list_extend mt_extend (pv 1) (pa_cons (pe_call GG hr rfl mG kG bG .nil pass0 (pa_cons (pe_ix ix_list (pe_fld (pv 0) rfl) (pv 3) (fun _ _ => rfl)) (pa_cons (pe_cst wc.braces) pa_nil))) pa_nil)))
        (pss_one (ps_set (i := 2) nd rfl (Or.inl rfl) (pe_ix ix_list (pe_fld (pv 0) rfl) (pv 3) (fun _ _ => rfl)))))))
      (pss_cons (ps_expr (pe_bm PySem.F.plainAttrs_list PySem.F.slot_list_extend PySem.F.type_list_extend mt_extend (pv 1) (pa_cons (pe_op op_rep (pe_lst (pa_cons (pe_cst c.closer) pa_nil)) (pv 2)) pa_nil)))
      (pss_one (ps_ret (pv 1)))))), ?_⟩
    refine ⟨Nat.zero_le _, fun m hm => ⟨_, rfl, n, dxn, _, rfl, same_new hm _ _ en, nf_no (by decide +kernel) (by decide +kernel), n, t, d, ts, l, rfl, nn.same (same_new hm), _, rfl, by omega, by have := g.len; omega, ?_⟩⟩
    rw [Int.toNat_natCast]
    have wl := write1_len g
    refine for_range (n := l.length) (lo := 0) (fun i σ H' => ∃ (v : Option V) (wr : Bytes) (dep : Nat), σ = [some (.ref n), some (.ref m), some (.int dep), v] ∧ Same H H' ∧ H' m = some (.lst (bV wr)) ∧ dep ≤ 15 ∧ ((i = 0 ∧ wr = [] ∧ dep = 0) ∨ (0 < i ∧ wr ++ tail1 dep (l.drop i) = Of.write1 l)))
      ⟨none, [], 0, rfl, same_new hm, upd_same, by decide, .inl ⟨rfl, rfl, rfl⟩⟩ ?_ ?_
    · rintro i σ H1 hi ⟨v, wr, dep, rfl, s1, em, hdep, hcase⟩
      have hli : l[i]? = some l[i] := List.getElem?_eq_getElem hi
      have hdr : l.drop i = l[i] :: l.drop (i + 1) := List.drop_eq_getElem_cons hi
      generalize hx : l[i] = x at hli hdr
      have hxm := List.mem_of_getElem? hli
      have h1 := g.dep x hxm
      have h2 := g.txt x hxm
      have h3 := esc_len 1 x.text
      have e0 : (0 : Int) + (i : Int) = (i : Int) := by omega
      rw [e0]
      -- behind the marks
      have rest : ∀ (H2 : Hp) (wr2 : Bytes), Same H H2 → H2 m = some (.lst (bV wr2)) → wr2 ++ (esc 1 x.text ++ tail1 x.depth (l.drop (i + 1))) = Of.write1 l →
          tSeq (tDrop (tBM K "list" rExtend (tVar 1) (tCons (tCall (spGuarded K) [] E0 (tCons (tOp (rIxL K) (tFld K (tVar 0) "texts") (tVar 3)) (tCons (tC (.int 1)) tNil))) tNil)))
            (tAsg (tOp (rIxL K) (tFld K (tVar 0) "depths") (tVar 3)) (gName 2))
            { nx := fun σ H' => ∃ (v : Option V) (wr : Bytes) (dep : Nat), σ = [some (.ref n), some (.ref m), some (.int dep), v] ∧ Same H H' ∧ H' m = some (.lst (bV wr)) ∧ dep ≤ 15 ∧ ((i + 1 = 0 ∧ wr = [] ∧ dep = 0) ∨ (0 < i + 1 ∧ wr ++ tail1 dep (l.drop (i + 1)) = Of.write1 l)), rt := Q }
            [some (.ref n), some (.ref m), some (.int dep), some (.int i)] H2 := fun H2 wr2 S2 em2 ew => by
        have lw : wr2.length ≤ 20000 := by
          have := congrArg List.length ew
          rw [List.length_append] at this
          omega
        obtain ⟨b, hb, eb⟩ := (nn.same S2).text hli
        refine ⟨_, rfl, .inl ⟨rfl, _, SqL.of em2⟩, _, rfl, n, CN, dxn, _, _, rfl, S2 _ _ en, T.cl, T.n1, nf_texts t d, _, rfl, t, _, _, _, rfl, rfl, SqL.of (S2 _ _ nn.tx), atI_nat hb, b, x.text, 1, rfl, SqL.of eb, h2, fun H3 m2 s3 nm2 em3 => ?_⟩
        refine ⟨m, m2, _, _, rfl, rfl, s3 _ _ em2, em3, (by rw [bV_len, bV_len]; exact small (by omega)), ?_⟩
        have S3 := same_upd (o := .lst (bV wr2 ++ bV (esc 1 x.text))) (S2.trans s3) hm
        refine ⟨_, rfl, n, CN, dxn, _, _, rfl, S3 _ _ en, T.cl, T.n2, nf_depths t d, _, rfl, d, _, _, _, rfl, rfl, SqL.of (S3 _ _ nn.dp), atI_nat (depV_at hli), _, wr2 ++ esc 1 x.text, x.depth, rfl, S3, ?_, h1, .inr ⟨by omega, ?_⟩⟩
        · rw [upd_same, bV_app]
        · rw [List.append_assoc]
          exact ew
      refine ⟨_, rfl, _, _, rfl, rfl, _, rfl, ?_⟩
      rcases hcase with ⟨hi0, hwr, hd0⟩ | ⟨hi0, ew⟩
      · subst hi0 hwr hd0
        rw [decide_eq_false (show ¬ (0 : Int) < ((0 : Nat) : Int) by decide)]
        refine iteF (rest H1 [] s1 em ?_)
        rw [List.nil_append, ← write1_cons, ← hdr]
        rfl
      · rw [decide_eq_true (show (0 : Int) < (i : Int) by omega)]
        rw [hdr] at ew
        have lw : wr.length ≤ 20000 := by
          have := congrArg List.length ew
          rw [List.length_append] at this
          omega
        have hbl := between_len dep x.depth hdep
        refine iteT ⟨_, rfl, .inl ⟨rfl, _, SqL.of em⟩, _, rfl, _, rfl, n, CN, dxn, _, _, rfl, s1 _ _ en, T.cl, T.n2, nf_depths t d, _, rfl, d, _, _, _, rfl, rfl, SqL.of (s1 _ _ nn.dp), atI_nat (depV_at hli), dep, x.depth, rfl, hdep, fun H2 m2 s2 nm2 em2 => ?_⟩
        refine ⟨m, m2, _, _, rfl, rfl, s2 _ _ em, em2, (by rw [bV_len, bV_len]; exact small (by omega)), ?_⟩
        refine rest _ (wr ++ Of.between dep x.depth) (same_upd (s1.trans s2) hm) (by rw [upd_same, bV_app]) ?_
        rw [List.append_assoc]
        exact ew
    · rintro σ H1 ⟨v, wr, dep, rfl, s1, em, hdep, hcase⟩
      have ew : wr ++ List.replicate dep 125 = Of.write1 l := by
        rcases hcase with ⟨h0, hwr, hd0⟩ | ⟨_, ew⟩
        · subst hwr hd0
          have : l = [] := List.eq_nil_of_length_eq_zero h0
          rw [this]
          rfl
        · rw [List.drop_length] at ew
          exact ew
      have lw : wr.length ≤ 20000 := by
        have := congrArg List.length ew
        rw [List.length_append] at this
        omega
      refine ⟨_, rfl, .inl ⟨rfl, _, SqL.of em⟩, (by show 1 ≤ sizeLine; decide), fun p hp => ⟨_, rfl, p, _, _, rfl, rfl, upd_same, by omega, by omega, ?_, fun q hq => ?_⟩⟩
      · rw [Int.toNat_natCast]
        show 1 * _ ≤ _
        exact small (by omega)
      have s2 := (same_new (o := .lst [.int 125]) hp).trans (same_new (o := .lst (List.replicate ((dep : Int)).toNat [V.int 125]).flatten) hq)
      refine ⟨m, q, _, _, rfl, rfl, s2 _ _ em, upd_same, ?_, ?_⟩
      · rw [bV_len, len_rep, Int.toNat_natCast]
        show _ + _ * 1 ≤ _
        exact small (by omega)
      refine ⟨_, rfl, k _ m (same_upd (s1.trans s2) hm) hm ?_⟩
      rw [upd_same, ← ew, bV_app, bV_rep, Int.toNat_natCast]
      rfl
end
end My
set_option Elab.async false
set_option linter.all false
set_option maxRecDepth 100000
set_option maxHeartbeats 4000000
namespace My
open PySem PySem.Spec PyProof.Rows L2
open Of (Bytes Outline Node)
abbrev sLineCol : Stmt := top 89
theorem cutV_take (xs : List V) (o : Nat) : cutV xs none (some (o : Int)) = xs.take o := by
  unfold cutV
  rw [HT.sIx_none, HT.sIx_nat, List.drop_zero, Nat.sub_zero]
  by_cases h : o ≤ xs.length
  · rw [Nat.min_eq_left h]
  · rw [Nat.min_eq_right (by omega), List.take_length, List.take_of_length_le (by omega)]
theorem bV_take (bs : Bytes) (o : Nat) : (bV bs).take o = bV (bs.take o) := by
  unfold bV
  rw [List.map_take]
def numV (l : List Nat) : List V := l.map fun (n : Nat) => V.int (n : Int)
def spLineCol (K : PySem.W.Frag) : SpH := fun vs H Q => ∃ (a : Addr) (bs : Bytes) (o : Nat), vs = [.ref a, .int o] ∧ SqL K H a (bV bs) ∧ ∀ H' m, Same H H' → H m = none → H' m = some (.lst (numV (OfDesk.placeOf bs o))) → Q (.ref m) H'
section
variable {P : Program} {w : World} {K : PySem.W.Frag} {mg : Str → Option Value} {base : Heap}
theorem scLineCol : FnScope ["text", "place", "line", "column", "byte"] ["text", "place"] (defScope sLineCol) := ⟨rfl, rfl, rfl, by decide +kernel, rfl, by decide +kernel, by decide +kernel⟩
theorem ok_linecol {f : Addr} {fd : FuncData} (F : Fun K "line_and_column" "line_and_column" sLineCol f fd) (c : Csts mg) : FnOkH P w K mg base 1 f fd ["text", "place"] (spLineCol K) := by
  refine F.okH scLineCol (fun vs H Q h => ?_) (fun cdv A outer s H vs Q y oy hr hh ho h => ?_)
  · obtain ⟨a, bs, o, rfl, _⟩ := h
    rfl
  · obtain ⟨a, bs, o, rfl, ha, k⟩ := h
    have nd := scLineCol.nd
    refine ⟨_, pss_cons (ps_set (i := 2) nd rfl (Or.inl rfl) pe_int)
      (pss_cons (ps_set (i := 3) nd rfl (Or.inl rfl) pe_int)
      (pss_cons (ps_forH PassesOwn.never ⟨(y, oy), List.mem_cons_self, hh, ho⟩ (pe_slice sl_list (pv 0) po_none (po_some (pv 1))) (pg_name (i := 4) nd rfl (Or.inl rfl))
        (pss_cons (ps_aug (i := 3) nd rfl (Or.inl rfl) pe_int ip_add)
        (pss_one (ps_if (pt_cmpR op_eq (pv 4) (pe_cst c.feed) (nomark _)) (pss_cons (ps_aug (i := 2) nd rfl (Or.inl rfl) pe_int ip_add) (pss_one (ps_set (i := 3) nd rfl (Or.inl rfl) pe_int))) pss_nil))))
      (pss_one (ps_ret (pe_lst (pa_cons (pv 2) (pa_cons (pv 3) pa_nil))))))), ?_⟩
    refine ⟨_, rfl, _, rfl, _, rfl, a, _, rfl, ha, fun p hp => ?_⟩
    rw [cutV_take, bV_take]
    rw [place_eq] at k
    have s1 := same_new (o := .lst (bV (bs.take o))) hp
    generalize bs.take o = t at *
    refine ⟨p, rfl, ⟨_, SqL.of upd_same⟩, ?_⟩
    refine for_list (xs := bV t) (fun i σ H' => ∃ v : Option V, σ = [some (.ref a), some (.int o), some (.int (lnOf (t.take i) : Nat)), some (.int (clOf (t.take i) : Nat)), v] ∧ H' = L2.upd H p (.lst (bV t))) ⟨none, rfl, rfl⟩ ?_ ?_ ?_
    · rintro i σ H1 hi ⟨v, rfl, rfl⟩
      exact SqL.of upd_same
    · rintro i x σ H1 hx ⟨v, rfl, rfl⟩
      obtain ⟨b, hb, rfl⟩ : ∃ b, t[i]? = some b ∧ x = .int (b.toNat : Int) := by
        unfold bV at hx
        rw [List.getElem?_map] at hx
        cases z : t[i]? with
        | none => rw [z] at hx; cases hx
        | some b => rw [z] at hx; exact ⟨b, rfl, (Option.some.inj hx).symm⟩
      refine ⟨_, rfl, _, _, rfl, rfl, _, rfl, rfl, _, rfl, ?_⟩
      rw [take_succ_at hb]
      by_cases h10 : b = 10
      · subst h10
        rw [decide_eq_true (show V.int (((10 : UInt8)).toNat : Int) = V.int 10 from rfl)]
        refine iteT ⟨_, rfl, _, _, rfl, rfl, some (.int (((10 : UInt8)).toNat : Int)), ?_, rfl⟩
        rw [ln_feed, cl_feed, Int.natCast_add]
        rfl
      · rw [decide_eq_false (show ¬ V.int (b.toNat : Int) = V.int 10 from fun z => u8_ne _ 10 h10 (V.int.inj z))]
        refine iteF ⟨some (.int (b.toNat : Int)), ?_, rfl⟩
        rw [ln_other _ h10, cl_other _ h10, Int.natCast_add]
        rfl
    · rintro σ H1 ⟨v, rfl, rfl⟩
      rw [bV_len, List.take_length]
      exact ⟨_, rfl, _, rfl, (by show 2 ≤ sizeLine; decide), fun q hq => k _ q (s1.trans (same_new hq)) (s1.free hq) upd_same⟩
end
end My
set_option Elab.async false
set_option linter.all false
set_option maxRecDepth 100000
set_option maxHeartbeats 4000000
namespace My
open PySem PySem.Spec PyProof.Rows L2
open Of (Bytes Outline Node)
abbrev sAnswerRead : Stmt := top 88
structure Parts where
  n : Addr
  t : Addr
  d : Addr
  ts : List Addr
def Parts.has (p : Parts) (b : Addr) : Prop := b = p.n ∨ b = p.t ∨ b = p.d ∨ b ∈ p.ts
def df (n : Addr) : List (Str × V) := [("nodes", .ref n)]
theorem df_nodes (n : Addr) : (df n).lookup ("nodes" : Str) = some (.ref n) := lk1
structure DeskAt (CD CN : Addr) (H : Hp) (a : Addr) (p : Parts) (l : Outline) : Prop where
  ob : ∃ dx, H a = some (.ins CD dx (df p.n))
  nn : NodesAt CN H p.n p.t p.d p.ts l
def Kept (H H' : Hp) (a : Addr) (p : Parts) : Prop := ∀ b o, H b = some o → b ≠ a → ¬ p.has b → H' b = some o
def FreshOr (H : Hp) (p p' : Parts) : Prop := ∀ b, p'.has b → p.has b ∨ H b = none
def Answers (CD CN : Addr) (H : Hp) (a : Addr) (p : Parts) (r : OfDesk.State × OfDesk.Answer) (Q : VK) : Prop :=
  ∀ H' m p', DeskAt CD CN H' a p' r.1 → Kept H H' a p → FreshOr H p p' → H m = none → H' m = some (.lst (intsV (OutlineNeutral.told r.2))) → Q (.ref m) H'
theorem DeskAt.ne {CD CN : Addr} {H : Hp} {a : Addr} {p : Parts} {l : Outline} (D : DeskAt CD CN H a p l) : ¬ p.has a := by
  obtain ⟨dx, e⟩ := D.ob
  rintro (h | h | h | h)
  · obtain ⟨dn, en⟩ := D.nn.ob
    rw [← h, e] at en
    injection en with en
    injection en with _ _ en
    cases en
  · rw [h, D.nn.tx] at e
    cases e
  · rw [h, D.nn.dp] at e
    cases e
  · obtain ⟨i, hi⟩ := List.getElem?_of_mem h
    obtain ⟨x, hx⟩ : ∃ x, l[i]? = some x := by
      have hl := Paired.len D.nn.pr
      have : i < p.ts.length := by
        rcases Nat.lt_or_ge i p.ts.length with z | z
        · exact z
        · rw [List.getElem?_eq_none z] at hi; cases hi
      exact ⟨_, List.getElem?_eq_getElem (by omega)⟩
    obtain ⟨b, hb, q, _⟩ := Paired.get D.nn.pr hx
    rw [hi] at hb
    injection hb with hb
    subst hb
    rw [e] at q
    cases q
theorem DeskAt.same {CD CN : Addr} {H H' : Hp} {a : Addr} {p : Parts} {l : Outline} (D : DeskAt CD CN H a p l) (s : Same H H') : DeskAt CD CN H' a p l :=
  ⟨let ⟨dx, e⟩ := D.ob; ⟨dx, s _ _ e⟩, D.nn.same s⟩
theorem Answers.stay {CD CN : Addr} {H : Hp} {a : Addr} {p : Parts} {l : Outline} {y : OfDesk.Answer} {Q : VK} (k : Answers CD CN H a p (l, y) Q) (D : DeskAt CD CN H a p l) {H' : Hp} {m : Addr} (s : Same H H') (nm : H m = none)
    (e : H' m = some (.lst (intsV (OutlineNeutral.told y)))) : Q (.ref m) H' := k H' m p (D.same s) (fun b o z _ _ => s b o z) (fun b z => .inl z) nm e
structure TD (K : PySem.W.Frag) (mg : Str → Option Value) (CD : Addr) : Prop where
  cl : Cls K CD
  n1 : NoAttr K CD "nodes"
  mgC : mg "Desk" = some (.ref CD)
structure DCsts (mg : Str → Option Value) : Prop where
  not : Cst mg "NOT_ALLOWED" (-1)
  no : Cst mg "NO_NODE" (-2)
  noText : Cst mg "NO_TEXT" (-3)
  room : Cst mg "NO_ROOM" (-4)
def spAnswerRead (K : PySem.W.Frag) (CD CN : Addr) : Sp := fun vs H Q _ => ∃ (a x : Addr) (p : Parts) (l : Outline) (f : Nat) (bs : Bytes), vs = [.ref a, .int f, .ref x] ∧ DeskAt CD CN H a p l ∧ SqL K H x (bV bs) ∧ bs.length ≤ 2048 ∧ Answers CD CN H a p (OfDesk.step l (.read f bs)) Q
section
variable {P : Program} {w : World} {K : PySem.W.Frag} {mg : Str → Option Value} {base : Heap}
theorem scAnswerRead : FnScope ["desk", "form", "text", "fault"] ["desk", "form", "text"] (defScope sAnswerRead) := ⟨rfl, rfl, rfl, by decide +kernel, rfl, by decide +kernel, by decide +kernel⟩
theorem ok_answerread {f CD CN CF fI f0 f1 fL : Addr} {fd fdI fd0 fd1 fdL : FuncData} (F : Fun K "answer_read" "answer_read" sAnswerRead f fd) (T : TD K mg CD) (c : Csts mg) (wc : WCsts mg) (dc : DCsts mg) (R : TF P w K mg base CF fI fdI)
    (G0 : FnOk P w K mg base (CX1 P w) 6 f0 fd0 ["text"] (spRead K CN CF Of.read0)) (b0 : Binds K fd0 ["text"] []) (m0 : mg "read_layout" = some (.ref f0)) (k0 : PySem.W.keepIn K (.ref f0) = true)
    (G1 : FnOk P w K mg base (CX1 P w) 6 f1 fd1 ["text"] (spRead K CN CF Of.read1)) (b1 : Binds K fd1 ["text"] []) (m1 : mg "read_braces" = some (.ref f1)) (k1 : PySem.W.keepIn K (.ref f1) = true)
    (GL : FnOkH P w K mg base 1 fL fdL ["text", "place"] (spLineCol K)) (bL : Binds K fdL ["text", "place"] []) (mL : mg "line_and_column" = some (.ref fL)) (kL : PySem.W.keepIn K (.ref fL) = true) :
    FnOk P w K mg base CX0 7 f fd ["desk", "form", "text"] (spAnswerRead K CD CN) := by
  refine F.ok scAnswerRead (fun vs H Q E h => ?_) (fun cdv A outer s H vs Q E hr h => ?_)
  · obtain ⟨a, x, p, l, f, bs, rfl, _⟩ := h
    rfl
  · obtain ⟨a, x, p, l, fm, bs, rfl, D, hx, hz, k⟩ := h
    have nd := scAnswerRead.nd
    refine ⟨_, pss_cons (ps_if (pt_cmpR op_notIn_seq (pv 1) (pe_tup (pa_cons (pe_cst wc.laid) (pa_cons (pe_cst wc.braces) pa_nil))) rfl) (pss_one (ps_ret (pe_lst (pa_cons (pe_cst dc.not) pa_nil)))) pss_nil)
      (pss_cons (ps_try ⟨rfl, rfl, rfl⟩ R.cls (by rfl) R.mgF nd (i := 3) rfl rfl
        (tb := fun σ E => sFld K (tVar 0) (tIf (tTest (tOp rEq (tVar 1) (tC (.int 0)))) (tAt σ (tCall (spRead K CN CF Of.read0) [] E (tCons (tVar 2) tNil))) (tAt σ (tCall (spRead K CN CF Of.read1) [] E (tCons (tVar 2) tNil)))) "nodes")
        (ts := fun x dx => tRet (tOp rCat (tLst (tCons (tXF x dx (tVar 3) "number") tNil)) (tCallH (spLineCol K) (tCons (tVar 2) (tCons (tXF x dx (tVar 3) "place") tNil)))))
        (fun E0 pl σ E hT => pss_one (ps_fld (pv 0) (pe_ifExp (pt_cmpR op_eq (pv 1) (pe_cst wc.laid) (nomark _))
          (pe_callAt G0 hr (by rfl) m0 k0 b0 .nil ⟨rfl, rfl, rfl⟩ hT (pa_cons (pv 2) pa_nil)) (pe_callAt G1 hr (by rfl) m1 k1 b1 .nil ⟨rfl, rfl, rfl⟩ hT (pa_cons (pv 2) pa_nil))) rfl))
        (fun y dx oy ho => pss_one (ps_ret (pe_op op_cat (pe_lst (pa_cons (pe_xf (C := CF) (fI := fI) (fs := ["number", "place"]) (List.mem_cons_self) ho R.cls (by decide +kernel) tl_number (pv 3) rfl) pa_nil))
          (pe_callH (y := y) (oy := oy) List.mem_cons_self rfl ho.data GL ((hr.hand _).mono (by decide)) (by rfl) mL kL bL (pa_cons (pv 2) (pa_cons (pe_xf (C := CF) (fI := fI) (fs := ["number", "place"]) (List.mem_cons_self) ho R.cls (by decide +kernel) tl_place (pv 3) rfl) pa_nil)))))))
      (pss_one (ps_ret (pe_lst (pa_cons pe_int pa_nil))))), ?_⟩
    refine ⟨_, rfl, (by show 2 ≤ sizeLine; decide), fun q hq => ⟨q, intsV [0, 1], rfl, .inr (SqT.of upd_same), rfl, flat_ints [0, 1], _, rfl, ?_⟩⟩
    have s1 := same_new (o := .tup [V.int 0, V.int 1]) hq
    generalize L2.upd H q (.tup [V.int 0, V.int 1]) = H1 at *
    obtain ⟨dxa, ea⟩ := D.ob
    rw [if_pos rfl, in_ints]
    -- how it goes on where the form is one
    have go : ∀ (fm : Nat) (rd : Bytes → Except Of.Fault Outline), Answers CD CN H a p (OfDesk.readAs l bs (rd bs)) Q →
        tSeq (tTry CF 3 (fun σ E => sFld K (tVar 0) (tAt σ (tCall (spRead K CN CF rd) [] E (tCons (tVar 2) tNil))) "nodes")
          (fun x dx => tRet (tOp rCat (tLst (tCons (tXF x dx (tVar 3) "number") tNil)) (tCallH (spLineCol K) (tCons (tVar 2) (tCons (tXF x dx (tVar 3) "place") tNil))))))
          (tRet (tLst (tCons (tC (.int 0)) tNil))) { nx := fun _ H' => Q .non H', rt := Q } [some (.ref a), some (.int fm), some (.ref x), none] H1 := fun fm rd k => by
      refine ⟨rfl, _, rfl, x, bs, rfl, s1.seq hx, hz, ?_⟩
      unfold OfDesk.readAs at k
      cases hrd : rd bs with
      | ok n =>
        rw [hrd] at k
        intro H2 n' s2 ⟨t', d', ts', N2, z1, z2, z3, z4⟩
        refine ⟨_, rfl, a, CD, dxa, _, rfl, s2 _ _ (s1 _ _ ea), T.cl, T.n1, (by show 1 < 1000; decide), (by show 1 ≤ sizeLine; decide), fun m hm => ?_⟩
        rw [show putF "nodes" (.ref n') (df p.n) = df n' from putF_eq] at hm ⊢
        have frees : ∀ b, (Parts.mk n' t' d' ts').has b → H1 b = none := fun b hb => by
          rcases hb with z | z | z | z
          · rw [z]; exact z1
          · rw [z]; exact z2
          · rw [z]; exact z3
          · exact z4 b z
        have nea : ∀ b, (Parts.mk n' t' d' ts').has b → b ≠ a := fun b hb z => by
          have := frees b hb
          rw [z, s1 _ _ ea] at this
          cases this
        have hma : m ≠ a := fun z => by rw [z, upd_same] at hm; cases hm
        have hm2 : H2 m = none := by rw [upd_ne hma] at hm; exact hm
        refine k _ m ⟨n', t', d', ts'⟩ ⟨⟨dxa, ?_⟩, ?_⟩ ?_ ?_ (s1.free (s2.free hm2)) upd_same
        · rw [upd_ne (fun z => hma z.symm), upd_same]
        · refine (N2.frame (H' := L2.upd H2 a (.ins CD dxa (df n'))) (fun o e => ?_) (fun o e => ?_) (fun o e => ?_) fun b hb o e => ?_).same (same_new hm)
          · rw [upd_ne (nea _ (.inl rfl))]; exact e
          · rw [upd_ne (nea _ (.inr (.inl rfl)))]; exact e
          · rw [upd_ne (nea _ (.inr (.inr (.inl rfl))))]; exact e
          · rw [upd_ne (nea _ (.inr (.inr (.inr hb))))]; exact e
        · intro b o e hb _
          have := same_new (o := .lst (intsV [0])) hm b o (by rw [upd_ne hb]; exact s2 _ _ (s1 _ _ e))
          exact this
        · exact fun b hb => .inr (s1.free (frees b hb))
      | error ff =>
        rw [hrd] at k
        intro dx H2 s2 ndx edx
        refine ⟨rfl, dx, rfl, fun y ny => ?_⟩
        have S2 := s1.trans s2
        refine ⟨_, rfl, rfl, _, _, edx, lk1, (by show 1 ≤ sizeLine; decide), fun m hm => ?_⟩
        have s3 := same_new (o := .lst [.int ff.code]) hm
        refine ⟨_, rfl, _, rfl, rfl, _, _, s3 _ _ edx, lk2 (by decide +kernel) lk1, x, bs, ff.at_, rfl, s3.seq (S2.seq hx), fun H4 m2 s4 nm2 em2 => ?_⟩
        refine ⟨m, m2, _, _, rfl, rfl, s4 _ _ upd_same, em2, (by show 1 + 2 ≤ sizeLine; decide), fun m3 hm3 => ?_⟩
        exact k.stay D (S2.trans (s3.trans (s4.trans (same_new hm3)))) (S2.free (s3.free (s4.free hm3))) upd_same
    unfold OfDesk.step at k
    dsimp only at k
    by_cases h0 : fm = 0
    · subst h0
      rw [if_pos rfl] at k
      rw [show ([0, 1] : List Int).contains ((0 : Nat) : Int) = true from rfl]
      refine iteF ⟨_, rfl, rfl, _, rfl, ?_⟩
      rw [decide_eq_true (show V.int ((0 : Nat) : Int) = V.int 0 from rfl)]
      exact iteT (go 0 _ k)
    · rw [if_neg h0] at k
      by_cases h1 : fm = 1
      · subst h1
        rw [if_pos rfl] at k
        rw [show ([0, 1] : List Int).contains ((1 : Nat) : Int) = true from rfl]
        refine iteF ⟨_, rfl, rfl, _, rfl, ?_⟩
        rw [decide_eq_false (show ¬ V.int ((1 : Nat) : Int) = V.int 0 from fun z => by injection z with z; exact absurd z (by decide))]
        exact iteF (go 1 _ k)
      · rw [if_neg h1] at k
        have e : ([0, 1] : List Int).contains (fm : Int) = false := by
          rw [List.contains_cons, List.contains_cons, List.contains_nil, beq_eq_false_iff_ne.mpr (show (fm : Int) ≠ 0 by omega), beq_eq_false_iff_ne.mpr (show (fm : Int) ≠ 1 by omega)]
          rfl
        rw [e]
        refine iteT ⟨(by show 1 ≤ sizeLine; decide), fun m hm => k.stay D (s1.trans (same_new hm)) (s1.free hm) upd_same⟩
end
end My
set_option Elab.async false
set_option linter.all false
set_option maxRecDepth 100000
set_option maxHeartbeats 4000000
namespace My
open PySem PySem.Spec PyProof.Rows L2
open Of (Bytes Outline Node)
abbrev sRow : Stmt := inClass (top 83) 0
abbrev sHasMore : Stmt := inClass (top 83) 1
abbrev sTakeNumber : Stmt := inClass (top 83) 2
abbrev sTakeText : Stmt := inClass (top 83) 3
abbrev sDesk : Stmt := inClass (top 84) 0
def rf (c : Addr) (k : Nat) : List (Str × V) := [("calls", .ref c), ("taken", .int (k : Int))]
theorem rf_calls (c : Addr) (k : Nat) : (rf c k).lookup ("calls" : Str) = some (.ref c) := lk1
theorem rf_taken (c : Addr) (k : Nat) : (rf c k).lookup ("taken" : Str) = some (.int (k : Int)) := lk2 (by decide +kernel) lk1
theorem rf_no {c : Addr} {k : Nat} {m : Str} (h1 : (m == ("calls" : Str)) = false) (h2 : (m == ("taken" : Str)) = false) : (rf c k).lookup m = none := lk2 h1 (lk2 h2 rfl)
theorem rf_put (c : Addr) (k j : Nat) : putF "taken" (.int (j : Int)) (rf c k) = rf c j := by
  unfold rf
  rw [putF_ne (by decide +kernel), putF_eq]
structure TR (K : PySem.W.Frag) (mg : Str → Option Value) (CR : Addr) : Prop where
  cl : Cls K CR
  n1 : NoAttr K CR "calls"
  n2 : NoAttr K CR "taken"
  mgC : mg "CallRow" = some (.ref CR)
theorem sqL_keep {K : PySem.W.Frag} {H H' : Hp} {c r : Addr} {C dx : Addr} {fs : List (Str × V)} {xs : List V} (h : SqL K H c xs) (hr : H r = some (.ins C dx fs)) (f : ∀ b o, H b = some o → b ≠ r → H' b = some o) : SqL K H' c xs := by
  rcases h with (h | ⟨o, h⟩) | h
  · exact .inl (.inl (f _ _ h fun z => by rw [z, hr] at h; cases h))
  · exact .inl (.inr ⟨o, f _ _ h fun z => by rw [z, hr] at h; cases h⟩)
  · exact .inr h
theorem sqL_upd {K : PySem.W.Frag} {H : Hp} {c r : Addr} {C dx : Addr} {fs : List (Str × V)} {o : HO} {xs : List V} (h : SqL K H c xs) (hr : H r = some (.ins C dx fs)) : SqL K (L2.upd H r o) c xs :=
  sqL_keep h hr fun b o e hb => by rw [upd_ne hb]; exact e
def spRow (CR : Addr) : Sp := fun vs H Q _ => ∃ (p dx c : Addr), vs = [.ref p, .ref c] ∧ H p = some (.ins CR dx []) ∧ Q .non (L2.upd H p (.ins CR dx (rf c 0)))
def spHasMore (K : PySem.W.Frag) (CR : Addr) : Sp := fun vs H Q _ => ∃ (r dx c : Addr) (k : Nat) (xs : List V), vs = [.ref r] ∧ H r = some (.ins CR dx (rf c k)) ∧ SqL K H c xs ∧ Q (.bl (decide (k < xs.length))) H
def spTakeNumber (K : PySem.W.Frag) (CR : Addr) : Sp := fun vs H Q _ => ∃ (r dx c : Addr) (k : Nat) (xs : List V) (v : V), vs = [.ref r] ∧ H r = some (.ins CR dx (rf c k)) ∧ SqL K H c xs ∧ xs[k]? = some v ∧ Q v (L2.upd H r (.ins CR dx (rf c (k + 1))))
def spTakeText (K : PySem.W.Frag) (CR : Addr) : Sp := fun vs H Q _ => ∃ (r dx c : Addr) (k n : Nat) (xs : List V), vs = [.ref r] ∧ H r = some (.ins CR dx (rf c k)) ∧ SqL K H c xs ∧ xs[k]? = some (.int (n : Int)) ∧ k + 1 + n ≤ xs.length ∧
  ∀ m H', H m = none → (∀ b o, H b = some o → b ≠ r → H' b = some o) → H' m = some (.lst ((xs.drop (k + 1)).take n)) → H' r = some (.ins CR dx (rf c (k + 1 + n))) → Q (.ref m) H'
section
variable {P : Program} {w : World} {K : PySem.W.Frag} {mg : Str → Option Value} {base : Heap}
theorem scRow : FnScope ["self", "calls"] ["self", "calls"] (defScope sRow) := ⟨rfl, rfl, rfl, by decide +kernel, rfl, by decide +kernel, by decide +kernel⟩
theorem ok_row {f CR : Addr} {fd : FuncData} (F : Fun K "__init__" "CallRow.__init__" sRow f fd) (T : TR K mg CR) : FnOk P w K mg base CX0 1 f fd ["self", "calls"] (spRow CR) := by
  refine F.ok scRow (fun vs H Q E h => ?_) (fun cdv A outer s H vs Q E hr h => ?_)
  · obtain ⟨p, dx, c, rfl, _⟩ := h
    rfl
  · obtain ⟨p, dx, c, rfl, hp, k⟩ := h
    refine ⟨_, pss_cons (ps_fld (pv 0) (pv 1) rfl) (pss_one (ps_fld (pv 0) pe_int rfl)), ?_⟩
    refine ⟨_, rfl, _, rfl, p, CR, dx, [], rfl, hp, T.cl, T.n1, (by show 0 < 1000; decide), ?_⟩
    refine ⟨_, rfl, p, CR, dx, _, rfl, upd_same, T.cl, T.n2, (by show 1 < 1000; decide), ?_⟩
    show Q .non _
    rw [putF_nil, putF_ne (by decide +kernel), putF_nil, upd_upd]
    exact k
theorem scHasMore : FnScope ["self"] ["self"] (defScope sHasMore) := ⟨rfl, rfl, rfl, by decide +kernel, rfl, by decide +kernel, by decide +kernel⟩
theorem ok_hasmore {f CR : Addr} {fd : FuncData} (F : Fun K "has_more" "CallRow.has_more" sHasMore f fd) (T : TR K mg CR) (B : Blt mg) : FnOk P w K mg base CX0 1 f fd ["self"] (spHasMore K CR) := by
  refine F.ok scHasMore (fun vs H Q E h => ?_) (fun cdv A outer s H vs Q E hr h => ?_)
  · obtain ⟨r, dx, c, k, xs, rfl, _⟩ := h
    rfl
  · obtain ⟨r, dx, c, k, xs, rfl, er, hx, q⟩ := h
    refine ⟨_, pss_one (ps_ret (pe_cmpR op_lt (pe_fld (pv 0) rfl) (pe_callB call_len_seq (by rfl) B.len PySem.boot_len (pa_cons (pe_fld (pv 0) rfl) pa_nil)) (nomark _))), ?_⟩
    refine ⟨_, rfl, r, CR, dx, _, _, rfl, er, T.cl, T.n2, rf_taken c k, _, rfl, r, CR, dx, _, _, rfl, er, T.cl, T.n1, rf_calls c k, c, _, rfl, .inl hx, _, _, rfl, rfl, ?_⟩
    show Q (.bl (decide ((k : Int) < (xs.length : Int)))) H
    rw [show decide ((k : Int) < (xs.length : Int)) = decide (k < xs.length) from by rw [decide_eq_decide]; omega]
    exact q
theorem scTakeNumber : FnScope ["self", "number"] ["self"] (defScope sTakeNumber) := ⟨rfl, rfl, rfl, by decide +kernel, rfl, by decide +kernel, by decide +kernel⟩
theorem ok_takenumber {f CR : Addr} {fd : FuncData} (F : Fun K "take_number" "CallRow.take_number" sTakeNumber f fd) (T : TR K mg CR) : FnOk P w K mg base CX0 1 f fd ["self"] (spTakeNumber K CR) := by
  refine F.ok scTakeNumber (fun vs H Q E h => ?_) (fun cdv A outer s H vs Q E hr h => ?_)
  · obtain ⟨r, dx, c, k, xs, v, rfl, _⟩ := h
    rfl
  · obtain ⟨r, dx, c, k, xs, v, rfl, er, hx, hv, q⟩ := h
    have nd := scTakeNumber.nd
    refine ⟨_, pss_cons (ps_set (i := 1) nd rfl (Or.inl rfl) (pe_ix ix_list (pe_fld (pv 0) rfl) (pe_fld (pv 0) rfl) (fun _ _ => rfl)))
      (pss_cons (ps_fldaug (pv 0) pe_int in_add) (pss_one (ps_ret (pv 1)))), ?_⟩
    refine ⟨_, rfl, r, CR, dx, _, _, rfl, er, T.cl, T.n1, rf_calls c k, _, rfl, r, CR, dx, _, _, rfl, er, T.cl, T.n2, rf_taken c k, c, _, _, _, rfl, rfl, hx, atI_nat hv, ?_⟩
    refine ⟨_, rfl, r, CR, dx, _, _, rfl, er, T.cl, T.n2, rf_taken c k, _, _, rfl, rfl, dx, _, er, (by show 2 < 1000; decide), _, rfl, ?_⟩
    rw [show (k : Int) + 1 = ((k + 1 : Nat) : Int) by omega, rf_put]
    exact q
theorem scTakeText : FnScope ["self", "length", "text"] ["self"] (defScope sTakeText) := ⟨rfl, rfl, rfl, by decide +kernel, rfl, by decide +kernel, by decide +kernel⟩
theorem ok_taketext {f CR fN : Addr} {fd fdN : FuncData} (F : Fun K "take_text" "CallRow.take_text" sTakeText f fd) (T : TR K mg CR) (GN : FnOk P w K mg base CX0 1 fN fdN ["self"] (spTakeNumber K CR)) (bN : Binds K fdN ["self"] []) (mN : Meth K CR "take_number" fN) : FnOk P w K mg base CX0 2 f fd ["self"] (spTakeText K CR) := by
  refine F.ok scTakeText (fun vs H Q E h => ?_) (fun cdv A outer s H vs Q E hr h => ?_)
  · obtain ⟨r, dx, c, k, n, xs, rfl, _⟩ := h
    rfl
  · obtain ⟨r, dx, c, k, n, xs, rfl, er, hx, hv, hle, q⟩ := h
    have nd := scTakeText.nd
    refine ⟨_, pss_cons (ps_set (i := 1) nd rfl (Or.inl rfl) (pe_meth0 (pv 0) T.cl mN GN hr bN .nil pass0))
      (pss_cons (ps_set (i := 2) nd rfl (Or.inl rfl) (pe_slice sl_list (pe_fld (pv 0) rfl) (po_some (pe_fld (pv 0) rfl)) (po_some (pe_op op_add (pe_fld (pv 0) rfl) (pv 1)))))
      (pss_cons (ps_fldaug (pv 0) (pv 1) in_add) (pss_one (ps_ret (pv 2))))), ?_⟩
    refine ⟨_, rfl, r, dx, _, rfl, er, rf_no (by decide +kernel) (by decide +kernel), r, dx, c, k, xs, _, rfl, er, hx, hv, ?_⟩
    have er1 : L2.upd H r (.ins CR dx (rf c (k + 1))) r = some (.ins CR dx (rf c (k + 1))) := upd_same
    have hx1 : SqL K (L2.upd H r (.ins CR dx (rf c (k + 1)))) c xs := sqL_upd hx er
    refine ⟨_, rfl, r, CR, dx, _, _, rfl, er1, T.cl, T.n1, rf_calls c _, _, rfl, r, CR, dx, _, _, rfl, er1, T.cl, T.n2, rf_taken c _, _, rfl, _, rfl, r, CR, dx, _, _, rfl, er1, T.cl, T.n2, rf_taken c _, _, rfl, _, _, rfl, rfl, _, rfl, c, xs, rfl, hx1, fun m hm => ?_⟩
    rw [show (((k + 1 : Nat) : Int)) + (n : Int) = ((k + 1 + n : Nat) : Int) by omega, cutV_nat xs (by omega) hle]
    have nrm : r ≠ m := ne_of_none er1 hm
    have er2 : L2.upd (L2.upd H r (.ins CR dx (rf c (k + 1)))) m (.lst (cut xs (k + 1) (k + 1 + n))) r = some (.ins CR dx (rf c (k + 1))) := by rw [upd_ne nrm]; exact er1
    refine ⟨_, rfl, r, CR, dx, _, _, rfl, er2, T.cl, T.n2, rf_taken c _, _, rfl, _, _, rfl, rfl, dx, _, er2, (by show 2 < 1000; decide), _, rfl, ?_⟩
    rw [show (((k + 1 : Nat) : Int)) + (n : Int) = ((k + 1 + n : Nat) : Int) by omega, rf_put]
    have hm0 : H m = none := by rw [upd_ne (Ne.symm nrm)] at hm; exact hm
    refine q m _ hm0 (fun b o e hb => ?_) ?_ upd_same
    · rw [upd_ne hb, upd_ne (ne_of_none e hm0), upd_ne hb]
      exact e
    · rw [upd_ne (Ne.symm nrm), upd_same]
      unfold cut
      rw [List.drop_take, show k + 1 + n - (k + 1) = n by omega]
end
end My
set_option Elab.async false
set_option linter.all false
set_option maxRecDepth 100000
set_option maxHeartbeats 4000000
namespace My
open PySem PySem.Spec PyProof.Rows L2
open Of (Bytes Outline Node)
abbrev sAnswers : Stmt := top 85
theorem size60 {n : Nat} (h : n ≤ 2000000) : n ≤ sizeLine := Nat.le_trans h (by decide)
theorem size60' {n : Nat} (h : n ≤ 2000000) : n < sizeLine := Nat.lt_of_le_of_lt h (by decide)
theorem intsV_app (a b : List Int) : intsV (a ++ b) = intsV a ++ intsV b := List.map_append
theorem intsV_len (a : List Int) : (intsV a).length = a.length := List.length_map _
theorem intsV_at {l : List Int} {i : Nat} {z : Int} (h : l[i]? = some z) : (intsV l)[i]? = some (.int z) := by
  unfold intsV
  rw [List.getElem?_map, h]
  rfl
def FzL (K : PySem.W.Frag) (H : Hp) (a : Addr) (xs : List V) : Prop := (∃ o, H a = some (.frz o (.lst xs))) ∨
  ∃ (o : Obj) (its : Array Value) (n : Nat), K.lookup a = some o ∧ o.cls = .type "list" ∧ o.dict = none ∧ o.data = .seq its n ∧ its.size ≤ sizeLine ∧ Vals xs its.toList
theorem FzL.seq {K : PySem.W.Frag} {H : Hp} {a : Addr} {xs : List V} (h : FzL K H a xs) : SqL K H a xs := h.imp (fun ⟨o, e⟩ => .inr ⟨o, e⟩) id
theorem FzL.keep {K : PySem.W.Frag} {H H' : Hp} {a : Addr} {xs : List V} (h : FzL K H a xs) (k : ∀ o u, H a = some (.frz o u) → H' a = some (.frz o u)) : FzL K H' a xs := h.imp (fun ⟨o, e⟩ => ⟨o, k _ _ e⟩) id
theorem FzL.same {K : PySem.W.Frag} {H H' : Hp} {a : Addr} {xs : List V} (h : FzL K H a xs) (s : Same H H') : FzL K H' a xs := h.keep fun o u e => s _ _ e
def spDesk (CD CN : Addr) : Sp := fun vs H Q _ => ∃ (a dx : Addr), vs = [.ref a] ∧ H a = some (.ins CD dx []) ∧ ∀ H' p, DeskAt CD CN H' a p [] → (∀ b o, H b = some o → b ≠ a → H' b = some o) → (∀ b, p.has b → H b = none) → Q .non H'
def spAnswerCall (K : PySem.W.Frag) (CD CN CR : Addr) : Sp := fun vs H Q _ => ∃ (a r dx c : Addr) (p : Parts) (l : Outline) (k k' : Nat) (cl : List Int) (op : OfDesk.Call), vs = [.ref a, .ref r] ∧ DeskAt CD CN H a p l ∧ GoodT l ∧ r ≠ a ∧ ¬ p.has r ∧
  H r = some (.ins CR dx (rf c k)) ∧ FzL K H c (intsV cl) ∧ At cl k k' op ∧
  ∀ H' m p', DeskAt CD CN H' a p' (OfDesk.step l op).1 → H' r = some (.ins CR dx (rf c k')) → (∀ b o, H b = some o → b ≠ a → b ≠ r → ¬ p.has b → H' b = some o) → FreshOr H p p' → H m = none → H' m = some (.lst (intsV (OutlineNeutral.told (OfDesk.step l op).2))) → Q (.ref m) H'
def spAnswers (K : PySem.W.Frag) : Sp := fun vs H Q _ => ∃ (c : Addr) (cl : List Int), vs = [.ref c] ∧ FzL K H c (intsV cl) ∧ PyWqande.answers_asked cl = true ∧ ∀ H' m, Same H H' → H m = none → H' m = some (.lst (intsV (PyWqande.answers cl))) → Q (.ref m) H'
section
variable {P : Program} {w : World} {K : PySem.W.Frag} {mg : Str → Option Value} {base : Heap}
theorem scDesk : FnScope ["self"] ["self"] (defScope sDesk) := ⟨rfl, rfl, rfl, by decide +kernel, rfl, by decide +kernel, by decide +kernel⟩
theorem ok_desk {f CD CN fN : Addr} {fd fdN : FuncData} (F : Fun K "__init__" "Desk.__init__" sDesk f fd) (T : TD K mg CD) (TN_ : TN K mg CN) (M : Mk K CN fN) (GN : FnOk P w K mg base CX0 1 fN fdN ["self"] (spNodes CN)) (bN : Binds K fdN ["self"] []) : FnOk P w K mg base CX0 3 f fd ["self"] (spDesk CD CN) := by
  refine F.ok scDesk (fun vs H Q E h => ?_) (fun cdv A outer s H vs Q E hr h => ?_)
  · obtain ⟨a, dx, rfl, _⟩ := h
    rfl
  · obtain ⟨a, dx, rfl, ha, k⟩ := h
    refine ⟨_, pss_one (ps_fld (pv 0) (pe_make0 M GN hr rfl TN_.mgC bN .nil pass0) rfl), ?_⟩
    refine fun n dn nn nd ne => ⟨n, dn, rfl, upd_same, fun H1 t d N1 t0 d0 fr1 => ⟨rfl, _, rfl, a, CD, dx, [], rfl, ?_, T.cl, T.n1, (by show 0 < 1000; decide), ?_⟩⟩
    · have nan : a ≠ n := ne_of_none ha nn
      have nad : a ≠ dn := ne_of_none ha nd
      exact fr1 a _ (by rw [upd_ne nan, upd_ne nad]; exact ha) nan
    · show Q .non _
      have nan : a ≠ n := ne_of_none ha nn
      have nad : a ≠ dn := ne_of_none ha nd
      have ha1 : H1 a = some (.ins CD dx []) := fr1 a _ (by rw [upd_ne nan, upd_ne nad]; exact ha) nan
      have ht : H t = none := by
        cases q : H t with
        | none => rfl
        | some o =>
          rw [upd_ne (ne_of_none q nn), upd_ne (ne_of_none q nd), q] at t0
          cases t0
      have hd : H d = none := by
        cases q : H d with
        | none => rfl
        | some o =>
          rw [upd_ne (ne_of_none q nn), upd_ne (ne_of_none q nd), q] at d0
          cases d0
      refine k _ ⟨n, t, d, []⟩ ⟨⟨dx, ?_⟩, ?_⟩ ?_ ?_
      · rw [upd_same, putF_nil]
        rfl
      · refine N1.frame (fun o e => ?_) (fun o e => ?_) (fun o e => ?_) (fun b hb => nomatch hb)
        · rw [upd_ne (Ne.symm nan)]; exact e
        · rw [upd_ne (fun z => by rw [z, ha] at ht; cases ht)]; exact e
        · rw [upd_ne (fun z => by rw [z, ha] at hd; cases hd)]; exact e
      · intro b o e hb
        rw [upd_ne hb]
        exact fr1 b o (by rw [upd_ne (ne_of_none e nn), upd_ne (ne_of_none e nd)]; exact e) (ne_of_none e nn)
      · intro b hb
        rcases hb with z | z | z | z
        · rw [z]; exact nn
        · rw [z]; exact ht
        · rw [z]; exact hd
        · cases z
theorem scAnswers : FnScope ["calls", "row", "desk", "answered", "answer"] ["calls"] (defScope sAnswers) := ⟨rfl, rfl, rfl, by decide +kernel, rfl, by decide +kernel, by decide +kernel⟩
theorem ok_answers {k0 : Nat} {f CD CN CR fR fD fM fA : Addr} {fd fdR fdD fdM fdA : FuncData} (F : Fun K "answers" "answers" sAnswers f fd) (B : Blt mg) (TR_ : TR K mg CR) (TD_ : TD K mg CD) (hk : 4 ≤ k0)
    (MR : Mk K CR fR) (GR : FnOk P w K mg base CX0 1 fR fdR ["self", "calls"] (spRow CR)) (bR : Binds K fdR ["self", "calls"] [])
    (MD : Mk K CD fD) (GD : FnOk P w K mg base CX0 3 fD fdD ["self"] (spDesk CD CN)) (bD : Binds K fdD ["self"] [])
    (GM : FnOk P w K mg base CX0 1 fM fdM ["self"] (spHasMore K CR)) (bM : Binds K fdM ["self"] []) (mM : Meth K CR "has_more" fM)
    (GA : FnOk P w K mg base CX0 k0 fA fdA ["desk", "row"] (spAnswerCall K CD CN CR)) (bA : Binds K fdA ["desk", "row"] []) (mA : mg "answer_call" = some (.ref fA)) (kA : PySem.W.keepIn K (.ref fA) = true) : FnOk P w K mg base CX0 (k0 + 1) f fd ["calls"] (spAnswers K) := by
  refine F.ok scAnswers (fun vs H Q E h => ?_) (fun cdv A outer s H vs Q E hr h => ?_)
  · obtain ⟨c, cl, rfl, _⟩ := h
    rfl
  · obtain ⟨c, cl, rfl, hc, hask, q⟩ := h
    have nd := scAnswers.nd
    refine ⟨_, pss_cons (ps_set (i := 1) nd rfl (Or.inl rfl) (pe_make MR GR (hr.mono (by omega)) rfl TR_.mgC bR .nil pass0 (pa_cons (pv 0) pa_nil)))
      (pss_cons (ps_set (i := 2) nd rfl (Or.inl rfl) (pe_make0 MD GD (hr.mono (by omega)) rfl TD_.mgC bD .nil pass0))
      (pss_cons (ps_set (i := 3) nd rfl (Or.inl rfl) (pe_lst pa_nil))
      (pss_cons (ps_while PassesOwn.never (pt_val (pe_meth0 (pv 1) TR_.cl mM GM (hr.mono (by omega)) bM .nil pass0))
        (pss_cons (ps_set (i := 4) nd rfl (Or.inl rfl) (pe_call GA hr rfl mA kA bA .nil pass0 (pa_cons (pv 2) (pa_cons (pv 1) pa_nil))))
        (pss_cons (ps_expr (pe_bm PySem.F.plainAttrs_list PySem.F.slot_list_append PySem.F.type_list_append mt_append (pv 3) (pa_cons (pe_callB call_len_seq (by rfl) B.len PySem.boot_len (pa_cons (pv 4) pa_nil)) pa_nil)))
        (pss_one (ps_expr (pe_bm PySem.F.plainAttrs_list PySem.F.slot_list_extend PySem.F.type_list_extend mt_extend (pv 3) (pa_cons (pv 4) pa_nil)))))))
      (pss_one (ps_ret (pv 3)))))), ?_⟩
    obtain ⟨cs0, d0, n0, as0, e0⟩ := answers_dec hask
    refine ⟨_, rfl, fun r dxr nr ndr ner => ⟨r, dxr, c, rfl, upd_same, rfl, ?_⟩⟩
    have s1 : Same H (L2.upd (L2.upd (L2.upd H dxr (.own r)) r (.ins CR dxr [])) r (.ins CR dxr (rf c 0))) := same_upd (same_upd (same_upd (fun _ _ e => e) ndr) nr) nr
    have er1 : L2.upd (L2.upd (L2.upd H dxr (.own r)) r (.ins CR dxr [])) r (.ins CR dxr (rf c 0)) r = some (.ins CR dxr (rf c 0)) := upd_same
    generalize L2.upd (L2.upd (L2.upd H dxr (.own r)) r (.ins CR dxr [])) r (.ins CR dxr (rf c 0)) = H1 at s1 er1 ⊢
    refine fun a dxa na nda nea => ⟨a, dxa, rfl, upd_same, fun H2 p2 D2 fr2 fresh2 => ⟨rfl, Nat.zero_le _, fun wr hw => ?_⟩⟩
    have k2 : ∀ b o, H1 b = some o → H2 b = some o := fun b o e => fr2 b o (by rw [upd_ne (ne_of_none e na), upd_ne (ne_of_none e nda)]; exact e) (ne_of_none e na)
    have s2 : Same H H2 := fun b o e => k2 b o (s1 b o e)
    have er2 := k2 _ _ er1
    have nra : r ≠ a := ne_of_none er1 na
    have f2 : ∀ b, p2.has b → H1 b = none := fun b hb => by
      have z := fresh2 b hb
      cases e : H1 b with
      | none => rfl
      | some o =>
        rw [upd_ne (ne_of_none e na), upd_ne (ne_of_none e nda), e] at z
        cases z
    have nwr : wr ≠ r := fun z => by rw [z, er2] at hw; cases hw
    have nwa : wr ≠ a := fun z => by
      obtain ⟨dx, e⟩ := D2.ob
      rw [z, e] at hw
      cases hw
    have hw0 : H wr = none := s2.free hw
    have ha0 : H a = none := s1.free na
    -- what stands is none of the parts
    have there : ∀ {H' : Hp} {p : Parts} {l : Outline}, DeskAt CD CN H' a p l → ∀ b, p.has b → H' b ≠ none := fun {H' p l} D b hb z => by
      rcases hb with h | h | h | h
      · obtain ⟨dn, en⟩ := D.nn.ob
        rw [h, en] at z; cases z
      · rw [h, D.nn.tx] at z; cases z
      · rw [h, D.nn.dp] at z; cases z
      · obtain ⟨i, hi⟩ := List.getElem?_of_mem h
        have hl := Paired.len D.nn.pr
        have hlt : i < p.ts.length := by
          rcases Nat.lt_or_ge i p.ts.length with z | z
          · exact z
          · rw [List.getElem?_eq_none z] at hi; cases hi
        have hx : l[i]? = some l[i] := List.getElem?_eq_getElem (by omega)
        obtain ⟨b', hb, q, _⟩ := Paired.get D.nn.pr hx
        rw [hi] at hb
        injection hb with hb
        subst hb
        rw [z] at q
        cases q
    refine ⟨fun m σ H' => ∃ (k : Nat) (cs : List (List (List Int))) (l : Outline) (p : Parts) (dn : List Int) (v : Option V), m = cl.length - k ∧ σ = [some (.ref c), some (.ref r), some (.ref a), some (.ref wr), v] ∧ Same H H' ∧ DeskAt CD CN H' a p l ∧ GoodT l ∧ H' r = some (.ins CR dxr (rf c k)) ∧
      H' wr = some (.lst (intsV dn)) ∧ (∀ b, p.has b → H b = none ∧ b ≠ r ∧ b ≠ wr) ∧ Dec cl k cs ∧ (∀ x ∈ cs, OutlineNeutral.asked1 (PyWqande.whole x) = true) ∧ cs.length ≤ 60 ∧ dn.length ≤ 20002 * (60 - cs.length) ∧ k ≤ cl.length ∧ dn ++ toldFrom l cs = PyWqande.answers cl,
      ⟨_, 0, cs0, [], p2, [], none, rfl, rfl, s2.trans (same_new hw), D2.same (same_new hw), GoodT.nil, same_new hw _ _ er2, upd_same, fun b hb => ⟨s1.free (f2 b hb), fun z => ?_, fun z => ?_⟩, d0, as0, n0, Nat.zero_le _, Nat.zero_le _, e0.symm⟩, ?_⟩
    · have := f2 b hb
      rw [z, er1] at this
      cases this
    · exact there D2 b hb (by rw [z]; exact hw)
    rintro m σ H3 ⟨k, cs, l, p, dn, v, rfl, rfl, s3, D3, g3, er3, ew3, f3, d3, as3, n3, l3, k3, e3⟩
    refine ⟨_, rfl, r, dxr, _, rfl, er3, rf_no (by decide +kernel) (by decide +kernel), r, dxr, c, k, intsV cl, rfl, er3, (hc.same s3).seq, _, rfl, ?_⟩
    rw [intsV_len]
    by_cases hk5 : k < cl.length
    · rw [decide_eq_true hk5]
      obtain ⟨c1, cs1, k1, op, rfl, hop, hat, hk1, hk2, d4⟩ := dec_step d3 hk5 as3
      rw [told_cons hop] at e3
      have al := ans_len g3.g op
      rw [List.length_cons] at n3 l3
      refine iteT ⟨fun σ' H' => ∃ (p : Parts) (v : Option V), σ' = [some (.ref c), some (.ref r), some (.ref a), some (.ref wr), v] ∧ Same H H' ∧ DeskAt CD CN H' a p (OfDesk.step l op).1 ∧ H' r = some (.ins CR dxr (rf c k1)) ∧
          H' wr = some (.lst (intsV (dn ++ (((OutlineNeutral.told (OfDesk.step l op).2).length : Int) :: OutlineNeutral.told (OfDesk.step l op).2)))) ∧ (∀ b, p.has b → H b = none ∧ b ≠ r ∧ b ≠ wr),
        fun σ' H' ⟨p', v', z1, z2, z3, z4, z5, z6⟩ => ⟨cl.length - k1, by omega, k1, cs1, _, p', _, v', rfl, z1, z2, z3, good_step g3 op, z4, z5, z6, d4, fun x hx => as3 x (List.mem_cons_of_mem _ hx), by omega, ?_, hk2, ?_⟩, ?_⟩
      · rw [List.length_append, List.length_cons]
        omega
      · rw [List.append_assoc, List.cons_append]
        exact e3
      refine ⟨_, rfl, _, rfl, a, r, dxr, c, p, l, k, k1, cl, op, rfl, D3, g3, nra, fun z => (f3 r z).2.1 rfl, er3, hc.same s3, hat, fun H4 m4 p4 D4 er4 fr4 fo4 nm4 em4 => ?_⟩
      have ew4 : H4 wr = some (.lst (intsV dn)) := fr4 wr _ ew3 nwa nwr fun z => (f3 wr z).2.2 rfl
      have s4 : Same H H4 := fun b o e => fr4 b o (s3 _ _ e) (fun z => by rw [z, ha0] at e; cases e) (fun z => by rw [z, nr] at e; cases e) fun z => by rw [(f3 b z).1] at e; cases e
      have nwm : wr ≠ m4 := ne_of_none ew3 nm4
      have f4 : ∀ b, p4.has b → H b = none ∧ b ≠ r ∧ b ≠ wr := fun b hb => by
        rcases fo4 b hb with z | z
        · exact f3 b z
        · exact ⟨s3.free z, (fun y => by rw [y, er3] at z; cases z), fun y => by rw [y, ew3] at z; cases z⟩
      refine ⟨_, rfl, .inl ⟨rfl, _, SqL.of ew4⟩, _, rfl, m4, _, rfl, .inl (SqL.of em4), wr, _, _, rfl, rfl, ew4, (by rw [intsV_len]; exact size60' (by omega)), ?_⟩
      rw [intsV_len]
      have em5 : L2.upd H4 wr (.lst (intsV dn ++ [.int ((OutlineNeutral.told (OfDesk.step l op).2).length : Int)])) m4 = some (.lst (intsV (OutlineNeutral.told (OfDesk.step l op).2))) := by rw [upd_ne (Ne.symm nwm)]; exact em4
      refine ⟨_, rfl, .inl ⟨rfl, _, SqL.of upd_same⟩, _, rfl, wr, m4, _, _, rfl, rfl, upd_same, em5, ?_, ?_⟩
      · rw [List.length_append, intsV_len, intsV_len, List.length_singleton]
        exact size60 (by omega)
      refine ⟨p4, some (.ref m4), rfl, same_upd (same_upd s4 hw0) hw0, ?_, ?_, ?_, f4⟩
      · have fr : ∀ b, b ≠ wr → ∀ o, H4 b = some o → L2.upd (L2.upd H4 wr (.lst (intsV dn ++ [.int ((OutlineNeutral.told (OfDesk.step l op).2).length : Int)]))) wr (.lst (intsV dn ++ [.int ((OutlineNeutral.told (OfDesk.step l op).2).length : Int)] ++ intsV (OutlineNeutral.told (OfDesk.step l op).2))) b = some o := fun b hb o e => by
          rw [upd_ne hb, upd_ne hb]; exact e
        obtain ⟨dx4, ed4⟩ := D4.ob
        exact ⟨⟨dx4, fr _ (Ne.symm nwa) _ ed4⟩, D4.nn.frame (fr _ (f4 _ (.inl rfl)).2.2) (fr _ (f4 _ (.inr (.inl rfl))).2.2) (fr _ (f4 _ (.inr (.inr (.inl rfl)))).2.2) fun b hb => fr _ (f4 _ (.inr (.inr (.inr hb)))).2.2⟩
      · rw [upd_ne (Ne.symm nwr), upd_ne (Ne.symm nwr)]
        exact er4
      · rw [upd_same, intsV_app, List.append_assoc]
        rfl
    · rw [decide_eq_false hk5]
      refine iteF ⟨_, rfl, ?_⟩
      have := dec_end d3 (by omega)
      subst this
      rw [told_nil, List.append_nil] at e3
      rw [e3] at ew3
      exact q H3 wr s3 hw0 ew3
end
end My
set_option Elab.async false
set_option linter.all false
set_option maxRecDepth 100000
set_option maxHeartbeats 4000000
namespace My
open PySem PySem.Spec PyProof.Rows L2
open Of (Bytes Outline Node)
abbrev sAnswerInit : Stmt := top 87
abbrev sAnswerWrite : Stmt := top 90
def spAnswerInit (CD CN : Addr) : Sp := fun vs H Q _ => ∃ (a : Addr) (p : Parts) (l : Outline), vs = [.ref a] ∧ DeskAt CD CN H a p l ∧ Answers CD CN H a p (OfDesk.step l .init) Q
def spAnswerWrite (CN : Addr) : Sp := fun vs H Q _ => ∃ (n t d : Addr) (ts : List Addr) (l : Outline) (f st : Nat), vs = [.ref n, .int f, .int st] ∧ NodesAt CN H n t d ts l ∧ Good l ∧ ∀ H' m, Same H H' → H m = none → H' m = some (.lst (intsV (OutlineNeutral.told (OfDesk.step l (.write f st)).2))) → Q (.ref m) H'
theorem bV_ints (t : Bytes) : bV t = intsV (t.map fun (c : UInt8) => (c.toNat : Int)) := by
  unfold bV intsV
  rw [List.map_map]
  rfl
section
variable {P : Program} {w : World} {K : PySem.W.Frag} {mg : Str → Option Value} {base : Heap}
theorem scAnswerInit : FnScope ["desk"] ["desk"] (defScope sAnswerInit) := ⟨rfl, rfl, rfl, by decide +kernel, rfl, by decide +kernel, by decide +kernel⟩
theorem ok_answerinit {f CD CN fN : Addr} {fd fdN : FuncData} (F : Fun K "answer_init" "answer_init" sAnswerInit f fd) (T : TD K mg CD) (TN_ : TN K mg CN) (M : Mk K CN fN) (GN : FnOk P w K mg base CX0 1 fN fdN ["self"] (spNodes CN)) (bN : Binds K fdN ["self"] []) : FnOk P w K mg base CX0 3 f fd ["desk"] (spAnswerInit CD CN) := by
  refine F.ok scAnswerInit (fun vs H Q E h => ?_) (fun cdv A outer s H vs Q E hr h => ?_)
  · obtain ⟨a, p, l, rfl, _⟩ := h
    rfl
  · obtain ⟨a, p, l, rfl, D, k⟩ := h
    obtain ⟨dxa, ha⟩ := D.ob
    refine ⟨_, pss_cons (ps_fld (pv 0) (pe_make0 M GN hr rfl TN_.mgC bN .nil pass0) rfl) (pss_one (ps_ret (pe_lst (pa_cons pe_int pa_nil)))), ?_⟩
    refine fun n dn nn nd ne => ⟨n, dn, rfl, upd_same, fun H1 t d N1 t0 d0 fr1 => ⟨rfl, _, rfl, a, CD, dxa, df p.n, rfl, ?_, T.cl, T.n1, (by show 1 < 1000; decide), ?_⟩⟩
    · have nan : a ≠ n := ne_of_none ha nn
      have nad : a ≠ dn := ne_of_none ha nd
      exact fr1 a _ (by rw [upd_ne nan, upd_ne nad]; exact ha) nan
    · have nan : a ≠ n := ne_of_none ha nn
      have nad : a ≠ dn := ne_of_none ha nd
      have ha1 : H1 a = some (.ins CD dxa (df p.n)) := fr1 a _ (by rw [upd_ne nan, upd_ne nad]; exact ha) nan
      have ht : H t = none := by
        cases q : H t with
        | none => rfl
        | some o =>
          rw [upd_ne (ne_of_none q nn), upd_ne (ne_of_none q nd), q] at t0
          cases t0
      have hd : H d = none := by
        cases q : H d with
        | none => rfl
        | some o =>
          rw [upd_ne (ne_of_none q nn), upd_ne (ne_of_none q nd), q] at d0
          cases d0
      rw [show putF "nodes" (.ref n) (df p.n) = df n from putF_eq]
      refine ⟨(by show 1 ≤ sizeLine; decide), fun m hm => ?_⟩
      have hma : m ≠ a := fun z => by rw [z, upd_same] at hm; cases hm
      have hm1 : H1 m = none := by rw [upd_ne hma] at hm; exact hm
      have s1 : Same H H1 := fun b o e => fr1 b o (by rw [upd_ne (ne_of_none e nn), upd_ne (ne_of_none e nd)]; exact e) (ne_of_none e nn)
      refine k _ m ⟨n, t, d, []⟩ ⟨⟨dxa, ?_⟩, ?_⟩ ?_ ?_ (s1.free hm1) upd_same
      · rw [upd_ne (Ne.symm hma), upd_same]
      · refine (N1.frame (H' := L2.upd H1 a (.ins CD dxa (df n))) (fun o e => ?_) (fun o e => ?_) (fun o e => ?_) (fun b hb => nomatch hb)).same (same_new hm)
        · rw [upd_ne (Ne.symm nan)]; exact e
        · rw [upd_ne (fun z => by rw [z, ha] at ht; cases ht)]; exact e
        · rw [upd_ne (fun z => by rw [z, ha] at hd; cases hd)]; exact e
      · intro b o e hb _
        exact same_new hm b o (by rw [upd_ne hb]; exact s1 b o e)
      · intro b hb
        rcases hb with z | z | z | z
        · rw [z]; exact .inr nn
        · rw [z]; exact .inr ht
        · rw [z]; exact .inr hd
        · cases z
theorem scAnswerWrite : FnScope ["nodes", "form", "step", "written"] ["nodes", "form", "step"] (defScope sAnswerWrite) := ⟨rfl, rfl, rfl, by decide +kernel, rfl, by decide +kernel, by decide +kernel⟩
theorem ok_answerwrite {f CN f0 f1 : Addr} {fd fd0 fd1 : FuncData} (F : Fun K "answer_write" "answer_write" sAnswerWrite f fd) (B : Blt mg) (wc : WCsts mg) (dc : DCsts mg)
    (G0 : FnOk P w K mg base CX0 3 f0 fd0 ["nodes", "step"] (spWriteLayout CN)) (b0 : Binds K fd0 ["nodes", "step"] []) (m0 : mg "write_layout" = some (.ref f0)) (k0 : PySem.W.keepIn K (.ref f0) = true)
    (G1 : FnOk P w K mg base CX0 3 f1 fd1 ["nodes"] (spWriteBraces CN)) (b1 : Binds K fd1 ["nodes"] []) (m1 : mg "write_braces" = some (.ref f1)) (k1 : PySem.W.keepIn K (.ref f1) = true) : FnOk P w K mg base CX0 4 f fd ["nodes", "form", "step"] (spAnswerWrite CN) := by
  refine F.ok scAnswerWrite (fun vs H Q E h => ?_) (fun cdv A outer s H vs Q E hr h => ?_)
  · obtain ⟨n, t, d, ts, l, f, st, rfl, _⟩ := h
    rfl
  · obtain ⟨n, t, d, ts, l, fm, st, rfl, nn, g, k⟩ := h
    have nd := scAnswerWrite.nd
    refine ⟨_, pss_cons (ps_if (PW.pt (pw_or (pt_cmpR op_notIn_seq (pv 1) (pe_tup (pa_cons (pe_cst wc.laid) (pa_cons (pe_cst wc.braces) pa_nil))) rfl) (pw_or (pt_cmpR op_lt (pv 2) pe_int (nomark _)) (pw_or1 (pt_cmpR op_gt (pv 2) pe_int (nomark _)))))) (pss_one (ps_ret (pe_lst (pa_cons (pe_cst dc.not) pa_nil)))) pss_nil)
      (pss_cons (ps_set (i := 3) nd rfl (Or.inl rfl) (pe_ifExp (pt_cmpR op_eq (pv 1) (pe_cst wc.laid) (nomark _)) (pe_call G0 hr rfl m0 k0 b0 .nil pass0 (pa_cons (pv 0) (pa_cons (pv 2) pa_nil))) (pe_call G1 hr rfl m1 k1 b1 .nil pass0 (pa_cons (pv 0) pa_nil))))
      (pss_one (ps_ret (pe_op op_cat (pe_lst (pa_cons (pe_callB call_len_seq (by rfl) B.len PySem.boot_len (pa_cons (pv 3) pa_nil)) pa_nil)) (pv 3))))), ?_⟩
    refine ⟨_, rfl, (by show 2 ≤ sizeLine; decide), fun q hq => ⟨q, intsV [0, 1], rfl, .inr (SqT.of upd_same), rfl, flat_ints [0, 1], _, rfl, ?_⟩⟩
    have s1 := same_new (o := .tup [V.int 0, V.int 1]) hq
    generalize L2.upd H q (.tup [V.int 0, V.int 1]) = H1 at *
    rw [if_pos rfl, in_ints]
    unfold OfDesk.step at k
    dsimp only at k
    have no : (1 < fm ∨ st = 0 ∨ 8 < st) → tRet (tLst (tCons (tC (.int (-1))) tNil)) { nx := fun _ H' => Q .non H', rt := Q } [some (.ref n), some (.int fm), some (.int st), none] H1 := fun h => by
      rw [if_pos h] at k
      exact ⟨(by show 1 ≤ sizeLine; decide), fun m hm => k _ m (s1.trans (same_new hm)) (s1.free hm) upd_same⟩
    have yes : ∀ {H2 : Hp} {m : Addr} {bs : Bytes}, (OutlineNeutral.told ⟨OfDesk.nat bs.length, [], bs⟩ : List Int) = OutlineNeutral.told (if 1 < fm ∨ st = 0 ∨ 8 < st then OfDesk.says (-1) else ⟨OfDesk.nat (if fm = 0 then Of.write0 st l else Of.write1 l).length, [], if fm = 0 then Of.write0 st l else Of.write1 l⟩) →
        bs.length ≤ 20000 → Same H1 H2 → H1 m = none → H2 m = some (.lst (bV bs)) →
        tRet (tOp rCat (tLst (tCons (tCB (fun xs H Q => ∃ p ys, xs = [V.ref p] ∧ (SqL K H p ys ∨ SqT K H p ys) ∧ Q (.int ys.length) H) (tCons (tVar 3) tNil)) tNil)) (tVar 3)) { nx := fun _ H' => Q .non H', rt := Q } [some (.ref n), some (.int fm), some (.int st), some (.ref m)] H2 := fun {H2 m bs} e hl s2 nm em => by
      refine ⟨_, rfl, m, _, rfl, .inl (SqL.of em), (by show 1 ≤ sizeLine; decide), fun q hq => ⟨_, rfl, q, m, _, _, rfl, rfl, upd_same, same_new hq _ _ em, ?_, fun m2 hm2 => ?_⟩⟩
      · rw [bV_len]
        show 1 + _ ≤ _
        exact small (by omega)
      · refine k _ m2 (s1.trans (s2.trans ((same_new hq).trans (same_new hm2)))) (s1.free (s2.free ((same_new hq).free hm2))) ?_
        rw [upd_same, ← e, bV_len, bV_ints]
        rfl
    by_cases h1 : 1 < fm
    · have e : ([0, 1] : List Int).contains (fm : Int) = false := by
        rw [List.contains_cons, List.contains_cons, List.contains_nil, beq_eq_false_iff_ne.mpr (show (fm : Int) ≠ 0 by omega), beq_eq_false_iff_ne.mpr (show (fm : Int) ≠ 1 by omega)]
        rfl
      rw [e]
      exact iteT (iteT (no (.inl h1)))
    · have e : ([0, 1] : List Int).contains (fm : Int) = true := by
        rcases (show fm = 0 ∨ fm = 1 by omega) with z | z <;> subst z <;> rfl
      rw [e]
      refine iteF ⟨_, rfl, _, _, rfl, rfl, _, rfl, ?_⟩
      by_cases h2 : st = 0
      · rw [decide_eq_true (show (st : Int) < 1 by omega)]
        exact iteT (iteT (no (.inr (.inl h2))))
      · rw [decide_eq_false (show ¬ (st : Int) < 1 by omega)]
        refine iteF ⟨_, rfl, _, _, rfl, rfl, _, rfl, ?_⟩
        by_cases h3 : 8 < st
        · rw [decide_eq_true (show (8 : Int) < (st : Int) by omega)]
          exact iteT (no (.inr (.inr h3)))
        · rw [decide_eq_false (show ¬ (8 : Int) < (st : Int) by omega)]
          have hn : ¬ (1 < fm ∨ st = 0 ∨ 8 < st) := fun z => by omega
          refine iteF ⟨_, rfl, rfl, _, rfl, ?_⟩
          by_cases h4 : fm = 0
          · rw [dec_nat fm 0 0 rfl, decide_eq_true h4]
            refine iteT ⟨_, rfl, _, rfl, n, t, d, ts, l, st, rfl, nn.same s1, g, by omega, fun H2 m s2 nm em => yes ?_ (write0_len g (by omega)) s2 nm em⟩
            rw [if_neg hn, if_pos h4]
          · rw [dec_nat fm 0 0 rfl, decide_eq_false h4]
            refine iteF ⟨_, rfl, n, t, d, ts, l, rfl, nn.same s1, g, fun H2 m s2 nm em => yes ?_ (write1_len g) s2 nm em⟩
            rw [if_neg hn, if_neg h4]
end
end My
set_option Elab.async false
set_option linter.all false
set_option maxRecDepth 100000
set_option maxHeartbeats 4000000
namespace My
open PySem PySem.Spec PyProof.Rows L2
open Of (Bytes Outline Node)
theorem Paired.takeP {α β : Type} {F : α → β → Prop} : ∀ {l : List α} {m : List β} (j : Nat), Paired F l m → Paired F (l.take j) (m.take j)
  | _, _, 0, _ => .nil
  | _, _, _ + 1, .nil => .nil
  | _, _, j + 1, .cons q r => .cons q (Paired.takeP j r)
theorem Paired.dropP {α β : Type} {F : α → β → Prop} : ∀ {l : List α} {m : List β} (j : Nat), Paired F l m → Paired F (l.drop j) (m.drop j)
  | _, _, 0, h => h
  | _, _, _ + 1, .nil => .nil
  | _, _, j + 1, .cons _ r => Paired.dropP j r
theorem Paired.appP {α β : Type} {F : α → β → Prop} {l2 : List α} {m2 : List β} (h : Paired F l2 m2) : ∀ {l : List α} {m : List β}, Paired F l m → Paired F (l ++ l2) (m ++ m2)
  | _, _, .nil => h
  | _, _, .cons q r => .cons q (Paired.appP h r)
theorem Paired.mapR {α β γ : Type} {F : α → β → Prop} {G : α → γ → Prop} {g : β → γ} (h : ∀ a b, F a b → G a (g b)) : ∀ {l : List α} {m : List β}, Paired F l m → Paired G l (m.map g)
  | _, _, .nil => .nil
  | _, _, .cons q r => .cons (h _ _ q) (Paired.mapR h r)
theorem depV_take (l : Outline) (j : Nat) : depV (l.take j) = (depV l).take j := List.map_take
theorem depV_drop (l : Outline) (j : Nat) : depV (l.drop j) = (depV l).drop j := List.map_drop
theorem depV_app (l m : Outline) : depV (l ++ m) = depV l ++ depV m := List.map_append
end My
set_option Elab.async false
set_option linter.all false
set_option maxRecDepth 100000
set_option maxHeartbeats 4000000
namespace My
open PySem PySem.Spec PyProof.Rows L2
open Of (Bytes Outline Node)
theorem parV_le (l : Outline) (i : Nat) : parV l i ≤ i := by
  unfold parV
  cases h : Of.parent l i with
  | none => exact Nat.zero_le _
  | some j => exact (parent_some h).1
def PathLeft (l : Outline) (i : Nat) (r : List Nat) : Nat → Prop
  | 0 => OfDesk.pathOf l 16 i = r
  | p + 1 => p < l.length ∧ OfDesk.pathOf l 16 i = OfDesk.pathOf l 16 p ++ r
theorem left_of {l : Outline} (g : Good l) {i p : Nat} {r : List Nat} (hp : p < l.length) (e : OfDesk.pathOf l 16 i = OfDesk.pathOf l 16 p ++ r) : PathLeft l i (p :: r) (parV l p) := by
  unfold parV
  cases h : Of.parent l p with
  | none =>
    rw [path_top h] at e
    exact e
  | some j =>
    have := (parent_some h).1
    refine ⟨by omega, ?_⟩
    rw [e, path_step g h, List.append_assoc]
    rfl
theorem PathLeft.len {l : Outline} {i : Nat} {r : List Nat} : ∀ {p : Nat}, PathLeft l i r p → r.length ≤ 17
  | 0, h => by
    have z := pathOf_len l 16 i
    have h : OfDesk.pathOf l 16 i = r := h
    rw [h] at z
    exact z
  | p + 1, h => by
    have z := pathOf_len l 16 i
    have h : OfDesk.pathOf l 16 i = OfDesk.pathOf l 16 p ++ r := h.2
    rw [h, List.length_append] at z
    omega
theorem left_of_first {l : Outline} (g : Good l) {i : Nat} (hi : i < l.length) : PathLeft l i [i] (parV l i) := by
  unfold parV
  cases h : Of.parent l i with
  | none => exact path_top h 16
  | some j =>
    have := (parent_some h).1
    exact ⟨by omega, path_step g h⟩
def spPathTo (C : Addr) : Sp := fun vs H Q _ => ∃ (a t d : Addr) (ts : List Addr) (l : Outline) (i : Nat), vs = [.ref a, .int i] ∧ NodesAt C H a t d ts l ∧ Good l ∧ i < l.length ∧ ∀ H' q, Same H H' → H q = none → H' q = some (.lst (natV (OfDesk.pathOf l 16 i))) → Q (.ref q) H'
section
variable {P : Program} {w : World} {K : PySem.W.Frag} {mg : Str → Option Value} {base : Heap}
theorem scPathTo : FnScope ["self", "i", "path", "parent"] ["self", "i"] (defScope sPathTo) := ⟨rfl, rfl, rfl, by decide +kernel, rfl, by decide +kernel, by decide +kernel⟩
theorem ok_pathto {f C fP : Addr} {fd fdP : FuncData} (F : Fun K "path_to" "Nodes.path_to" sPathTo f fd) (T : TN K mg C) (GP : FnOk P w K mg base CX0 1 fP fdP ["self", "i"] (spParentOf C)) (bP : Binds K fdP ["self", "i"] []) (mP : Meth K C "parent_of" fP) :
    FnOk P w K mg base CX0 2 f fd ["self", "i"] (spPathTo C) := by
  refine F.ok scPathTo (fun vs H Q E h => ?_) (fun cdv A outer s H vs Q E hr h => ?_)
  · obtain ⟨a, t, d, ts, l, i, rfl, _⟩ := h
    rfl
  · obtain ⟨a, t, d, ts, l, i, rfl, n, g, hi, k⟩ := h
    obtain ⟨dx, e⟩ := n.ob
    have hz : l.length ≤ 100 := Nat.le_trans g.len (by decide)
    have nd := scPathTo.nd
    refine ⟨_, pss_cons (ps_set (i := 2) nd rfl (Or.inl rfl) (pe_lst (pa_cons (pv 1) pa_nil)))
      (pss_cons (ps_set (i := 3) nd rfl (Or.inl rfl) (pe_meth (pv 0) T.cl mP GP hr bP .nil pass0 (pa_cons (pv 1) pa_nil)))
      (pss_cons (ps_while PassesOwn.never (pt_cmpR op_gt (pv 3) pe_int (nomark _))
        (pss_cons (ps_set (i := 2) nd rfl (Or.inl rfl) (pe_op op_cat (pe_lst (pa_cons (pe_op op_sub (pv 3) pe_int) pa_nil)) (pv 2)))
        (pss_one (ps_set (i := 3) nd rfl (Or.inl rfl) (pe_meth (pv 0) T.cl mP GP hr bP .nil pass0 (pa_cons (pe_op op_sub (pv 3) pe_int) pa_nil))))))
      (pss_one (ps_ret (pv 2))))), ?_⟩
    refine ⟨_, rfl, (by show 1 ≤ sizeLine; decide), fun q0 hq0 => ?_⟩
    have s0 := same_new (o := .lst [V.int (i : Int)]) hq0
    refine ⟨_, rfl, a, dx, _, rfl, s0 _ _ e, nf_no (by decide +kernel) (by decide +kernel), _, rfl, a, t, d, ts, l, i, rfl, n.same s0, hi, hz, ?_⟩
    refine ⟨fun m σ H' => ∃ (q : Addr) (pv : Nat) (r : List Nat), m = pv ∧ σ = [some (.ref a), some (.int i), some (.ref q), some (.int pv)] ∧ Same H H' ∧ H q = none ∧ H' q = some (.lst (natV r)) ∧ PathLeft l i r pv,
      ⟨_, q0, parV l i, [i], rfl, rfl, s0, hq0, upd_same, left_of_first g hi⟩, ?_⟩
    rintro m σ H1 ⟨q, pv', r, hm, rfl, s1, hq, eq, pl⟩
    subst hm
    refine ⟨_, rfl, _, _, rfl, rfl, _, rfl, ?_⟩
    cases m with
    | zero =>
      rw [decide_eq_false (show ¬ (0 : Int) < ((0 : Nat) : Int) by decide)]
      have pl : OfDesk.pathOf l 16 i = r := pl
      exact iteF ⟨_, rfl, k H1 q s1 hq (by rw [pl]; exact eq)⟩
    | succ p =>
      rw [decide_eq_true (show (0 : Int) < ((p + 1 : Nat) : Int) by omega)]
      obtain ⟨hp, pe⟩ : p < l.length ∧ OfDesk.pathOf l 16 i = OfDesk.pathOf l 16 p ++ r := pl
      have hrl := PathLeft.len (p := p + 1) ⟨hp, pe⟩
      have ep : ((p + 1 : Nat) : Int) - 1 = (p : Int) := by omega
      refine iteT ⟨fun σ' H' => ∃ q' : Addr, σ' = [some (.ref a), some (.int i), some (.ref q'), some (.int (parV l p : Nat))] ∧ Same H H' ∧ H q' = none ∧ H' q' = some (.lst (natV (p :: r))),
        fun σ' H' ⟨q', z1, z2, z3, z4⟩ => ⟨parV l p, by have := parV_le l p; omega, q', parV l p, p :: r, rfl, z1, z2, z3, z4, left_of g hp pe⟩, ?_⟩
      refine ⟨_, rfl, _, _, rfl, rfl, (by show 1 ≤ sizeLine; decide), fun q1 h1 => ⟨_, rfl, q1, q, _, _, rfl, rfl, upd_same, same_new h1 _ _ eq, ?_, fun q2 h2 => ?_⟩⟩
      · rw [natV_len]
        show 1 + r.length ≤ sizeLine
        exact small (by omega)
      · have s2 : Same H1 (L2.upd H1 q1 (.lst [V.int (((p + 1 : Nat) : Int) - 1)])) := same_new h1
        have s3 := s1.trans (s2.trans (same_new (o := .lst ([V.int (((p + 1 : Nat) : Int) - 1)] ++ natV r)) h2))
        refine ⟨_, rfl, a, dx, _, rfl, s3 _ _ e, nf_no (by decide +kernel) (by decide +kernel), _, rfl, _, _, rfl, rfl, a, t, d, ts, l, p, (by show [V.ref a, V.int (((p + 1 : Nat) : Int) - 1)] = _; rw [ep]), n.same s3, hp, hz, ?_⟩
        refine ⟨q2, rfl, s3, s1.free (s2.free h2), ?_⟩
        rw [upd_same]
        show some (HO.lst (V.int (((p + 1 : Nat) : Int) - 1) :: natV r)) = _
        rw [ep]
        rfl
end
def NewL (te : TE) (σ : L2.St) (H : Hp) (xs : List V) : Prop := ∀ H1, Same H H1 → ∀ Q : VK, (∀ p H2, Same H1 H2 → H1 p = none → H2 p = some (.lst xs) → Q (.ref p) H2) → te σ H1 Q
theorem NewL.cat {t1 t2 : TE} {σ : L2.St} {H : Hp} {xs ys : List V} (h1 : NewL t1 σ H xs) (h2 : NewL t2 σ H ys) (hz : xs.length + ys.length ≤ sizeLine) : NewL (tOp rCat t1 t2) σ H (xs ++ ys) := by
  intro H1 s1 Q k
  refine h1 H1 s1 _ fun p H2 s2 np ep => ?_
  refine h2 H2 (s1.trans s2) _ fun q H3 s3 nq eq => ?_
  exact ⟨p, q, xs, ys, rfl, rfl, s3 _ _ ep, eq, hz, fun r hr => k r _ (s2.trans (s3.trans (same_new hr))) (s2.free (s3.free hr)) upd_same⟩
def PartIs (tp : TO) (σ : L2.St) (i : Option Int) : Prop := ∀ H Q, Q i H → tp σ H Q
theorem part_none {σ : L2.St} : PartIs tNoPart σ none := fun H Q h => h
theorem part_var {σ : L2.St} {j : Nat} {i : Int} (h : σ[j]? = some (some (.int i))) : PartIs (tPart (tVar j)) σ (some i) := fun H Q q => ⟨_, h, i, rfl, q⟩
theorem NewL.slice {K : PySem.W.Frag} {σ : L2.St} {H : Hp} {C a dx t : Addr} {fs : List (Str × V)} {f : Str} {xs ys : List V} {tl th : TO} {lo hi : Option Int} (h0 : σ[0]? = some (some (.ref a))) (e : H a = some (.ins C dx fs)) (cl : Cls K C) (nf : NoAttr K C f) (lk : fs.lookup f = some (.ref t)) (ht : H t = some (.lst xs))
    (hl : PartIs tl σ lo) (hh : PartIs th σ hi) (ec : cutV xs lo hi = ys) : NewL (tSl (rSlL K) (tFld K (tVar 0) f) tl th) σ H ys := by
  intro H1 s1 Q k
  refine ⟨_, h0, a, C, dx, _, _, rfl, s1 _ _ e, cl, nf, lk, ?_⟩
  refine hl _ _ (hh _ _ ⟨t, xs, rfl, SqL.of (s1 _ _ ht), fun m hm => k m _ (same_new hm) hm ?_⟩)
  rw [upd_same, ec]
theorem NodesAt.remade {C : Addr} {H H' : Hp} {a t d p1 p2 dx : Addr} {ts ts' : List Addr} {l l' : Outline} (n : NodesAt C H a t d ts l) (e : H' a = some (.ins C dx (nf p1 p2))) (n1 : H p1 = none) (n2 : H p2 = none) (ne : p1 ≠ p2) (e1 : H' p1 = some (.lst (ts'.map V.ref))) (e2 : H' p2 = some (.lst (depV l')))
    (kp : ∀ b o, H b = some o → b ≠ a → H' b = some o) (pr : Paired (fun b (x : Node) => H b = some (.lst (bV x.text)) ∧ b ≠ t ∧ b ≠ d) ts' l') : NodesAt C H' a p1 p2 ts' l' := by
  obtain ⟨dx0, e0⟩ := n.ob
  exact ⟨⟨dx, e⟩, e1, e2, ne, L2.Paired.mapP pr fun b x q => ⟨kp b _ q.1 (fun z => by have y := q.1; rw [z, e0] at y; cases y), (fun z => by have y := q.1; rw [z, n1] at y; cases y), (fun z => by have y := q.1; rw [z, n2] at y; cases y)⟩⟩
def Anew (C : Addr) (H : Hp) (a : Addr) (ts : List Addr) (l' : Outline) (Q : VK) : Prop := ∀ H' t' d' ts', NodesAt C H' a t' d' ts' l' → H t' = none → H d' = none → (∀ b ∈ ts', b ∈ ts) → (∀ b o, H b = some o → b ≠ a → H' b = some o) → Q .non H'
theorem nf_put1 (t d p : Addr) : putF "texts" (.ref p) (nf t d) = nf p d := putF_eq
theorem nf_put2 (t d p : Addr) : putF "depths" (.ref p) (nf t d) = nf t p := by
  unfold nf
  rw [putF_ne (by decide +kernel), putF_eq]
theorem two_rows {K : PySem.W.Frag} {mg : Str → Option Value} {C a t d dx : Addr} {ts ts' : List Addr} {l l' : Outline} {σ : L2.St} {H : Hp} {Q : VK} {t1 t2 : TE} (T : TN K mg C) (n : NodesAt C H a t d ts l) (e : H a = some (.ins C dx (nf t d))) (h0 : σ[0]? = some (some (.ref a)))
    (E1 : NewL t1 σ H (ts'.map V.ref)) (E2 : ∀ p H1, H1 a = some (.ins C dx (nf p d)) → H1 d = some (.lst (depV l)) → NewL t2 σ H1 (depV l'))
    (pr : Paired (fun b (x : Node) => H b = some (.lst (bV x.text)) ∧ b ≠ t ∧ b ≠ d) ts' l') (sub : ∀ b ∈ ts', b ∈ ts) (k : Anew C H a ts l' Q) :
    tSeq (sFld K (tVar 0) t1 "texts") (sFld K (tVar 0) t2 "depths") { nx := fun _ H' => Q .non H', rt := Q } σ H := by
  refine E1 H (Same.refl H) _ fun p1 H1 s1 n1 e1 => ?_
  refine ⟨_, h0, a, C, dx, _, rfl, s1 _ _ e, T.cl, T.n1, (by show 2 < 1000; decide), ?_⟩
  rw [nf_put1]
  have ha1 : L2.upd H1 a (.ins C dx (nf p1 d)) a = some (.ins C dx (nf p1 d)) := upd_same
  have nda : d ≠ a := Ne.symm (ne_of e n.dp (by intro z; cases z))
  have hd1 : L2.upd H1 a (.ins C dx (nf p1 d)) d = some (.lst (depV l)) := by rw [upd_ne nda]; exact s1 _ _ n.dp
  refine E2 p1 _ ha1 hd1 _ (Same.refl _) _ fun p2 H2 s2 n2 e2 => ?_
  refine ⟨_, h0, a, C, dx, _, rfl, s2 _ _ ha1, T.cl, T.n2, (by show 2 < 1000; decide), ?_⟩
  rw [nf_put2]
  have np1a : p1 ≠ a := fun z => by rw [z, e] at n1; cases n1
  have np2a : p2 ≠ a := fun z => by rw [z, ha1] at n2; cases n2
  have hp1 : L2.upd H1 a (.ins C dx (nf p1 d)) p1 = some (.lst (ts'.map V.ref)) := by rw [upd_ne np1a]; exact e1
  have n12 : p1 ≠ p2 := fun z => by rw [← z, hp1] at n2; cases n2
  have np2 : H p2 = none := s1.free (by rw [upd_ne np2a] at n2; exact n2)
  have kp : ∀ b o, H b = some o → b ≠ a → L2.upd H2 a (.ins C dx (nf p1 p2)) b = some o := fun b o eb hb => by
    rw [upd_ne hb]
    refine s2 _ _ ?_
    rw [upd_ne hb]
    exact s1 _ _ eb
  refine k _ p1 p2 ts' (n.remade upd_same n1 np2 n12 ?_ ?_ kp pr) n1 np2 sub kp
  · rw [upd_ne np1a]; exact s2 _ _ hp1
  · rw [upd_ne np2a]; exact e2
def spTakeOut (C : Addr) : Sp := fun vs H Q _ => ∃ (a t d : Addr) (ts : List Addr) (l : Outline) (i e : Nat), vs = [.ref a, .int i, .int e] ∧ NodesAt C H a t d ts l ∧ i ≤ e ∧ e ≤ l.length ∧ l.length ≤ 100 ∧ Anew C H a ts (l.take i ++ l.drop e) Q
def spMoveBehind (C : Addr) : Sp := fun vs H Q _ => ∃ (a t d : Addr) (ts : List Addr) (l : Outline) (i m e : Nat), vs = [.ref a, .int i, .int m, .int e] ∧ NodesAt C H a t d ts l ∧ i ≤ m ∧ m ≤ e ∧ e ≤ l.length ∧ l.length ≤ 100 ∧ Anew C H a ts (l.take i ++ cut l m e ++ cut l i m ++ l.drop e) Q
theorem cut_mem {α : Type} {l : List α} {i j : Nat} {x : α} (h : x ∈ cut l i j) : x ∈ l := List.mem_of_mem_take (List.mem_of_mem_drop h)
section
variable {P : Program} {w : World} {K : PySem.W.Frag} {mg : Str → Option Value} {base : Heap}
theorem scTakeOut : FnScope ["self", "start", "end"] ["self", "start", "end"] (defScope sTakeOut) := ⟨rfl, rfl, rfl, by decide +kernel, rfl, by decide +kernel, by decide +kernel⟩
theorem ok_takeout {f C : Addr} {fd : FuncData} (F : Fun K "take_out" "Nodes.take_out" sTakeOut f fd) (T : TN K mg C) : FnOk P w K mg base CX0 1 f fd ["self", "start", "end"] (spTakeOut C) := by
  refine F.ok scTakeOut (fun vs H Q E h => ?_) (fun cdv A outer s H vs Q E hr h => ?_)
  · obtain ⟨a, t, d, ts, l, i, e, rfl, _⟩ := h
    rfl
  · obtain ⟨a, t, d, ts, l, i, j, rfl, n, hij, hj, hz, k⟩ := h
    obtain ⟨dx, e⟩ := n.ob
    have lt := Paired.len n.pr
    have lm : (ts.map V.ref).length = ts.length := List.length_map _
    have ld := depV_len l
    refine ⟨_, pss_cons (ps_fld (pv 0) (pe_op op_cat (pe_slice sl_list (pe_fld (pv 0) rfl) po_none (po_some (pv 1))) (pe_slice sl_list (pe_fld (pv 0) rfl) (po_some (pv 2)) po_none)) rfl)
      (pss_one (ps_fld (pv 0) (pe_op op_cat (pe_slice sl_list (pe_fld (pv 0) rfl) po_none (po_some (pv 1))) (pe_slice sl_list (pe_fld (pv 0) rfl) (po_some (pv 2)) po_none)) rfl)), ?_⟩
    refine two_rows (ts' := ts.take i ++ ts.drop j) (l' := l.take i ++ l.drop j) T n e rfl ?_ (fun p H1 ea ed => ?_) (Paired.appP (Paired.dropP j n.pr) (Paired.takeP i n.pr)) (fun b hb => (List.mem_append.mp hb).elim List.mem_of_mem_take List.mem_of_mem_drop) k
    · rw [List.map_append, List.map_take, List.map_drop]
      exact NewL.cat (NewL.slice rfl e T.cl T.n1 (nf_texts t d) n.tx part_none (part_var rfl) (cutV_to _ (by omega))) (NewL.slice rfl e T.cl T.n1 (nf_texts t d) n.tx (part_var rfl) part_none (cutV_from _ (by omega)))
        (by rw [List.length_take, List.length_drop]; exact small (by omega))
    · rw [depV_app, depV_take, depV_drop]
      exact NewL.cat (NewL.slice rfl ea T.cl T.n2 (nf_depths p d) ed part_none (part_var rfl) (cutV_to _ (by omega))) (NewL.slice rfl ea T.cl T.n2 (nf_depths p d) ed (part_var rfl) part_none (cutV_from _ (by omega)))
        (by rw [List.length_take, List.length_drop]; exact small (by omega))
theorem scMoveBehind : FnScope ["self", "start", "middle", "end"] ["self", "start", "middle", "end"] (defScope sMoveBehind) := ⟨rfl, rfl, rfl, by decide +kernel, rfl, by decide +kernel, by decide +kernel⟩
theorem depV_cut (l : Outline) (i j : Nat) : depV (cut l i j) = cut (depV l) i j := map_cut _ l i j
theorem cut_len {α : Type} (l : List α) (i j : Nat) : (cut l i j).length ≤ l.length := by
  unfold cut
  rw [List.length_drop, List.length_take]
  omega
theorem ok_movebehind {f C : Addr} {fd : FuncData} (F : Fun K "move_behind" "Nodes.move_behind" sMoveBehind f fd) (T : TN K mg C) : FnOk P w K mg base CX0 1 f fd ["self", "start", "middle", "end"] (spMoveBehind C) := by
  refine F.ok scMoveBehind (fun vs H Q E h => ?_) (fun cdv A outer s H vs Q E hr h => ?_)
  · obtain ⟨a, t, d, ts, l, i, m, e, rfl, _⟩ := h
    rfl
  · obtain ⟨a, t, d, ts, l, i, m, j, rfl, n, him, hmj, hj, hz, k⟩ := h
    obtain ⟨dx, e⟩ := n.ob
    have lt := Paired.len n.pr
    have lm : (ts.map V.ref).length = ts.length := List.length_map _
    have ld := depV_len l
    refine ⟨_, pss_cons (ps_fld (pv 0) (pe_op op_cat (pe_op op_cat (pe_op op_cat (pe_slice sl_list (pe_fld (pv 0) rfl) po_none (po_some (pv 1))) (pe_slice sl_list (pe_fld (pv 0) rfl) (po_some (pv 2)) (po_some (pv 3)))) (pe_slice sl_list (pe_fld (pv 0) rfl) (po_some (pv 1)) (po_some (pv 2)))) (pe_slice sl_list (pe_fld (pv 0) rfl) (po_some (pv 3)) po_none)) rfl)
      (pss_one (ps_fld (pv 0) (pe_op op_cat (pe_op op_cat (pe_op op_cat (pe_slice sl_list (pe_fld (pv 0) rfl) po_none (po_some (pv 1))) (pe_slice sl_list (pe_fld (pv 0) rfl) (po_some (pv 2)) (po_some (pv 3)))) (pe_slice sl_list (pe_fld (pv 0) rfl) (po_some (pv 1)) (po_some (pv 2)))) (pe_slice sl_list (pe_fld (pv 0) rfl) (po_some (pv 3)) po_none)) rfl)), ?_⟩
    refine two_rows (ts' := ts.take i ++ cut ts m j ++ cut ts i m ++ ts.drop j) (l' := l.take i ++ cut l m j ++ cut l i m ++ l.drop j) T n e rfl ?_ (fun p H1 ea ed => ?_)
      (Paired.appP (Paired.dropP j n.pr) (Paired.appP (Paired.cut i m n.pr) (Paired.appP (Paired.cut m j n.pr) (Paired.takeP i n.pr)))) (fun b hb => ?_) k
    · rw [List.map_append, List.map_append, List.map_append, List.map_take, List.map_drop, map_cut, map_cut]
      have z1 := cut_len (ts.map V.ref) m j
      have z2 := cut_len (ts.map V.ref) i m
      exact NewL.cat (NewL.cat (NewL.cat (NewL.slice rfl e T.cl T.n1 (nf_texts t d) n.tx part_none (part_var rfl) (cutV_to _ (by omega))) (NewL.slice rfl e T.cl T.n1 (nf_texts t d) n.tx (part_var rfl) (part_var rfl) (cutV_nat _ (by omega) (by omega))) (by rw [List.length_take]; exact small (by omega)))
        (NewL.slice rfl e T.cl T.n1 (nf_texts t d) n.tx (part_var rfl) (part_var rfl) (cutV_nat _ (by omega) (by omega))) (by rw [List.length_append, List.length_take]; exact small (by omega)))
        (NewL.slice rfl e T.cl T.n1 (nf_texts t d) n.tx (part_var rfl) part_none (cutV_from _ (by omega))) (by rw [List.length_append, List.length_append, List.length_take, List.length_drop]; exact small (by omega))
    · rw [depV_app, depV_app, depV_app, depV_take, depV_drop, depV_cut, depV_cut]
      have z1 := cut_len (depV l) m j
      have z2 := cut_len (depV l) i m
      exact NewL.cat (NewL.cat (NewL.cat (NewL.slice rfl ea T.cl T.n2 (nf_depths p d) ed part_none (part_var rfl) (cutV_to _ (by omega))) (NewL.slice rfl ea T.cl T.n2 (nf_depths p d) ed (part_var rfl) (part_var rfl) (cutV_nat _ (by omega) (by omega))) (by rw [List.length_take]; exact small (by omega)))
        (NewL.slice rfl ea T.cl T.n2 (nf_depths p d) ed (part_var rfl) (part_var rfl) (cutV_nat _ (by omega) (by omega))) (by rw [List.length_append, List.length_take]; exact small (by omega)))
        (NewL.slice rfl ea T.cl T.n2 (nf_depths p d) ed (part_var rfl) part_none (cutV_from _ (by omega))) (by rw [List.length_append, List.length_append, List.length_take, List.length_drop]; exact small (by omega))
    · rcases List.mem_append.mp hb with hb | hb
      · rcases List.mem_append.mp hb with hb | hb
        · rcases List.mem_append.mp hb with hb | hb
          · exact List.mem_of_mem_take hb
          · exact cut_mem hb
        · exact cut_mem hb
      · exact List.mem_of_mem_drop hb
end
end My
set_option Elab.async false
set_option linter.all false
set_option maxRecDepth 100000
set_option maxHeartbeats 4000000
namespace My
open PySem PySem.Spec PyProof.Rows L2
open Of (Bytes Outline Node)
def dsI (l : Outline) : List Int := l.map fun x => (x.depth : Int)
theorem depV_ds (l : Outline) : depV l = (dsI l).map V.int := by
  unfold depV dsI
  rw [List.map_map]
  rfl
theorem dsI_len (l : Outline) : (dsI l).length = l.length := List.length_map _
def shI (ds : List Int) (i e : Nat) (b : Int) : List Int := ds.take i ++ ((cut ds i e).map (fun x => x + b) ++ ds.drop e)
theorem shI_start (ds : List Int) (i : Nat) (b : Int) : shI ds i i b = ds := by
  unfold shI cut
  rw [List.drop_eq_nil_of_le (by rw [List.length_take]; omega)]
  exact List.take_append_drop i ds
theorem cut_more {α : Type} {l : List α} {i j : Nat} {x : α} (hij : i ≤ j) (h : l[j]? = some x) : cut l i (j + 1) = cut l i j ++ [x] := by
  have hj : j < l.length := (List.getElem?_eq_some_iff.mp h).1
  unfold cut
  rw [List.take_add_one, h, List.drop_append_of_le_length (by rw [List.length_take]; omega)]
  rfl
theorem shI_len0 {ds : List Int} {i e : Nat} (b : Int) (h1 : i ≤ e) (h2 : e ≤ ds.length) : (ds.take i ++ (cut ds i e).map (fun x => x + b)).length = e := by
  unfold cut
  rw [List.length_append, List.length_map, List.length_take, List.length_drop, List.length_take]
  omega
theorem shI_split {ds : List Int} {i e : Nat} {x : Int} (b : Int) (h : ds[e]? = some x) : shI ds i e b = (ds.take i ++ (cut ds i e).map (fun x => x + b)) ++ x :: ds.drop (e + 1) := by
  unfold shI
  obtain ⟨he, hx⟩ := List.getElem?_eq_some_iff.mp h
  rw [List.drop_eq_getElem_cons he, hx, List.append_assoc]
theorem shI_at {ds : List Int} {i e : Nat} {x b : Int} (h1 : i ≤ e) (h : ds[e]? = some x) : (shI ds i e b)[e]? = some x := by
  have he : e < ds.length := (List.getElem?_eq_some_iff.mp h).1
  rw [shI_split b h, List.getElem?_append_right (by rw [shI_len0 b h1 (by omega)]; exact Nat.le_refl _), shI_len0 b h1 (by omega), Nat.sub_self]
  rfl
theorem shI_set {ds : List Int} {i e : Nat} {x b : Int} (h1 : i ≤ e) (h : ds[e]? = some x) : (shI ds i e b).set e (x + b) = shI ds i (e + 1) b := by
  have he : e < ds.length := (List.getElem?_eq_some_iff.mp h).1
  have hl := shI_len0 (ds := ds) b h1 (by omega)
  rw [shI_split b h, List.set_append_right _ _ (by rw [hl]; exact Nat.le_refl _), hl, Nat.sub_self]
  unfold shI
  rw [cut_more h1 h, List.map_append]
  show _ ++ (x + b) :: _ = _
  rw [List.append_assoc, List.append_assoc]
  rfl
theorem shI_len {ds : List Int} {i e : Nat} (b : Int) (h1 : i ≤ e) (h2 : e ≤ ds.length) : (shI ds i e b).length = ds.length := by
  unfold shI cut
  rw [List.length_append, List.length_append, List.length_map, List.length_take, List.length_drop, List.length_take, List.length_drop]
  omega
theorem upd_self {H : Hp} {a : Addr} {o : HO} (h : H a = some o) : L2.upd H a o = H := by
  funext b
  by_cases e : b = a
  · rw [e, upd_same, h]
  · rw [upd_ne e]
def spShift (C : Addr) : Sp := fun vs H Q _ => ∃ (a t d : Addr) (ts : List Addr) (l : Outline) (i e : Nat) (b : Int), vs = [.ref a, .int i, .int e, .int b] ∧ NodesAt C H a t d ts l ∧ i ≤ e ∧ e ≤ l.length ∧ l.length ≤ 100 ∧ Q .non (L2.upd H d (.lst ((shI (dsI l) i e b).map V.int)))
section
variable {P : Program} {w : World} {K : PySem.W.Frag} {mg : Str → Option Value} {base : Heap}
theorem scShift : FnScope ["self", "start", "end", "by", "i"] ["self", "start", "end", "by"] (defScope sShift) := ⟨rfl, rfl, rfl, by decide +kernel, rfl, by decide +kernel, by decide +kernel⟩
theorem ok_shift {f C : Addr} {fd : FuncData} (F : Fun K "shift" "Nodes.shift" sShift f fd) (T : TN K mg C) (B : Blt mg) : FnOk P w K mg base CX0 1 f fd ["self", "start", "end", "by"] (spShift C) := by
  refine F.ok scShift (fun vs H Q E h => ?_) (fun cdv A outer s H vs Q E hr h => ?_)
  · obtain ⟨a, t, d, ts, l, i, e, b, rfl, _⟩ := h
    rfl
  · obtain ⟨a, t, d, ts, l, i, j, b, rfl, n, hij, hj, hz, k⟩ := h
    obtain ⟨dx, e⟩ := n.ob
    have nd := scShift.nd
    have nad : a ≠ d := ne_of e n.dp (by intro z; cases z)
    have ld := dsI_len l
    refine ⟨_, pss_one (ps_for PassesOwn.never rfl (pi_range2 rfl B.range (pa_cons (pv 1) (pa_cons (pv 2) pa_nil))) (pg_name (i := 4) nd rfl (Or.inl rfl))
      (pss_one (ps_augS (pe_fld (pv 0) rfl) (pv 4) get_list (pv 3) ip_add set_list))), ?_⟩
    refine ⟨_, rfl, _, rfl, (i : Int), (j : Int), rfl, ⟨by omega, by omega, by omega, by omega⟩, ?_⟩
    rw [show ((j : Int) - (i : Int)).toNat = j - i by omega]
    refine for_range (n := j - i) (lo := (i : Int)) (fun m σ H' => ∃ v : Option V, σ = [some (.ref a), some (.int i), some (.int j), some (.int b), v] ∧ H' = L2.upd H d (.lst ((shI (dsI l) i (i + m) b).map V.int))) ⟨none, rfl, ?_⟩ ?_ ?_
    · rw [Nat.add_zero, shI_start, ← depV_ds, upd_self n.dp]
    · rintro m σ H1 hm ⟨v, rfl, rfl⟩
      have hx : (dsI l)[i + m]? = some ((dsI l)[i + m]'(by omega)) := List.getElem?_eq_getElem (by omega)
      generalize (dsI l)[i + m]'(by omega) = x at hx
      have ea : L2.upd H d (.lst ((shI (dsI l) i (i + m) b).map V.int)) a = some (.ins C dx (nf t d)) := by rw [upd_ne nad]; exact e
      have at1 : ((shI (dsI l) i (i + m) b).map V.int)[i + m]? = some (.int x) := by
        rw [List.getElem?_map, shI_at (by omega) hx]
        rfl
      have hl : ((shI (dsI l) i (i + m) b).map V.int).length = l.length := by rw [List.length_map, shI_len b (by omega) (by omega), ld]
      rw [show (i : Int) + (m : Int) = ((i + m : Nat) : Int) by omega]
      refine ⟨_, rfl, a, C, dx, _, _, rfl, ea, T.cl, T.n2, nf_depths t d, _, rfl, d, _, _, _, rfl, rfl, SqL.of upd_same, atI_nat at1, _, rfl, _, _, rfl, rfl, d, _, _, i + m, rfl, rfl, upd_same, ?_, _, rfl, ?_⟩
      · unfold ixN
        rw [hl, if_pos (by omega), if_pos (by omega), Int.toNat_natCast]
      · rw [upd_upd, show ((shI (dsI l) i (i + m) b).map V.int).set (i + m) (V.int (x + b)) = ((shI (dsI l) i (i + m) b).set (i + m) (x + b)).map V.int from (List.map_set ..).symm, shI_set (by omega) hx]
        rfl
    · rintro σ H1 ⟨v, rfl, rfl⟩
      rw [show i + (j - i) = j by omega]
      exact k
end
def Edits (C : Addr) (H : Hp) (n t d : Addr) (ts ms : List Addr) (r : OfDesk.State × OfDesk.Answer) (Q : VK) : Prop :=
  ∀ H' t' d' ts', NodesAt C H' n t' d' ts' r.1 → (∀ b o, H b = some o → b ≠ n → b ≠ t → b ≠ d → H' b = some o) → (∀ b, H' b = none → H b = none) → (t' = t ∨ H t' = none) → (d' = d ∨ H d' = none) → (∀ b ∈ ts', b ∈ ts ∨ b ∈ ms) → Q (.int r.2.ret) H'
theorem free_of {H H' : Hp} {a : Addr} {o : HO} (e : H' a = some o) (kp : ∀ b o, H b = some o → b ≠ a → H' b = some o) (b : Addr) (h : H' b = none) : H b = none := by
  cases q : H b with
  | none => rfl
  | some x =>
    by_cases z : b = a
    · rw [z, e] at h; cases h
    · rw [kp b x q z] at h; cases h
theorem Edits.stay {C : Addr} {H H' : Hp} {n t d : Addr} {ts ms : List Addr} {l : Outline} {z : Int} {Q : VK} (k : Edits C H n t d ts ms (l, OfDesk.says z) Q) (N : NodesAt C H n t d ts l) (s : Same H H') : Q (.int z) H' :=
  k H' t d ts (N.same s) (fun b o e _ _ _ => s b o e) (fun b z => s.free z) (.inl rfl) (.inl rfl) (fun b hb => .inl hb)
def spCutOut (C : Addr) : Sp := fun vs H Q _ => ∃ (n t d : Addr) (ts : List Addr) (l : Outline) (i : Nat), vs = [.ref n, .int i] ∧ NodesAt C H n t d ts l ∧ GoodT l ∧ i < l.length ∧ Edits C H n t d ts [] (OfDesk.step l (.cut i)) Q
def spMoveIn (C : Addr) : Sp := fun vs H Q _ => ∃ (n t d : Addr) (ts : List Addr) (l : Outline) (i : Nat), vs = [.ref n, .int i] ∧ NodesAt C H n t d ts l ∧ GoodT l ∧ i < l.length ∧ Edits C H n t d ts [] (OfDesk.step l (.in_ i)) Q
def spMoveOut (C : Addr) : Sp := fun vs H Q _ => ∃ (n t d : Addr) (ts : List Addr) (l : Outline) (i : Nat), vs = [.ref n, .int i] ∧ NodesAt C H n t d ts l ∧ GoodT l ∧ i < l.length ∧ Edits C H n t d ts [] (OfDesk.step l (.out i)) Q
abbrev sCutOut : Stmt := top 51
abbrev sMoveIn : Stmt := top 52
abbrev sMoveOut : Stmt := top 53
theorem NodesAt.redep {C : Addr} {H : Hp} {a t d : Addr} {ts : List Addr} {l l' : Outline} (n : NodesAt C H a t d ts l) (xs : List V) (ed : xs = depV l') (et : Paired (fun b (x : Node) => H b = some (.lst (bV x.text)) ∧ b ≠ t ∧ b ≠ d) ts l') : NodesAt C (L2.upd H d (.lst xs)) a t d ts l' := by
  obtain ⟨dx, e⟩ := n.ob
  subst ed
  exact ⟨⟨dx, by rw [upd_ne (ne_of e n.dp (by intro z; cases z))]; exact e⟩, by rw [upd_ne n.td]; exact n.tx, upd_same, n.td, L2.Paired.mapP et fun b x q => ⟨by rw [upd_ne q.2.2]; exact q.1, q.2⟩⟩
theorem dsI_app (l m : Outline) : dsI (l ++ m) = dsI l ++ dsI m := List.map_append
theorem dsI_take (l : Outline) (i : Nat) : dsI (l.take i) = (dsI l).take i := List.map_take
theorem dsI_drop (l : Outline) (i : Nat) : dsI (l.drop i) = (dsI l).drop i := List.map_drop
theorem dsI_cut (l : Outline) (i j : Nat) : dsI (cut l i j) = cut (dsI l) i j := map_cut _ l i j
theorem part_cut (l : Outline) (i e : Nat) : OfDesk.partOf l i e = cut l i e := rfl
theorem sh_deeper (l : Outline) (i : Nat) : shI (dsI l) i (OfDesk.halt_ l i) 1 = dsI (OfDesk.deeper l i) := by
  unfold OfDesk.deeper shI
  rw [dsI_app, dsI_app, dsI_take, dsI_drop, part_cut, ← dsI_cut]
  congr 1
  congr 1
  unfold OfDesk.deeperBy dsI
  rw [List.map_map, List.map_map]
  refine List.map_congr_left fun x _ => ?_
  show (x.depth : Int) + 1 = ((x.depth + 1 : Nat) : Int)
  omega
def lifted (l : Outline) (i e : Nat) : Outline := l.take i ++ (OfDesk.higher (cut l i e) ++ l.drop e)
theorem sh_higher (l : Outline) (i e : Nat) (h : ∀ x ∈ cut l i e, 1 ≤ x.depth) : shI (dsI l) i e (-1) = dsI (lifted l i e) := by
  unfold lifted shI
  rw [dsI_app, dsI_app, dsI_take, dsI_drop, ← dsI_cut]
  congr 1
  congr 1
  unfold OfDesk.higher dsI
  rw [List.map_map, List.map_map]
  refine List.map_congr_left fun x hx => ?_
  have := h x hx
  show (x.depth : Int) + (-1) = ((x.depth - 1 : Nat) : Int)
  omega
theorem higher_len (l : Outline) : (OfDesk.higher l).length = l.length := List.length_map _
theorem cut_length {α : Type} (l : List α) {i e : Nat} (h : e ≤ l.length) : (cut l i e).length = e - i := by
  unfold cut
  rw [List.length_drop, List.length_take, Nat.min_eq_left h]
theorem lifted_moved {l : Outline} {i e j : Nat} (h1 : i ≤ e) (h2 : e ≤ j) (h3 : j ≤ l.length) : (lifted l i e).take i ++ cut (lifted l i e) e j ++ cut (lifted l i e) i e ++ (lifted l i e).drop j = l.take i ++ (cut l e j ++ (OfDesk.higher (cut l i e) ++ l.drop j)) := by
  have la : (l.take i).length = i := by rw [List.length_take]; omega
  have lb : (OfDesk.higher (cut l i e)).length = e - i := by rw [higher_len, cut_length l (by omega)]
  have e1 : (lifted l i e).take i = l.take i := by
    unfold lifted
    rw [List.take_append_of_le_length (by omega), List.take_of_length_le (by omega)]
  have lab : (l.take i ++ OfDesk.higher (cut l i e)).length = e := by rw [List.length_append, la, lb]; omega
  have e2 : (lifted l i e).drop j = l.drop j := by
    unfold lifted
    rw [← List.append_assoc, List.drop_append, lab, List.drop_eq_nil_of_le (by omega), List.drop_drop, List.nil_append]
    congr 1
    omega
  have e3 : cut (lifted l i e) i e = OfDesk.higher (cut l i e) := by
    unfold cut lifted
    rw [← List.append_assoc, List.take_append_of_le_length (by omega), List.take_of_length_le (by omega), List.drop_append, la, Nat.sub_self, List.drop_eq_nil_of_le (by omega), List.nil_append]
    rfl
  have e4 : cut (lifted l i e) e j = cut l e j := by
    unfold cut lifted
    rw [← List.append_assoc, List.drop_take, List.drop_append, lab, Nat.sub_self, List.drop_eq_nil_of_le (by omega), List.nil_append, List.drop_zero, List.drop_take]
  rw [e1, e2, e3, e4, List.append_assoc, List.append_assoc]
theorem halt_gt (l : Outline) (i : Nat) : i < OfDesk.halt_ l i := by
  unfold OfDesk.halt_
  omega
theorem Paired.texts {α : Type} {F : α → Node → Prop} {g : Node → Node} (h : ∀ a x, F a x → F a (g x)) {ts : List α} {l : Outline} {i e : Nat} (p : Paired F ts l) (hie : i ≤ e) : Paired F ts (l.take i ++ ((My.cut l i e).map g ++ l.drop e)) := by
  have q := Paired.appP (Paired.appP (Paired.dropP e p) (Paired.mapR h (Paired.cut i e p))) (Paired.takeP i p)
  have z : ts.take i ++ (My.cut ts i e ++ ts.drop e) = ts := by
    unfold My.cut
    have z1 : (ts.take e).take i = ts.take i := by rw [List.take_take, Nat.min_eq_left hie]
    rw [← List.append_assoc, ← z1, List.take_append_drop, List.take_append_drop]
  rw [z] at q
  exact q
end My
set_option Elab.async false
set_option linter.all false
set_option maxRecDepth 100000
set_option maxHeartbeats 4000000
namespace My
open PySem PySem.Spec PyProof.Rows L2
open Of (Bytes Outline Node)
theorem step_cut {l : Outline} {i : Nat} (h : i < l.length) : OfDesk.step l (.cut i) = (l.take i ++ l.drop (OfDesk.halt_ l i), OfDesk.says (OfDesk.nat (1 + Of.block l i))) := by
  show (if l.length ≤ i then _ else _) = _
  rw [if_neg (by omega)]
theorem step_out {l : Outline} {i : Nat} (h : i < l.length) : OfDesk.step l (.out i) = match Of.parent l i with | none => (l, OfDesk.says (-1)) | some p => (OfDesk.moved l i (OfDesk.halt_ l p), OfDesk.says (OfDesk.nat (OfDesk.halt_ l p - 1 - Of.block l i))) := by
  show (if l.length ≤ i then _ else _) = _
  rw [if_neg (by omega)]
  cases Of.parent l i <;> rfl
theorem step_in {l : Outline} {i : Nat} (h : i < l.length) : OfDesk.step l (.in_ i) = if i = 0 ∨ Of.depthAt l (i - 1) < Of.depthAt l i then (l, OfDesk.says (-1)) else if (OfDesk.partOf l i (OfDesk.halt_ l i)).any (fun (x : Node) => decide (Of.DEPTHS ≤ x.depth + 1)) = true then (l, OfDesk.says (-4)) else (OfDesk.deeper l i, OfDesk.says (OfDesk.nat i)) := by
  show (if l.length ≤ i then _ else _) = _
  rw [if_neg (by omega)]
theorem first_child {l : Outline} (g : GoodT l) {i : Nat} (hi : i < l.length) : parV l i = i ↔ (i = 0 ∨ Of.depthAt l (i - 1) < Of.depthAt l i) := by
  have T := g.t
  constructor
  · intro h
    by_cases h0 : i = 0
    · exact .inl h0
    · right
      unfold parV at h
      cases e : Of.parent l i with
      | none =>
        rw [e] at h
        have h : 0 = i := h
        omega
      | some p =>
        rw [e] at h
        obtain ⟨a, b, _⟩ := parent_some e
        have h : p + 1 = i := h
        rw [show i - 1 = p by omega]
        omega
  · rintro (h | h)
    · subst h
      have := parV_le l 0
      omega
    · by_cases h0 : i = 0
      · subst h0
        have := parV_le l 0
        omega
      · have h1 := T.step (j := i - 1) (by omega)
        rw [show i - 1 + 1 = i by omega] at h1
        unfold parV
        cases e : Of.parent l i with
        | none => exact absurd (show Of.depthAt l (i - 1) + 1 = Of.depthAt l i by omega) (parent_none e (i - 1) (by omega))
        | some p =>
          obtain ⟨a, b, c⟩ := parent_some e
          rcases Nat.lt_or_ge p (i - 1) with z | z
          · exact absurd (show Of.depthAt l (i - 1) + 1 = Of.depthAt l i by omega) (c (i - 1) z (by omega))
          · show p + 1 = i
            omega
section
variable {P : Program} {w : World} {K : PySem.W.Frag} {mg : Str → Option Value} {base : Heap}
theorem scCutOut : FnScope ["nodes", "i", "end"] ["nodes", "i"] (defScope sCutOut) := ⟨rfl, rfl, rfl, by decide +kernel, rfl, by decide +kernel, by decide +kernel⟩
theorem ok_cutout {f C fE fT : Addr} {fd fdE fdT : FuncData} (F : Fun K "cut_out" "cut_out" sCutOut f fd) (T : TN K mg C) (GE : FnOk P w K mg base CX0 2 fE fdE ["self", "i"] (spBlockEnd C)) (bE : Binds K fdE ["self", "i"] []) (mE : Meth K C "block_end" fE)
    (GT : FnOk P w K mg base CX0 1 fT fdT ["self", "start", "end"] (spTakeOut C)) (bT : Binds K fdT ["self", "start", "end"] []) (mT : Meth K C "take_out" fT) : FnOk P w K mg base CX0 3 f fd ["nodes", "i"] (spCutOut C) := by
  refine F.ok scCutOut (fun vs H Q E h => ?_) (fun cdv A outer s H vs Q E hr h => ?_)
  · obtain ⟨n, t, d, ts, l, i, rfl, _⟩ := h
    rfl
  · obtain ⟨n, t, d, ts, l, i, rfl, N, g, hi, k⟩ := h
    obtain ⟨dx, e⟩ := N.ob
    have nd := scCutOut.nd
    have hz : l.length ≤ 100 := Nat.le_trans g.g.len (by decide)
    refine ⟨_, pss_cons (ps_set (i := 2) nd rfl (Or.inl rfl) (pe_meth (pv 0) T.cl mE GE hr bE .nil pass0 (pa_cons (pv 1) pa_nil)))
      (pss_cons (ps_expr (pe_meth (pv 0) T.cl mT GT (hr.mono (by decide)) bT .nil pass0 (pa_cons (pv 1) (pa_cons (pv 2) pa_nil))))
      (pss_one (ps_ret (pe_op op_sub (pv 2) (pv 1))))), ?_⟩
    have hg := halt_gt l i
    refine ⟨_, rfl, n, dx, _, rfl, e, nf_no (by decide +kernel) (by decide +kernel), _, rfl, n, t, d, ts, l, i, rfl, N, hi, ?_⟩
    refine ⟨_, rfl, n, dx, _, rfl, e, nf_no (by decide +kernel) (by decide +kernel), _, rfl, _, rfl, n, t, d, ts, l, i, OfDesk.halt_ l i, rfl, N, by omega, halt_le hi, hz, ?_⟩
    intro H' t' d' ts' N' ht hd hts kp
    refine ⟨_, rfl, _, rfl, _, _, rfl, rfl, ?_⟩
    rw [step_cut hi] at k
    obtain ⟨dx', e'⟩ := N'.ob
    have z := k H' t' d' ts' N' (fun b o eb h1 _ _ => kp b o eb h1) (free_of e' kp) (.inr ht) (.inr hd) (fun b hb => .inl (hts b hb))
    have ez : ((OfDesk.halt_ l i : Nat) : Int) - (i : Int) = ((1 + Of.block l i : Nat) : Int) := by
      unfold OfDesk.halt_
      omega
    show Q (.int (((OfDesk.halt_ l i : Nat) : Int) - (i : Int))) H'
    rw [ez]
    exact z
theorem scMoveIn : FnScope ["nodes", "i", "end"] ["nodes", "i"] (defScope sMoveIn) := ⟨rfl, rfl, rfl, by decide +kernel, rfl, by decide +kernel, by decide +kernel⟩
theorem ok_movein {f C fP fE fS : Addr} {fd fdP fdE fdS : FuncData} (F : Fun K "move_in" "move_in" sMoveIn f fd) (T : TN K mg C) (B : Blt mg) (fc : FCsts mg) (dc : DCsts mg) (GP : FnOk P w K mg base CX0 1 fP fdP ["self", "i"] (spParentOf C)) (bP : Binds K fdP ["self", "i"] []) (mP : Meth K C "parent_of" fP)
    (GE : FnOk P w K mg base CX0 2 fE fdE ["self", "i"] (spBlockEnd C)) (bE : Binds K fdE ["self", "i"] []) (mE : Meth K C "block_end" fE)
    (GS : FnOk P w K mg base CX0 1 fS fdS ["self", "start", "end", "by"] (spShift C)) (bS : Binds K fdS ["self", "start", "end", "by"] []) (mS : Meth K C "shift" fS) : FnOk P w K mg base CX0 3 f fd ["nodes", "i"] (spMoveIn C) := by
  refine F.ok scMoveIn (fun vs H Q E h => ?_) (fun cdv A outer s H vs Q E hr h => ?_)
  · obtain ⟨n, t, d, ts, l, i, rfl, _⟩ := h
    rfl
  · obtain ⟨n, t, d, ts, l, i, rfl, N, g, hi, k⟩ := h
    obtain ⟨dx, e⟩ := N.ob
    have nd := scMoveIn.nd
    have hz : l.length ≤ 100 := Nat.le_trans g.g.len (by decide)
    refine ⟨_, pss_cons (ps_if (pt_cmpR op_eq (pe_meth (pv 0) T.cl mP GP (hr.mono (by decide)) bP .nil pass0 (pa_cons (pv 1) pa_nil)) (pv 1) (nomark _)) (pss_one (ps_ret (pe_cst dc.not))) pss_nil)
      (pss_cons (ps_set (i := 2) nd rfl (Or.inl rfl) (pe_meth (pv 0) T.cl mE GE hr bE .nil pass0 (pa_cons (pv 1) pa_nil)))
      (pss_cons (ps_if (pt_cmpR op_ge (pe_callB (call_max1 rfl) (by rfl) B.max PyProof.Rows.boot_max (pa_cons (pe_slice sl_list (pe_fld (pv 0) rfl) (po_some (pv 1)) (po_some (pv 2))) pa_nil)) (pe_cst fc.deepest) (nomark _)) (pss_one (ps_ret (pe_cst dc.room))) pss_nil)
      (pss_cons (ps_expr (pe_meth (pv 0) T.cl mS GS (hr.mono (by decide)) bS .nil pass0 (pa_cons (pv 1) (pa_cons (pv 2) (pa_cons pe_int pa_nil)))))
      (pss_one (ps_ret (pv 1)))))), ?_⟩
    rw [step_in hi] at k
    refine ⟨_, rfl, n, dx, _, rfl, e, nf_no (by decide +kernel) (by decide +kernel), _, rfl, n, t, d, ts, l, i, rfl, N, hi, hz, _, rfl, rfl, _, rfl, ?_⟩
    rw [dec_nat (parV l i) i _ rfl]
    by_cases h1 : parV l i = i
    · rw [if_pos ((first_child g hi).mp h1)] at k
      rw [decide_eq_true h1]
      exact iteT (k.stay N (Same.refl H))
    · rw [if_neg (fun z => h1 ((first_child g hi).mpr z))] at k
      rw [decide_eq_false h1]
      have hg := halt_gt l i
      have hle := halt_le hi
      have ld := depV_len l
      refine iteF ⟨_, rfl, n, dx, _, rfl, e, nf_no (by decide +kernel) (by decide +kernel), _, rfl, n, t, d, ts, l, i, rfl, N, hi, ?_⟩
      refine ⟨_, rfl, n, C, dx, _, _, rfl, e, T.cl, T.n2, nf_depths t d, _, rfl, _, rfl, _, rfl, _, rfl, d, _, rfl, SqL.of N.dp, fun q hq => ?_⟩
      rw [cutV_nat _ (by omega) (by omega), ← depV_cut, depV_ds]
      have s1 : Same H (L2.upd H q (.lst ((dsI (cut l i (OfDesk.halt_ l i))).map V.int))) := same_new hq
      have cl := cut_length l (i := i) hle
      refine ⟨q, dsI (cut l i (OfDesk.halt_ l i)), rfl, SqL.of upd_same, ?_, fun M hM hmax => ⟨_, _, rfl, rfl, _, rfl, ?_⟩⟩
      · intro z
        have := congrArg List.length z
        rw [dsI_len, cl, List.length_nil] at this
        omega
      · have key : (OfDesk.partOf l i (OfDesk.halt_ l i)).any (fun (x : Node) => decide (Of.DEPTHS ≤ x.depth + 1)) = true ↔ 15 ≤ M := by
          rw [List.any_eq_true, part_cut]
          constructor
          · rintro ⟨x, hx, z⟩
            have z : 16 ≤ x.depth + 1 := of_decide_eq_true z
            have := hmax _ (List.mem_map_of_mem (f := fun (x : Node) => (x.depth : Int)) hx)
            omega
          · intro z
            obtain ⟨x, hx, e2⟩ := List.mem_map.mp hM
            exact ⟨x, hx, decide_eq_true (show 16 ≤ x.depth + 1 by omega)⟩
        by_cases h2 : 15 ≤ M
        · rw [if_pos (key.mpr h2)] at k
          rw [decide_eq_true h2]
          exact iteT (k.stay N s1)
        · rw [if_neg (fun z => h2 (key.mp z))] at k
          rw [decide_eq_false h2]
          refine iteF ⟨_, rfl, n, dx, _, rfl, s1 _ _ e, nf_no (by decide +kernel) (by decide +kernel), _, rfl, _, rfl, n, t, d, ts, l, i, OfDesk.halt_ l i, 1, rfl, N.same s1, by omega, hle, hz, _, rfl, ?_⟩
          refine k _ t d ts ((N.same s1).redep _ (by rw [sh_deeper, ← depV_ds]) ?_) (fun b o eb _ _ h3 => by rw [upd_ne h3]; exact s1 _ _ eb) (fun b hb => ?_) (.inl rfl) (.inl rfl) (fun b hb => .inl hb)
          · exact Paired.texts (g := fun (x : Node) => ⟨x.depth + 1, x.text⟩) (fun a x q => q) (N.same s1).pr (by omega)
          · by_cases z : b = d
            · rw [z, upd_same] at hb; cases hb
            · rw [upd_ne z] at hb; exact s1.free hb
theorem scMoveOut : FnScope ["nodes", "i", "parent", "end", "parent_end"] ["nodes", "i"] (defScope sMoveOut) := ⟨rfl, rfl, rfl, by decide +kernel, rfl, by decide +kernel, by decide +kernel⟩
theorem ok_moveout {f C fP fE fS fM : Addr} {fd fdP fdE fdS fdM : FuncData} (F : Fun K "move_out" "move_out" sMoveOut f fd) (T : TN K mg C) (dc : DCsts mg) (GP : FnOk P w K mg base CX0 1 fP fdP ["self", "i"] (spParentOf C)) (bP : Binds K fdP ["self", "i"] []) (mP : Meth K C "parent_of" fP)
    (GE : FnOk P w K mg base CX0 2 fE fdE ["self", "i"] (spBlockEnd C)) (bE : Binds K fdE ["self", "i"] []) (mE : Meth K C "block_end" fE)
    (GS : FnOk P w K mg base CX0 1 fS fdS ["self", "start", "end", "by"] (spShift C)) (bS : Binds K fdS ["self", "start", "end", "by"] []) (mS : Meth K C "shift" fS)
    (GM : FnOk P w K mg base CX0 1 fM fdM ["self", "start", "middle", "end"] (spMoveBehind C)) (bM : Binds K fdM ["self", "start", "middle", "end"] []) (mM : Meth K C "move_behind" fM) : FnOk P w K mg base CX0 3 f fd ["nodes", "i"] (spMoveOut C) := by
  refine F.ok scMoveOut (fun vs H Q E h => ?_) (fun cdv A outer s H vs Q E hr h => ?_)
  · obtain ⟨n, t, d, ts, l, i, rfl, _⟩ := h
    rfl
  · obtain ⟨n, t, d, ts, l, i, rfl, N, g, hi, k⟩ := h
    obtain ⟨dx, e⟩ := N.ob
    have nd := scMoveOut.nd
    have hz : l.length ≤ 100 := Nat.le_trans g.g.len (by decide)
    refine ⟨_, pss_cons (ps_set (i := 2) nd rfl (Or.inl rfl) (pe_meth (pv 0) T.cl mP GP (hr.mono (by decide)) bP .nil pass0 (pa_cons (pv 1) pa_nil)))
      (pss_cons (ps_if (pt_cmpR op_eq (pv 2) pe_int (nomark _)) (pss_one (ps_ret (pe_cst dc.not))) pss_nil)
      (pss_cons (ps_set (i := 3) nd rfl (Or.inl rfl) (pe_meth (pv 0) T.cl mE GE hr bE .nil pass0 (pa_cons (pv 1) pa_nil)))
      (pss_cons (ps_set (i := 4) nd rfl (Or.inl rfl) (pe_meth (pv 0) T.cl mE GE hr bE .nil pass0 (pa_cons (pe_op op_sub (pv 2) pe_int) pa_nil)))
      (pss_cons (ps_expr (pe_meth (pv 0) T.cl mS GS (hr.mono (by decide)) bS .nil pass0 (pa_cons (pv 1) (pa_cons (pv 3) (pa_cons (pe_un un_neg pe_int) pa_nil)))))
      (pss_cons (ps_expr (pe_meth (pv 0) T.cl mM GM (hr.mono (by decide)) bM .nil pass0 (pa_cons (pv 1) (pa_cons (pv 3) (pa_cons (pv 4) pa_nil)))))
      (pss_one (ps_ret (pe_op op_sub (pe_op op_add (pv 1) (pv 4)) (pv 3))))))))), ?_⟩
    rw [step_out hi] at k
    refine ⟨_, rfl, n, dx, _, rfl, e, nf_no (by decide +kernel) (by decide +kernel), _, rfl, n, t, d, ts, l, i, rfl, N, hi, hz, ?_⟩
    refine ⟨_, rfl, rfl, _, rfl, ?_⟩
    rw [dec_nat (parV l i) 0 0 rfl]
    cases hp : Of.parent l i with
    | none =>
      rw [hp] at k
      have hv : parV l i = 0 := by unfold parV; rw [hp]
      rw [decide_eq_true hv]
      exact iteT (k.stay N (Same.refl H))
    | some p =>
      rw [hp] at k
      have hv : parV l i = p + 1 := by unfold parV; rw [hp]
      obtain ⟨a1, b1, c1⟩ := parent_some hp
      rw [decide_eq_false (show ¬ parV l i = 0 by omega)]
      have hg := halt_gt l i
      have hle := halt_le hi
      have hpl : p < l.length := by omega
      have hlp := halt_le hpl
      have hh := g.t.halts hi hp
      have ep : ((parV l i : Nat) : Int) - 1 = (p : Int) := by omega
      refine iteF ⟨_, rfl, n, dx, _, rfl, e, nf_no (by decide +kernel) (by decide +kernel), _, rfl, n, t, d, ts, l, i, rfl, N, hi, ?_⟩
      refine ⟨_, rfl, n, dx, _, rfl, e, nf_no (by decide +kernel) (by decide +kernel), _, rfl, _, _, rfl, rfl, n, t, d, ts, l, p, (by show [V.ref n, V.int (((parV l i : Nat) : Int) - 1)] = _; rw [ep]), N, hpl, ?_⟩
      refine ⟨_, rfl, n, dx, _, rfl, e, nf_no (by decide +kernel) (by decide +kernel), _, rfl, _, rfl, _, rfl, n, t, d, ts, l, i, OfDesk.halt_ l i, -1, rfl, N, by omega, hle, hz, ?_⟩
      have hdep : ∀ x ∈ cut l i (OfDesk.halt_ l i), 1 ≤ x.depth := fun x hx => by
        obtain ⟨j, hj⟩ := List.getElem?_of_mem hx
        have hjl : j < (cut l i (OfDesk.halt_ l i)).length := (List.getElem?_eq_some_iff.mp hj).1
        rw [cut_length l hle] at hjl
        unfold cut at hj
        rw [List.getElem?_drop, List.getElem?_take, if_pos (by omega)] at hj
        by_cases hj0 : j = 0
        · subst hj0
          have := depthAt_get hj
          rw [Nat.add_zero] at this
          omega
        · have := block_in (i := i) (j := i + j) (by omega) (by omega) hj
          omega
      have N1 : NodesAt C (L2.upd H d (.lst ((shI (dsI l) i (OfDesk.halt_ l i) (-1)).map V.int))) n t d ts (lifted l i (OfDesk.halt_ l i)) := by
        refine N.redep _ (by rw [sh_higher l i _ hdep, ← depV_ds]) ?_
        exact Paired.texts (g := fun (x : Node) => ⟨x.depth - 1, x.text⟩) (fun a x q => q) N.pr (by omega)
      have ll : (lifted l i (OfDesk.halt_ l i)).length = l.length := by
        have := Paired.len N1.pr
        have := Paired.len N.pr
        omega
      obtain ⟨dx1, e1⟩ := N1.ob
      refine ⟨_, rfl, n, dx1, _, rfl, e1, nf_no (by decide +kernel) (by decide +kernel), _, rfl, _, rfl, _, rfl, n, t, d, ts, lifted l i (OfDesk.halt_ l i), i, OfDesk.halt_ l i, OfDesk.halt_ l p, rfl, N1, by omega, hh, by omega, by omega, ?_⟩
      rw [lifted_moved (by omega) hh hlp]
      intro H' t' d' ts' N' ht hd hts kp
      refine ⟨_, rfl, _, rfl, _, _, rfl, rfl, _, rfl, _, _, rfl, rfl, ?_⟩
      have ndt : ∀ b, L2.upd H d (.lst ((shI (dsI l) i (OfDesk.halt_ l i) (-1)).map V.int)) b = none → H b = none := fun b hb => by
        by_cases z : b = d
        · rw [z, upd_same] at hb; cases hb
        · rw [upd_ne z] at hb; exact hb
      obtain ⟨dx', e'⟩ := N'.ob
      have z := k H' t' d' ts' N' (fun b o eb h1 _ h3 => kp b o (by rw [upd_ne h3]; exact eb) h1) (fun b hb => ndt b (free_of e' kp b hb)) (.inr (ndt _ ht)) (.inr (ndt _ hd)) (fun b hb => .inl (hts b hb))
      have ez : (i : Int) + ((OfDesk.halt_ l p : Nat) : Int) - ((OfDesk.halt_ l i : Nat) : Int) = ((OfDesk.halt_ l p - 1 - Of.block l i : Nat) : Int) := by
        have : OfDesk.halt_ l i = i + 1 + Of.block l i := rfl
        omega
      show Q (.int ((i : Int) + ((OfDesk.halt_ l p : Nat) : Int) - ((OfDesk.halt_ l i : Nat) : Int))) H'
      rw [ez]
      exact z
end
end My
set_option Elab.async false
set_option linter.all false
set_option maxRecDepth 100000
set_option maxHeartbeats 4000000
namespace My
open PySem PySem.Spec PyProof.Rows L2
open Of (Bytes Outline Node)
abbrev sAddChild : Stmt := top 49
abbrev sIsText : Stmt := top 50
def ctl (c : UInt8) : Bool := decide ((c.toNat : Int) < 32 ∨ (c.toNat : Int) = 127)
theorem ctl_eq (c : UInt8) : (!ctl c) = (decide (32 ≤ c) && !(c == 127)) := by
  have h1 : (32 ≤ c) ↔ 32 ≤ c.toNat := UInt8.le_iff_toNat_le
  have h2 : (c = 127) ↔ c.toNat = 127 := ⟨fun z => by rw [z]; rfl, fun z => UInt8.toNat_inj.mp z⟩
  unfold ctl
  by_cases a : 32 ≤ c.toNat
  · rw [decide_eq_true (h1.mpr a), Bool.true_and]
    by_cases b : c.toNat = 127
    · rw [decide_eq_true (show (c.toNat : Int) < 32 ∨ (c.toNat : Int) = 127 from .inr (by omega)), beq_iff_eq.mpr (h2.mpr b)]
    · rw [decide_eq_false (show ¬ ((c.toNat : Int) < 32 ∨ (c.toNat : Int) = 127) by omega), beq_eq_false_iff_ne.mpr (fun z => b (h2.mp z))]
  · rw [decide_eq_false (fun z => a (h1.mp z)), Bool.false_and, decide_eq_true (show (c.toNat : Int) < 32 ∨ (c.toNat : Int) = 127 from .inl (by omega))]
    rfl
theorem any_ctl : ∀ bs : Bytes, (!((bs.map ctl).any id)) = bs.all fun (c : UInt8) => decide (32 ≤ c) && !(c == 127)
  | [] => rfl
  | c :: bs => by
    rw [List.map_cons, List.any_cons, List.all_cons, ← any_ctl bs, ← ctl_eq, Bool.not_or]
    rfl
def spIsText (K : PySem.W.Frag) : Sp := fun vs H Q _ => ∃ (a : Addr) (bs : Bytes), vs = [.ref a] ∧ SqL K H a (bV bs) ∧ bs.length ≤ 2048 ∧ ∀ H', Same H H' → Q (.bl (Of.isText bs)) H'
theorem blV_snoc (l : List Bool) (b : Bool) : (l ++ [b]).map V.bl = l.map V.bl ++ [V.bl b] := by rw [List.map_append]; rfl
section
variable {P : Program} {w : World} {K : PySem.W.Frag} {mg : Str → Option Value} {base : Heap}
theorem scIsText : FnScope ["text", "byte"] ["text"] (defScope sIsText) := ⟨rfl, rfl, rfl, by decide +kernel, rfl, by decide +kernel, by decide +kernel⟩
theorem ok_istext {f fO : Addr} {fd fdO : FuncData} (F : Fun K "is_text" "is_text" sIsText f fd) (B : Blt mg) (fc : FCsts mg) (GO : FnOk P w K mg base CX0 1 fO fdO ["byte"] spIsControl) (bO : Binds K fdO ["byte"] []) (mO : mg "is_control" = some (.ref fO)) (kO : PySem.W.keepIn K (.ref fO) = true) :
    FnOk P w K mg base CX0 2 f fd ["text"] (spIsText K) := by
  refine F.ok scIsText (fun vs H Q E h => ?_) (fun cdv A outer s H vs Q E hr h => ?_)
  · obtain ⟨a, bs, rfl, _⟩ := h
    rfl
  · obtain ⟨a, bs, rfl, ha, hz, k⟩ := h
    have nd := scIsText.nd
    refine ⟨_, pss_cons (ps_if (PW.pt (pw_or (pt_cmpR op_eq (pe_callB call_len_seq (by rfl) B.len PySem.boot_len (pa_cons (pv 0) pa_nil)) pe_int (nomark _)) (pw_or1 (pt_cmpR op_gt (pe_callB call_len_seq (by rfl) B.len PySem.boot_len (pa_cons (pv 0) pa_nil)) (pe_cst fc.longest) (nomark _))))) (pss_one (ps_ret pe_bl)) pss_nil)
      (pss_one (ps_ret (pe_not (pe_callB (call_any1 rfl) (by rfl) B.any PyProof.Rows.boot_any (pa_cons (pe_lc (own := [("byte", 1)]) (g := gName 1) (tt := tYes) (te := tCall spIsControl [] E0 (tCons (tVar 1) tNil)) rfl nd (pi_list (pv 0)) (blkOk_by (show blkC ["text", "byte"] (defScope sIsText) _ [("byte", 1)] = true by decide +kernel))
        (by intro _ _ _ _ _; exact pg_name (i := 1) nd rfl (Or.inl rfl)) (by intro _ _ _ _ _; exact pts_nil) (by intro _ _ _ _ _; exact pe_call GO hr rfl mO kO bO .nil pass0 (pa_cons (pv 1) pa_nil))) pa_nil))))), ?_⟩
    refine ⟨_, rfl, a, _, rfl, .inl ha, rfl, _, rfl, ?_⟩
    rw [bV_len, dec_nat bs.length 0 0 rfl]
    unfold Of.isText at k
    by_cases h1 : bs.length = 0
    · rw [decide_eq_true h1]
      rw [decide_eq_false (show ¬ 1 ≤ bs.length by omega), Bool.false_and, Bool.false_and] at k
      exact iteT (iteT (k H (Same.refl H)))
    · rw [decide_eq_false h1]
      rw [decide_eq_true (show 1 ≤ bs.length by omega), Bool.true_and] at k
      refine iteF ⟨_, rfl, a, _, rfl, .inl ha, _, _, rfl, rfl, _, rfl, ?_⟩
      rw [bV_len]
      by_cases h2 : 64 < bs.length
      · rw [decide_eq_true (show (64 : Int) < (bs.length : Int) by omega)]
        rw [decide_eq_false (show ¬ bs.length ≤ Of.TEXT from fun z => by have : bs.length ≤ 64 := z; omega), Bool.false_and] at k
        exact iteT (k H (Same.refl H))
      · rw [decide_eq_false (show ¬ (64 : Int) < (bs.length : Int) by omega)]
        rw [decide_eq_true (show bs.length ≤ Of.TEXT from (by omega : bs.length ≤ 64)), Bool.true_and] at k
        refine iteF ⟨_, rfl, a, rfl, ⟨_, ha⟩, fun D hD => lc_list (K := K) (a := a) (xs := bV bs) (fun i H' => H' D = some (.lst (((bs.map ctl).take i).map V.bl)) ∧ Same H H')
          ⟨upd_same, same_new hD⟩ (fun i H' _ ⟨_, s2⟩ => s2.seq ha) ?_ ?_⟩
        · rintro i y H2 hy ⟨eD, s2⟩
          have hi : i < bs.length := by rw [← bV_len bs]; exact (List.getElem?_eq_some_iff.mp hy).1
          have hb : bs[i]? = some bs[i] := List.getElem?_eq_getElem hi
          rw [bV_at hb] at hy
          cases hy
          refine ⟨rfl, ?_⟩
          dsimp only [tYes]
          rw [if_pos rfl]
          refine ⟨_, rfl, _, rfl, _, eD, ?_, ?_, same_upd s2 hD⟩
          · rw [List.length_map, List.length_take]
            exact small1000' (Nat.le_trans (Nat.min_le_left _ _) (by omega))
          · rw [upd_same, take_snoc (show (bs.map ctl)[i]? = some (ctl bs[i]) by rw [List.getElem?_map, hb]; rfl), blV_snoc]
            rfl
        · rintro H2 ⟨eD, s2⟩
          rw [bV_len, List.take_of_length_le (by rw [List.length_map]; exact Nat.le_refl _)] at eD
          refine ⟨D, bs.map ctl, rfl, SqL.of eD, _, rfl, ?_⟩
          rw [any_ctl]
          exact k H2 s2
end
theorem NodesAt.put {C : Addr} {H : Hp} {a t d m : Addr} {ts : List Addr} {l : Outline} {x : Node} {e : Nat} (n : NodesAt C H a t d ts l) (hm : H m = some (.lst (bV x.text))) (h1 : m ≠ t) (h2 : m ≠ d) : NodesAt C (putH H t d m ts l e x) a t d (ts.take e ++ m :: ts.drop e) (l.take e ++ x :: l.drop e) := by
  obtain ⟨dx, ea⟩ := n.ob
  have ne : ∀ b, b ≠ t → b ≠ d → putH H t d m ts l e x b = H b := fun b z1 z2 => by
    unfold putH
    rw [upd_ne z2, upd_ne z1]
  refine ⟨⟨dx, ?_⟩, ?_, ?_, n.td, ?_⟩
  · rw [ne a (ne_of ea n.tx (by intro z; cases z)) (ne_of ea n.dp (by intro z; cases z))]
    exact ea
  · unfold putH
    rw [upd_ne n.td, upd_same, List.map_append, List.map_cons, List.map_take, List.map_drop]
  · unfold putH
    rw [upd_same, depV_app, depV_take]
    show _ = some (HO.lst (_ ++ V.int (x.depth : Int) :: depV (l.drop e)))
    rw [depV_drop]
  · refine L2.Paired.mapP (Paired.appP (.cons ⟨hm, h1, h2⟩ (Paired.dropP e n.pr)) (Paired.takeP e n.pr)) fun b y q => ⟨?_, q.2⟩
    rw [ne b q.2.1 q.2.2]
    exact q.1
def addPlace (l : Outline) (p : Nat) : Nat := if p = 0 then l.length else OfDesk.halt_ l (p - 1)
theorem below_eq (l : Outline) (p : Nat) : belowD l p = if p = 0 then 0 else Of.depthAt l (p - 1) + 1 := by
  cases p with
  | zero => rfl
  | succ q => rfl
theorem step_add (l : Outline) (p : Nat) (t : Bytes) : OfDesk.step l (.add p t) = if OfDesk.parentOk l p = false then (l, OfDesk.says (-2)) else if Of.isText t = false then (l, OfDesk.says (-3)) else
    if Of.NODES ≤ l.length ∨ Of.DEPTHS ≤ belowD l p then (l, OfDesk.says (-4)) else (l.take (addPlace l p) ++ (⟨belowD l p, t⟩ :: l.drop (addPlace l p)), OfDesk.says (OfDesk.nat (addPlace l p))) := by
  rw [below_eq]
  rfl
def spAddChild (K : PySem.W.Frag) (C : Addr) : Sp := fun vs H Q _ => ∃ (n t d m : Addr) (ts : List Addr) (l : Outline) (p : Nat) (bs : Bytes), vs = [.ref n, .int p, .ref m] ∧ NodesAt C H n t d ts l ∧ GoodT l ∧ H m = some (.lst (bV bs)) ∧ m ≠ t ∧ m ≠ d ∧ bs.length ≤ 2048 ∧ Edits C H n t d ts [m] (OfDesk.step l (.add p bs)) Q
section
variable {P : Program} {w : World} {K : PySem.W.Frag} {mg : Str → Option Value} {base : Heap}
theorem scAddChild : FnScope ["nodes", "parent", "text", "depth", "place"] ["nodes", "parent", "text"] (defScope sAddChild) := ⟨rfl, rfl, rfl, by decide +kernel, rfl, by decide +kernel, by decide +kernel⟩
theorem ok_addchild {f C fZ fX fB fE fP : Addr} {fd fdZ fdX fdB fdE fdP : FuncData} (F : Fun K "add_child" "add_child" sAddChild f fd) (T : TN K mg C) (fc : FCsts mg) (dc : DCsts mg)
    (GZ : FnOk P w K mg base CX0 1 fZ fdZ ["self"] (spSize C)) (bZ : Binds K fdZ ["self"] []) (mZ : Meth K C "size" fZ)
    (GX : FnOk P w K mg base CX0 2 fX fdX ["text"] (spIsText K)) (bX : Binds K fdX ["text"] []) (mX : mg "is_text" = some (.ref fX)) (kX : PySem.W.keepIn K (.ref fX) = true)
    (GB : FnOk P w K mg base CX0 1 fB fdB ["self", "parent"] (spDepthBelow C)) (bB : Binds K fdB ["self", "parent"] []) (mB : Meth K C "depth_below" fB)
    (GE : FnOk P w K mg base CX0 2 fE fdE ["self", "i"] (spBlockEnd C)) (bE : Binds K fdE ["self", "i"] []) (mE : Meth K C "block_end" fE)
    (GP : FnOk P w K mg base CX0 1 fP fdP ["self", "place", "text", "depth"] (spPutAt C)) (bP : Binds K fdP ["self", "place", "text", "depth"] []) (mP : Meth K C "put_at" fP) : FnOk P w K mg base CX0 3 f fd ["nodes", "parent", "text"] (spAddChild K C) := by
  refine F.ok scAddChild (fun vs H Q E h => ?_) (fun cdv A outer s H vs Q E hr h => ?_)
  · obtain ⟨n, t, d, m, ts, l, p, bs, rfl, _⟩ := h
    rfl
  · obtain ⟨n, t, d, m, ts, l, p, bs, rfl, N, g, hm, hmt, hmd, hz, k⟩ := h
    obtain ⟨dx, e⟩ := N.ob
    have nd := scAddChild.nd
    have h64 := g.g.len
    refine ⟨_, pss_cons (ps_if (pt_cmpR op_gt (pv 1) (pe_meth0 (pv 0) T.cl mZ GZ (hr.mono (by decide)) bZ .nil pass0) (nomark _)) (pss_one (ps_ret (pe_cst dc.no))) pss_nil)
      (pss_cons (ps_if (pt_not (pt_val (pe_call GX hr rfl mX kX bX .nil pass0 (pa_cons (pv 2) pa_nil)))) (pss_one (ps_ret (pe_cst dc.noText))) pss_nil)
      (pss_cons (ps_set (i := 3) nd rfl (Or.inl rfl) (pe_meth (pv 0) T.cl mB GB (hr.mono (by decide)) bB .nil pass0 (pa_cons (pv 1) pa_nil)))
      (pss_cons (ps_if (PW.pt (pw_or (pt_cmpR op_ge (pe_meth0 (pv 0) T.cl mZ GZ (hr.mono (by decide)) bZ .nil pass0) (pe_cst fc.most) (nomark _)) (pw_or1 (pt_cmpR op_gt (pv 3) (pe_cst fc.deepest) (nomark _))))) (pss_one (ps_ret (pe_cst dc.room))) pss_nil)
      (pss_cons (ps_set (i := 4) nd rfl (Or.inl rfl) (pe_ifExp (pt_cmpR op_gt (pv 1) pe_int (nomark _)) (pe_meth (pv 0) T.cl mE GE hr bE .nil pass0 (pa_cons (pe_op op_sub (pv 1) pe_int) pa_nil)) (pe_meth0 (pv 0) T.cl mZ GZ (hr.mono (by decide)) bZ .nil pass0)))
      (pss_cons (ps_expr (pe_meth (pv 0) T.cl mP GP (hr.mono (by decide)) bP .nil pass0 (pa_cons (pv 4) (pa_cons (pv 2) (pa_cons (pv 3) pa_nil)))))
      (pss_one (ps_ret (pv 4)))))))), ?_⟩
    rw [step_add] at k
    refine ⟨_, rfl, _, rfl, n, dx, _, rfl, e, nf_no (by decide +kernel) (by decide +kernel), n, t, d, ts, l, rfl, N, _, _, rfl, rfl, _, rfl, ?_⟩
    by_cases h1 : l.length < p
    · rw [if_pos (show OfDesk.parentOk l p = false from decide_eq_false (show ¬ p ≤ l.length by omega))] at k
      rw [decide_eq_true (show (l.length : Int) < (p : Int) by omega)]
      exact iteT (k.stay N (Same.refl H))
    · rw [if_neg (show ¬ OfDesk.parentOk l p = false from fun z => of_decide_eq_false z (show p ≤ l.length by omega))] at k
      rw [decide_eq_false (show ¬ (l.length : Int) < (p : Int) by omega)]
      refine iteF ⟨_, rfl, m, bs, rfl, SqL.of hm, hz, fun H1 s1 => ⟨_, rfl, ?_⟩⟩
      cases hT : Of.isText bs with
      | false =>
        rw [if_pos hT] at k
        exact iteT (k.stay N s1)
      | true =>
        rw [if_neg (by rw [hT]; decide)] at k
        have N1 := N.same s1
        refine iteF ⟨_, rfl, n, dx, _, rfl, s1 _ _ e, nf_no (by decide +kernel) (by decide +kernel), _, rfl, n, t, d, ts, l, p, rfl, N1, by omega, ?_⟩
        refine ⟨_, rfl, n, dx, _, rfl, s1 _ _ e, nf_no (by decide +kernel) (by decide +kernel), n, t, d, ts, l, rfl, N1, _, _, rfl, rfl, _, rfl, ?_⟩
        by_cases h2 : 64 ≤ l.length
        · rw [if_pos (.inl h2)] at k
          rw [decide_eq_true (show (64 : Int) ≤ (l.length : Int) by omega)]
          exact iteT (iteT (k.stay N s1))
        · rw [decide_eq_false (show ¬ (64 : Int) ≤ (l.length : Int) by omega)]
          refine iteF ⟨_, rfl, _, _, rfl, rfl, _, rfl, ?_⟩
          by_cases h3 : 16 ≤ belowD l p
          · rw [if_pos (.inr h3)] at k
            rw [decide_eq_true (show (15 : Int) < ((belowD l p : Nat) : Int) by omega)]
            exact iteT (k.stay N s1)
          · rw [if_neg (fun z => z.elim h2 h3)] at k
            rw [decide_eq_false (show ¬ (15 : Int) < ((belowD l p : Nat) : Int) by omega)]
            refine iteF ⟨_, rfl, _, _, rfl, rfl, _, rfl, ?_⟩
            have hle : addPlace l p ≤ l.length := by
              unfold addPlace
              by_cases z : p = 0
              · rw [if_pos z]; exact Nat.le_refl _
              · rw [if_neg z]; exact halt_le (by omega)
            have tail : tSeq (tDrop (tMeth C "put_at" (spPutAt C) [] E0 (tVar 0) (tCons (tVar 4) (tCons (tVar 2) (tCons (tVar 3) tNil))))) (tRet (tVar 4)) { nx := fun _ H' => Q .non H', rt := Q }
                [some (.ref n), some (.int p), some (.ref m), some (.int (belowD l p : Nat)), some (.int (addPlace l p : Nat))] H1 := by
              refine ⟨_, rfl, n, dx, _, rfl, s1 _ _ e, nf_no (by decide +kernel) (by decide +kernel), _, rfl, _, rfl, _, rfl, n, t, d, m, ts, l, ⟨belowD l p, bs⟩, addPlace l p, rfl, N1, hle, by omega, ?_⟩
              refine ⟨_, rfl, ?_⟩
              refine k _ t d _ (N1.put (e := addPlace l p) (x := ⟨belowD l p, bs⟩) (s1 _ _ hm) hmt hmd) (fun b o eb _ z1 z2 => ?_) (fun b hb => ?_) (.inl rfl) (.inl rfl) (fun b hb => ?_)
              · unfold putH
                rw [upd_ne z2, upd_ne z1]
                exact s1 _ _ eb
              · unfold putH at hb
                by_cases z2 : b = d
                · rw [z2, upd_same] at hb; cases hb
                · rw [upd_ne z2] at hb
                  by_cases z1 : b = t
                  · rw [z1, upd_same] at hb; cases hb
                  · rw [upd_ne z1] at hb; exact s1.free hb
              · rcases List.mem_append.mp hb with z | z
                · exact .inl (List.mem_of_mem_take z)
                · rcases List.mem_cons.mp z with z | z
                  · exact .inr (by rw [z]; exact List.mem_cons_self)
                  · exact .inl (List.mem_of_mem_drop z)
            by_cases h4 : p = 0
            · rw [decide_eq_false (show ¬ (0 : Int) < (p : Int) by omega)]
              refine iteF ⟨_, rfl, n, dx, _, rfl, s1 _ _ e, nf_no (by decide +kernel) (by decide +kernel), n, t, d, ts, l, rfl, N1, ?_⟩
              rw [show addPlace l p = l.length by unfold addPlace; rw [if_pos h4]] at tail
              exact tail
            · rw [decide_eq_true (show (0 : Int) < (p : Int) by omega)]
              refine iteT ⟨_, rfl, n, dx, _, rfl, s1 _ _ e, nf_no (by decide +kernel) (by decide +kernel), _, rfl, _, _, rfl, rfl, n, t, d, ts, l, p - 1, (by show [V.ref n, V.int ((p : Int) - 1)] = _; rw [show (p : Int) - 1 = ((p - 1 : Nat) : Int) by omega]), N1, by omega, ?_⟩
              rw [show addPlace l p = OfDesk.halt_ l (p - 1) by unfold addPlace; rw [if_neg h4]] at tail
              exact tail
end
end My
set_option Elab.async false
set_option linter.all false
set_option maxRecDepth 100000
set_option maxHeartbeats 4000000
namespace My
open PySem PySem.Spec PyProof.Rows L2
open Of (Bytes Outline Node)
abbrev sAboutNode : Stmt := top 91
abbrev sAskNode : Stmt := top 92
abbrev sAnswerFind : Stmt := top 93
structure OCsts (mg : Str → Option Value) : Prop where
  init : Cst mg "INIT" 0
  read : Cst mg "READ" 1
  write : Cst mg "WRITE" 2
  count : Cst mg "COUNT" 3
  depth : Cst mg "DEPTH" 4
  parent : Cst mg "PARENT" 5
  block : Cst mg "BLOCK" 6
  path : Cst mg "PATH" 7
  text : Cst mg "TEXT" 8
  find : Cst mg "FIND" 9
  add : Cst mg "ADD" 10
  cut : Cst mg "CUT" 11
  in_ : Cst mg "MOVE_IN" 12
  out : Cst mg "MOVE_OUT" 13
inductive AskAt (i : Nat) : Nat → OfDesk.Call → Prop
  | depth : AskAt i 4 (.depth i)
  | parent : AskAt i 5 (.parent i)
  | block : AskAt i 6 (.block i)
  | path : AskAt i 7 (.path i)
  | text : AskAt i 8 (.text i)
inductive AboutAt (i : Nat) : Nat → OfDesk.Call → Prop
  | ask {k : Nat} {op : OfDesk.Call} : AskAt i k op → AboutAt i k op
  | cut : AboutAt i 11 (.cut i)
  | in_ : AboutAt i 12 (.in_ i)
  | out : AboutAt i 13 (.out i)
theorem about_none {l : Outline} {i k : Nat} {op : OfDesk.Call} (h : AboutAt i k op) (hi : l.length ≤ i) : OfDesk.step l op = (l, OfDesk.says (-2)) := by
  have e : ∀ f, OfDesk.of l i f = OfDesk.says (-2) := fun f => if_pos hi
  cases h with
  | ask h =>
    cases h with
    | depth => exact congrArg (Prod.mk l) (e _)
    | parent => exact congrArg (Prod.mk l) (e _)
    | block => exact congrArg (Prod.mk l) (e _)
    | path => exact congrArg (Prod.mk l) (e _)
    | text =>
      show (l, match l[i]? with | some x => _ | none => _) = _
      rw [List.getElem?_eq_none hi]
  | cut => exact if_pos hi
  | in_ => exact if_pos hi
  | out => exact if_pos hi
theorem ask_state {l : Outline} {i k : Nat} {op : OfDesk.Call} (h : AskAt i k op) : (OfDesk.step l op).1 = l := by
  cases h <;> rfl
theorem of_some {l : Outline} {i : Nat} (h : i < l.length) (f : OfDesk.Answer) : OfDesk.of l i f = f := if_neg (by omega)
theorem told_says (z : Int) : OutlineNeutral.told (OfDesk.says z) = [z] := rfl
theorem natV_ints (l : List Nat) : natV l = intsV (l.map fun (n : Nat) => (n : Int)) := by
  unfold natV intsV
  rw [List.map_map]
  rfl
def spAsk (C : Addr) : Sp := fun vs H Q _ => ∃ (n t d : Addr) (ts : List Addr) (l : Outline) (k i : Nat) (op : OfDesk.Call), vs = [.ref n, .int k, .int i] ∧ NodesAt C H n t d ts l ∧ Good l ∧ i < l.length ∧ AskAt i k op ∧ ∀ H' m, Same H H' → H m = none → H' m = some (.lst (intsV (OutlineNeutral.told (OfDesk.step l op).2))) → Q (.ref m) H'
def Told (C : Addr) (H : Hp) (n t d : Addr) (ts ms : List Addr) (r : OfDesk.State × OfDesk.Answer) (Q : VK) : Prop :=
  ∀ H' m t' d' ts', NodesAt C H' n t' d' ts' r.1 → (∀ b o, H b = some o → b ≠ n → b ≠ t → b ≠ d → H' b = some o) → (t' = t ∨ H t' = none) → (d' = d ∨ H d' = none) → (∀ b ∈ ts', b ∈ ts ∨ b ∈ ms) → H m = none → H' m = some (.lst (intsV (OutlineNeutral.told r.2))) → Q (.ref m) H'
theorem Told.stay {C : Addr} {H H' : Hp} {n t d m : Addr} {ts ms : List Addr} {l : Outline} {y : OfDesk.Answer} {Q : VK} (k : Told C H n t d ts ms (l, y) Q) (N : NodesAt C H n t d ts l) (s : Same H H') (nm : H m = none) (e : H' m = some (.lst (intsV (OutlineNeutral.told y)))) : Q (.ref m) H' :=
  k H' m t d ts (N.same s) (fun b o e _ _ _ => s b o e) (.inl rfl) (.inl rfl) (fun b hb => .inl hb) nm e
theorem Told.edits {C : Addr} {H : Hp} {n t d : Addr} {ts ms : List Addr} {r : OfDesk.State × OfDesk.Answer} {Q : VK} (k : Told C H n t d ts ms r Q) (hr : OutlineNeutral.told r.2 = [r.2.ret]) : Edits C H n t d ts ms r fun v H' => ∀ m, H' m = none → Q (.ref m) (L2.upd H' m (.lst [v])) := by
  intro H' t' d' ts' N kp fr ht hd hts m hm
  have s := same_new (o := .lst [V.int r.2.ret]) hm
  refine k _ m t' d' ts' (N.same s) (fun b o e h1 h2 h3 => s _ _ (kp b o e h1 h2 h3)) ht hd hts (fr m hm) ?_
  rw [upd_same, hr]
  rfl
def spAbout (C : Addr) : Sp := fun vs H Q _ => ∃ (n t d : Addr) (ts : List Addr) (l : Outline) (k i : Nat) (op : OfDesk.Call), vs = [.ref n, .int k, .int i] ∧ NodesAt C H n t d ts l ∧ GoodT l ∧ AboutAt i k op ∧ Told C H n t d ts [] (OfDesk.step l op) Q
theorem ret_cut (l : Outline) (i : Nat) : OutlineNeutral.told (OfDesk.step l (.cut i)).2 = [(OfDesk.step l (.cut i)).2.ret] := by
  show OutlineNeutral.told (if l.length ≤ i then _ else _ : OfDesk.State × OfDesk.Answer).2 = [(if l.length ≤ i then _ else _ : OfDesk.State × OfDesk.Answer).2.ret]
  split <;> rfl
theorem ret_in (l : Outline) (i : Nat) : OutlineNeutral.told (OfDesk.step l (.in_ i)).2 = [(OfDesk.step l (.in_ i)).2.ret] := by
  unfold OfDesk.step
  dsimp only
  split
  · rfl
  · split
    · rfl
    · split <;> rfl
theorem ret_out (l : Outline) (i : Nat) : OutlineNeutral.told (OfDesk.step l (.out i)).2 = [(OfDesk.step l (.out i)).2.ret] := by
  unfold OfDesk.step
  dsimp only
  split
  · rfl
  · split <;> rfl
theorem ret_add (l : Outline) (p : Nat) (t : Bytes) : OutlineNeutral.told (OfDesk.step l (.add p t)).2 = [(OfDesk.step l (.add p t)).2.ret] := by
  rw [step_add]
  split
  · rfl
  · split
    · rfl
    · split <;> rfl
section
variable {P : Program} {w : World} {K : PySem.W.Frag} {mg : Str → Option Value} {base : Heap}
theorem scAskNode : FnScope ["nodes", "number", "i"] ["nodes", "number", "i"] (defScope sAskNode) := ⟨rfl, rfl, rfl, by decide +kernel, rfl, by decide +kernel, by decide +kernel⟩
theorem ok_asknode {f C fP fE fH : Addr} {fd fdP fdE fdH : FuncData} (F : Fun K "ask_about_node" "ask_about_node" sAskNode f fd) (T : TN K mg C) (B : Blt mg) (oc : OCsts mg)
    (GP : FnOk P w K mg base CX0 1 fP fdP ["self", "i"] (spParentOf C)) (bP : Binds K fdP ["self", "i"] []) (mP : Meth K C "parent_of" fP)
    (GE : FnOk P w K mg base CX0 2 fE fdE ["self", "i"] (spBlockEnd C)) (bE : Binds K fdE ["self", "i"] []) (mE : Meth K C "block_end" fE)
    (GH : FnOk P w K mg base CX0 2 fH fdH ["self", "i"] (spPathTo C)) (bH : Binds K fdH ["self", "i"] []) (mH : Meth K C "path_to" fH) : FnOk P w K mg base CX0 3 f fd ["nodes", "number", "i"] (spAsk C) := by
  refine F.ok scAskNode (fun vs H Q E h => ?_) (fun cdv A outer s H vs Q E hr h => ?_)
  · obtain ⟨n, t, d, ts, l, k, i, op, rfl, _⟩ := h
    rfl
  · obtain ⟨n, t, d, ts, l, kk, i, op, rfl, N, g, hi, hop, k⟩ := h
    obtain ⟨dx, e⟩ := N.ob
    have hz : l.length ≤ 100 := Nat.le_trans g.len (by decide)
    refine ⟨_, pss_cons (ps_if (pt_cmpR op_eq (pv 1) (pe_cst oc.depth) (nomark _)) (pss_one (ps_ret (pe_lst (pa_cons (pe_ix ix_list (pe_fld (pv 0) rfl) (pv 2) (fun _ _ => rfl)) pa_nil)))) pss_nil)
      (pss_cons (ps_if (pt_cmpR op_eq (pv 1) (pe_cst oc.parent) (nomark _)) (pss_one (ps_ret (pe_lst (pa_cons (pe_meth (pv 0) T.cl mP GP (hr.mono (by decide)) bP .nil pass0 (pa_cons (pv 2) pa_nil)) pa_nil)))) pss_nil)
      (pss_cons (ps_if (pt_cmpR op_eq (pv 1) (pe_cst oc.block) (nomark _)) (pss_one (ps_ret (pe_lst (pa_cons (pe_op op_sub (pe_op op_sub (pe_meth (pv 0) T.cl mE GE hr bE .nil pass0 (pa_cons (pv 2) pa_nil)) (pv 2)) pe_int) pa_nil)))) pss_nil)
      (pss_cons (ps_if (pt_cmpR op_eq (pv 1) (pe_cst oc.path) (nomark _)) (pss_one (ps_ret (pe_op op_cat (pe_lst (pa_cons (pe_ix ix_list (pe_fld (pv 0) rfl) (pv 2) (fun _ _ => rfl)) pa_nil)) (pe_meth (pv 0) T.cl mH GH hr bH .nil pass0 (pa_cons (pv 2) pa_nil))))) pss_nil)
      (pss_one (ps_ret (pe_op op_cat (pe_lst (pa_cons (pe_callB call_len_seq (by rfl) B.len PySem.boot_len (pa_cons (pe_ix ix_list (pe_fld (pv 0) rfl) (pv 2) (fun _ _ => rfl)) pa_nil)) pa_nil)) (pe_ix ix_list (pe_fld (pv 0) rfl) (pv 2) (fun _ _ => rfl)))))))), ?_⟩
    have hli : l[i]? = some l[i] := List.getElem?_eq_getElem hi
    have hdep := depthAt_get hli
    cases hop with
    | depth =>
      refine ⟨_, rfl, rfl, _, rfl, ?_⟩
      rw [dec_nat 4 4 4 rfl, decide_eq_true (show 4 = 4 from rfl)]
      refine iteT ⟨_, rfl, n, C, dx, _, _, rfl, e, T.cl, T.n2, nf_depths t d, _, rfl, d, _, _, _, rfl, rfl, SqL.of N.dp, atI_nat (depV_at hli), (by show 1 ≤ sizeLine; decide), fun m hm => k _ m (same_new hm) hm ?_⟩
      rw [upd_same, show (OfDesk.step l (.depth i)).2 = OfDesk.says (OfDesk.nat (Of.depthAt l i)) from of_some hi _, told_says, hdep]
      rfl
    | parent =>
      refine ⟨_, rfl, rfl, _, rfl, ?_⟩
      rw [dec_nat 5 4 4 rfl, decide_eq_false (show ¬ 5 = 4 by decide)]
      refine iteF ⟨_, rfl, rfl, _, rfl, ?_⟩
      rw [dec_nat 5 5 5 rfl, decide_eq_true (show 5 = 5 from rfl)]
      refine iteT ⟨_, rfl, n, dx, _, rfl, e, nf_no (by decide +kernel) (by decide +kernel), _, rfl, n, t, d, ts, l, i, rfl, N, hi, hz, (by show 1 ≤ sizeLine; decide), fun m hm => k _ m (same_new hm) hm ?_⟩
      have es : (OfDesk.step l (.parent i)).2 = OfDesk.says ((parV l i : Nat) : Int) := by
        refine (of_some hi _).trans ?_
        unfold parV
        cases Of.parent l i <;> rfl
      rw [upd_same, es, told_says]
      rfl
    | block =>
      refine ⟨_, rfl, rfl, _, rfl, ?_⟩
      rw [dec_nat 6 4 4 rfl, decide_eq_false (show ¬ 6 = 4 by decide)]
      refine iteF ⟨_, rfl, rfl, _, rfl, ?_⟩
      rw [dec_nat 6 5 5 rfl, decide_eq_false (show ¬ 6 = 5 by decide)]
      refine iteF ⟨_, rfl, rfl, _, rfl, ?_⟩
      rw [dec_nat 6 6 6 rfl, decide_eq_true (show 6 = 6 from rfl)]
      refine iteT ⟨_, rfl, n, dx, _, rfl, e, nf_no (by decide +kernel) (by decide +kernel), _, rfl, n, t, d, ts, l, i, rfl, N, hi, _, rfl, _, _, rfl, rfl, _, _, rfl, rfl, (by show 1 ≤ sizeLine; decide), fun m hm => k _ m (same_new hm) hm ?_⟩
      rw [upd_same, show (OfDesk.step l (.block i)).2 = OfDesk.says (OfDesk.nat (Of.block l i)) from of_some hi _, told_says]
      have ez : ((OfDesk.halt_ l i : Nat) : Int) - (i : Int) - 1 = ((Of.block l i : Nat) : Int) := by
        unfold OfDesk.halt_
        omega
      show some (HO.lst [V.int (((OfDesk.halt_ l i : Nat) : Int) - (i : Int) - 1)]) = some (HO.lst [V.int ((Of.block l i : Nat) : Int)])
      rw [ez]
    | path =>
      refine ⟨_, rfl, rfl, _, rfl, ?_⟩
      rw [dec_nat 7 4 4 rfl, decide_eq_false (show ¬ 7 = 4 by decide)]
      refine iteF ⟨_, rfl, rfl, _, rfl, ?_⟩
      rw [dec_nat 7 5 5 rfl, decide_eq_false (show ¬ 7 = 5 by decide)]
      refine iteF ⟨_, rfl, rfl, _, rfl, ?_⟩
      rw [dec_nat 7 6 6 rfl, decide_eq_false (show ¬ 7 = 6 by decide)]
      refine iteF ⟨_, rfl, rfl, _, rfl, ?_⟩
      rw [dec_nat 7 7 7 rfl, decide_eq_true (show 7 = 7 from rfl)]
      refine iteT ⟨_, rfl, n, C, dx, _, _, rfl, e, T.cl, T.n2, nf_depths t d, _, rfl, d, _, _, _, rfl, rfl, SqL.of N.dp, atI_nat (depV_at hli), (by show 1 ≤ sizeLine; decide), fun q hq => ?_⟩
      have s1 := same_new (o := .lst [V.int ((l[i]).depth : Int)]) hq
      refine ⟨_, rfl, n, dx, _, rfl, s1 _ _ e, nf_no (by decide +kernel) (by decide +kernel), _, rfl, n, t, d, ts, l, i, rfl, N.same s1, g, hi, fun H2 q2 s2 n2 e2 => ⟨q, q2, _, _, rfl, rfl, s2 _ _ upd_same, e2, ?_, fun m hm => k _ m (s1.trans (s2.trans (same_new hm))) (s1.free (s2.free hm)) ?_⟩⟩
      · rw [natV_len]
        have := pathOf_len l 16 i
        show 1 + _ ≤ _
        exact small (by omega)
      · rw [upd_same, show (OfDesk.step l (.path i)).2 = ⟨OfDesk.nat (Of.depthAt l i), OfDesk.pathOf l 16 i, []⟩ from of_some hi _, natV_ints, hdep]
        show some (HO.lst (V.int _ :: _)) = some (HO.lst (V.int _ :: intsV (_ ++ [])))
        rw [List.append_nil]
        rfl
    | text =>
      refine ⟨_, rfl, rfl, _, rfl, ?_⟩
      rw [dec_nat 8 4 4 rfl, decide_eq_false (show ¬ 8 = 4 by decide)]
      refine iteF ⟨_, rfl, rfl, _, rfl, ?_⟩
      rw [dec_nat 8 5 5 rfl, decide_eq_false (show ¬ 8 = 5 by decide)]
      refine iteF ⟨_, rfl, rfl, _, rfl, ?_⟩
      rw [dec_nat 8 6 6 rfl, decide_eq_false (show ¬ 8 = 6 by decide)]
      refine iteF ⟨_, rfl, rfl, _, rfl, ?_⟩
      rw [dec_nat 8 7 7 rfl, decide_eq_false (show ¬ 8 = 7 by decide)]
      obtain ⟨b, hb, eb, _⟩ := Paired.get N.pr hli
      have htx := g.txt _ (List.mem_of_getElem? hli)
      refine iteF ⟨_, rfl, n, C, dx, _, _, rfl, e, T.cl, T.n1, nf_texts t d, _, rfl, t, _, _, _, rfl, rfl, SqL.of N.tx, atI_nat (refs_at hb), b, _, rfl, .inl (SqL.of eb), (by show 1 ≤ sizeLine; decide), fun q hq => ?_⟩
      have s1 := same_new (o := .lst [V.int ((bV (l[i]).text).length : Int)]) hq
      refine ⟨_, rfl, n, C, dx, _, _, rfl, s1 _ _ e, T.cl, T.n1, nf_texts t d, _, rfl, t, _, _, _, rfl, rfl, SqL.of (s1 _ _ N.tx), atI_nat (refs_at hb), q, b, _, _, rfl, rfl, upd_same, s1 _ _ eb, ?_, fun m hm => k _ m (s1.trans (same_new hm)) (s1.free hm) ?_⟩
      · rw [bV_len]
        show 1 + _ ≤ _
        exact small (by omega)
      · have es : (OfDesk.step l (.text i)).2 = ⟨OfDesk.nat (l[i]).text.length, [], (l[i]).text⟩ := by
          show (match l[i]? with | some x => _ | none => _) = _
          rw [hli]
        rw [upd_same, es, bV_len, bV_ints]
        rfl
theorem scAboutNode : FnScope ["nodes", "number", "i"] ["nodes", "number", "i"] (defScope sAboutNode) := ⟨rfl, rfl, rfl, by decide +kernel, rfl, by decide +kernel, by decide +kernel⟩
theorem ok_aboutnode {f C fZ fC fI fO fA : Addr} {fd fdZ fdC fdI fdO fdA : FuncData} (F : Fun K "answer_about_node" "answer_about_node" sAboutNode f fd) (T : TN K mg C) (oc : OCsts mg) (dc : DCsts mg)
    (GZ : FnOk P w K mg base CX0 1 fZ fdZ ["self"] (spSize C)) (bZ : Binds K fdZ ["self"] []) (mZ : Meth K C "size" fZ)
    (GC : FnOk P w K mg base CX0 3 fC fdC ["nodes", "i"] (spCutOut C)) (bC : Binds K fdC ["nodes", "i"] []) (mC : mg "cut_out" = some (.ref fC)) (kC : PySem.W.keepIn K (.ref fC) = true)
    (GI : FnOk P w K mg base CX0 3 fI fdI ["nodes", "i"] (spMoveIn C)) (bI' : Binds K fdI ["nodes", "i"] []) (mI : mg "move_in" = some (.ref fI)) (kI : PySem.W.keepIn K (.ref fI) = true)
    (GO : FnOk P w K mg base CX0 3 fO fdO ["nodes", "i"] (spMoveOut C)) (bO : Binds K fdO ["nodes", "i"] []) (mO : mg "move_out" = some (.ref fO)) (kO : PySem.W.keepIn K (.ref fO) = true)
    (GA : FnOk P w K mg base CX0 3 fA fdA ["nodes", "number", "i"] (spAsk C)) (bA : Binds K fdA ["nodes", "number", "i"] []) (mA : mg "ask_about_node" = some (.ref fA)) (kA : PySem.W.keepIn K (.ref fA) = true) : FnOk P w K mg base CX0 4 f fd ["nodes", "number", "i"] (spAbout C) := by
  refine F.ok scAboutNode (fun vs H Q E h => ?_) (fun cdv A outer s H vs Q E hr h => ?_)
  · obtain ⟨n, t, d, ts, l, k, i, op, rfl, _⟩ := h
    rfl
  · obtain ⟨n, t, d, ts, l, kk, i, op, rfl, N, g, hop, k⟩ := h
    obtain ⟨dx, e⟩ := N.ob
    refine ⟨_, pss_cons (ps_if (pt_cmpR op_ge (pv 2) (pe_meth0 (pv 0) T.cl mZ GZ (hr.mono (by decide)) bZ .nil pass0) (nomark _)) (pss_one (ps_ret (pe_lst (pa_cons (pe_cst dc.no) pa_nil)))) pss_nil)
      (pss_cons (ps_if (pt_cmpR op_eq (pv 1) (pe_cst oc.cut) (nomark _)) (pss_one (ps_ret (pe_lst (pa_cons (pe_call GC hr rfl mC kC bC .nil pass0 (pa_cons (pv 0) (pa_cons (pv 2) pa_nil))) pa_nil)))) pss_nil)
      (pss_cons (ps_if (pt_cmpR op_eq (pv 1) (pe_cst oc.in_) (nomark _)) (pss_one (ps_ret (pe_lst (pa_cons (pe_call GI hr rfl mI kI bI' .nil pass0 (pa_cons (pv 0) (pa_cons (pv 2) pa_nil))) pa_nil)))) pss_nil)
      (pss_cons (ps_if (pt_cmpR op_eq (pv 1) (pe_cst oc.out) (nomark _)) (pss_one (ps_ret (pe_lst (pa_cons (pe_call GO hr rfl mO kO bO .nil pass0 (pa_cons (pv 0) (pa_cons (pv 2) pa_nil))) pa_nil)))) pss_nil)
      (pss_one (ps_ret (pe_call GA hr rfl mA kA bA .nil pass0 (pa_cons (pv 0) (pa_cons (pv 1) (pa_cons (pv 2) pa_nil))))))))), ?_⟩
    refine ⟨_, rfl, _, rfl, n, dx, _, rfl, e, nf_no (by decide +kernel) (by decide +kernel), n, t, d, ts, l, rfl, N, _, _, rfl, rfl, _, rfl, ?_⟩
    by_cases h1 : l.length ≤ i
    · rw [decide_eq_true (show (l.length : Int) ≤ (i : Int) by omega)]
      rw [about_none hop h1] at k
      exact iteT ⟨(by show 1 ≤ sizeLine; decide), fun m hm => k.stay N (same_new hm) hm upd_same⟩
    · rw [decide_eq_false (show ¬ (l.length : Int) ≤ (i : Int) by omega)]
      have hi : i < l.length := by omega
      refine iteF ⟨_, rfl, rfl, _, rfl, ?_⟩
      have one : 1 ≤ sizeLine := by decide
      cases hop with
      | cut =>
        rw [dec_nat 11 11 11 rfl, decide_eq_true (show 11 = 11 from rfl)]
        refine iteT ⟨_, rfl, _, rfl, n, t, d, ts, l, i, rfl, N, g, hi, ?_⟩
        exact fun H' t' d' ts' N' kp fr ht hd hts => ⟨one, k.edits (ret_cut l i) H' t' d' ts' N' kp fr ht hd hts⟩
      | in_ =>
        rw [dec_nat 12 11 11 rfl, decide_eq_false (show ¬ 12 = 11 by decide)]
        refine iteF ⟨_, rfl, rfl, _, rfl, ?_⟩
        rw [dec_nat 12 12 12 rfl, decide_eq_true (show 12 = 12 from rfl)]
        refine iteT ⟨_, rfl, _, rfl, n, t, d, ts, l, i, rfl, N, g, hi, ?_⟩
        exact fun H' t' d' ts' N' kp fr ht hd hts => ⟨one, k.edits (ret_in l i) H' t' d' ts' N' kp fr ht hd hts⟩
      | out =>
        rw [dec_nat 13 11 11 rfl, decide_eq_false (show ¬ 13 = 11 by decide)]
        refine iteF ⟨_, rfl, rfl, _, rfl, ?_⟩
        rw [dec_nat 13 12 12 rfl, decide_eq_false (show ¬ 13 = 12 by decide)]
        refine iteF ⟨_, rfl, rfl, _, rfl, ?_⟩
        rw [dec_nat 13 13 13 rfl, decide_eq_true (show 13 = 13 from rfl)]
        refine iteT ⟨_, rfl, _, rfl, n, t, d, ts, l, i, rfl, N, g, hi, ?_⟩
        exact fun H' t' d' ts' N' kp fr ht hd hts => ⟨one, k.edits (ret_out l i) H' t' d' ts' N' kp fr ht hd hts⟩
      | ask ha =>
        have hk : kk ≤ 8 := by cases ha <;> decide
        rw [dec_nat kk 11 11 rfl, decide_eq_false (show ¬ kk = 11 by omega)]
        refine iteF ⟨_, rfl, rfl, _, rfl, ?_⟩
        rw [dec_nat kk 12 12 rfl, decide_eq_false (show ¬ kk = 12 by omega)]
        refine iteF ⟨_, rfl, rfl, _, rfl, ?_⟩
        rw [dec_nat kk 13 13 rfl, decide_eq_false (show ¬ kk = 13 by omega)]
        refine iteF ⟨_, rfl, _, rfl, _, rfl, n, t, d, ts, l, kk, i, op, rfl, N, g.g, hi, ha, fun H' m s nm em => ?_⟩
        exact k H' m t d ts (by rw [ask_state ha]; exact N.same s) (fun b o e _ _ _ => s b o e) (.inl rfl) (.inl rfl) (fun b hb => .inl hb) nm em
end
def bD (bs : Bytes) : List PyData := bs.map fun (c : UInt8) => PyData.int (c.toNat : Int)
theorem dp_all {K : PySem.W.Frag} {H : Hp} : ∀ bs : Bytes, DpAll K H (bV bs) (bD bs)
  | [] => .nil
  | _ :: bs => .cons (.int _) (dp_all bs)
theorem dp_bytes {K : PySem.W.Frag} {H : Hp} {a : Addr} {bs : Bytes} (h : SqL K H a (bV bs)) : Dp K H (.ref a) (.list (bD bs)) := .lst h (dp_all bs)
theorem lay_bytes : ∀ bs : Bytes, PyData.canLayAll0 (bD bs) = true
  | [] => by unfold bD PyData.canLayAll0; rfl
  | _ :: bs => by
    show PyData.canLayAll0 (PyData.int _ :: bD bs) = true
    rw [PyData.canLayAll0, lay_bytes bs, PyData.canLay0]
    rfl
theorem dep_bytes : ∀ bs : Bytes, PyData.depthAll (bD bs) = 0
  | [] => by unfold bD PyData.depthAll; rfl
  | _ :: bs => by
    show PyData.depthAll (PyData.int _ :: bD bs) = 0
    rw [PyData.depthAll, dep_bytes bs, PyData.depth]
    rfl
theorem shaped_bytes (bs : Bytes) : SeqAt.shaped (.list (bD bs)) = true := by
  unfold SeqAt.shaped
  rw [PyData.canLay0, lay_bytes, PyData.depth, dep_bytes]
  rfl
theorem eqv_bytes : ∀ a b : Bytes, PyData.eqvAll (bD a) (bD b) = decide (a = b)
  | [], [] => by unfold bD PyData.eqvAll; rfl
  | [], _ :: _ => by unfold bD PyData.eqvAll; rfl
  | _ :: _, [] => by unfold bD PyData.eqvAll; rfl
  | x :: a, y :: b => by
    show PyData.eqvAll (PyData.int _ :: bD a) (PyData.int _ :: bD b) = _
    rw [PyData.eqvAll, PyData.eqv, eqv_bytes a b]
    have e : (((x.toNat : Int)) == ((y.toNat : Int))) = decide (x = y) := by
      by_cases h : x = y
      · rw [h, decide_eq_true rfl]
        exact beq_self_eq_true _
      · rw [decide_eq_false h]
        exact beq_eq_false_iff_ne.mpr fun z => h (UInt8.toNat_inj.mp (by omega))
    rw [e]
    by_cases h1 : x = y
    · subst h1
      rw [decide_eq_true rfl, Bool.true_and]
      exact decide_eq_decide.mpr ⟨fun z => by rw [z], fun z => (List.cons.inj z).2⟩
    · rw [decide_eq_false h1, Bool.false_and, decide_eq_false (fun z => h1 (List.cons.inj z).1)]
theorem as_parent (l : Outline) (j p : Nat) : (Of.parent l j == OfDesk.asParent p) = decide (parV l j = p) := by
  unfold parV OfDesk.asParent
  cases e : Of.parent l j with
  | none =>
    by_cases h : p = 0
    · rw [if_pos h, decide_eq_true (show 0 = p by omega)]; rfl
    · rw [if_neg h, decide_eq_false (show ¬ 0 = p by omega)]; rfl
  | some q =>
    by_cases h : p = 0
    · rw [if_pos h, decide_eq_false (show ¬ q + 1 = p by omega)]; rfl
    · rw [if_neg h]
      by_cases h2 : q + 1 = p
      · rw [decide_eq_true h2, show p - 1 = q by omega]
        exact beq_self_eq_true _
      · rw [decide_eq_false h2]
        exact beq_eq_false_iff_ne.mpr fun z => h2 (by have := Option.some.inj z; omega)
theorem fits_at {l : Outline} {j p : Nat} {t : Bytes} {x : Node} (h : l[j]? = some x) : ((l[j]?.map fun (x : Node) => x.text) == some t && Of.parent l j == OfDesk.asParent p) = (decide (x.text = t) && decide (parV l j = p)) := by
  rw [h, as_parent]
  congr 1
  show (some x.text == some t) = _
  by_cases e : x.text = t
  · rw [e, decide_eq_true rfl]; exact beq_self_eq_true _
  · rw [decide_eq_false e]; exact beq_eq_false_iff_ne.mpr fun z => e (Option.some.inj z)
def spFind (K : PySem.W.Frag) (C : Addr) : Sp := fun vs H Q _ => ∃ (n t d x : Addr) (ts : List Addr) (l : Outline) (p : Nat) (bs : Bytes), vs = [.ref n, .int p, .ref x] ∧ NodesAt C H n t d ts l ∧ Good l ∧ SqL K H x (bV bs) ∧
  ∀ H' m, Same H H' → H m = none → H' m = some (.lst (intsV (OutlineNeutral.told (OfDesk.step l (.find p bs)).2))) → Q (.ref m) H'
theorem step_find (l : Outline) (p : Nat) (t : Bytes) : (OfDesk.step l (.find p t)).2 = if OfDesk.parentOk l p = false then OfDesk.says (-2) else match OfDesk.findIn l p t with | some j => OfDesk.says (OfDesk.nat j) | none => OfDesk.says (-3) := rfl
section
variable {P : Program} {w : World} {K : PySem.W.Frag} {mg : Str → Option Value} {base : Heap}
theorem scAnswerFind : FnScope ["nodes", "parent", "text", "i"] ["nodes", "parent", "text"] (defScope sAnswerFind) := ⟨rfl, rfl, rfl, by decide +kernel, rfl, by decide +kernel, by decide +kernel⟩
theorem ok_answerfind {f C fZ fP : Addr} {fd fdZ fdP : FuncData} (F : Fun K "answer_find" "answer_find" sAnswerFind f fd) (T : TN K mg C) (B : Blt mg) (dc : DCsts mg)
    (GZ : FnOk P w K mg base CX0 1 fZ fdZ ["self"] (spSize C)) (bZ : Binds K fdZ ["self"] []) (mZ : Meth K C "size" fZ)
    (GP : FnOk P w K mg base CX0 1 fP fdP ["self", "i"] (spParentOf C)) (bP : Binds K fdP ["self", "i"] []) (mP : Meth K C "parent_of" fP) : FnOk P w K mg base CX0 2 f fd ["nodes", "parent", "text"] (spFind K C) := by
  refine F.ok scAnswerFind (fun vs H Q E h => ?_) (fun cdv A outer s H vs Q E hr h => ?_)
  · obtain ⟨n, t, d, x, ts, l, p, bs, rfl, _⟩ := h
    rfl
  · obtain ⟨n, t, d, x, ts, l, p, bs, rfl, N, g, hx, k⟩ := h
    obtain ⟨dx, e⟩ := N.ob
    have nd := scAnswerFind.nd
    have hz : l.length ≤ 100 := Nat.le_trans g.len (by decide)
    refine ⟨_, pss_cons (ps_if (pt_cmpR op_gt (pv 1) (pe_meth0 (pv 0) T.cl mZ GZ hr bZ .nil pass0) (nomark _)) (pss_one (ps_ret (pe_lst (pa_cons (pe_cst dc.no) pa_nil)))) pss_nil)
      (pss_cons (ps_for PassesOwn.never rfl (pi_range1 rfl B.range (pa_cons (pe_meth0 (pv 0) T.cl mZ GZ hr bZ .nil pass0) pa_nil)) (pg_name (i := 3) nd rfl (Or.inl rfl))
        (pss_one (ps_if (PW.pt (pw_and (pt_cmpR (op_eqD hr.units) (pe_ix ix_list (pe_fld (pv 0) rfl) (pv 3) (fun _ _ => rfl)) (pv 2) (nomark _)) (pw_and1 (pt_cmpR op_eq (pe_meth (pv 0) T.cl mP GP hr bP .nil pass0 (pa_cons (pv 3) pa_nil)) (pv 1) (nomark _))))) (pss_one (ps_ret (pe_lst (pa_cons (pv 3) pa_nil)))) pss_nil)))
      (pss_one (ps_ret (pe_lst (pa_cons (pe_cst dc.noText) pa_nil))))), ?_⟩
    rw [step_find] at k
    refine ⟨_, rfl, _, rfl, n, dx, _, rfl, e, nf_no (by decide +kernel) (by decide +kernel), n, t, d, ts, l, rfl, N, _, _, rfl, rfl, _, rfl, ?_⟩
    by_cases h1 : l.length < p
    · rw [if_pos (show OfDesk.parentOk l p = false from decide_eq_false (show ¬ p ≤ l.length by omega))] at k
      rw [decide_eq_true (show (l.length : Int) < (p : Int) by omega)]
      exact iteT ⟨(by show 1 ≤ sizeLine; decide), fun m hm => k _ m (same_new hm) hm upd_same⟩
    · rw [if_neg (show ¬ OfDesk.parentOk l p = false from fun z => of_decide_eq_false z (show p ≤ l.length by omega))] at k
      rw [decide_eq_false (show ¬ (l.length : Int) < (p : Int) by omega)]
      refine iteF ⟨_, rfl, n, dx, _, rfl, e, nf_no (by decide +kernel) (by decide +kernel), n, t, d, ts, l, rfl, N, _, rfl, by omega, by omega, ?_⟩
      refine for_range (n := l.length) (lo := 0) (fun i σ H' => ∃ v : Option V, σ = [some (.ref n), some (.int p), some (.ref x), v] ∧ H' = H ∧ ∀ j, j < i → ((l[j]?.map fun (x : Node) => x.text) == some bs && Of.parent l j == OfDesk.asParent p) = false) ⟨none, rfl, rfl, fun j hj => absurd hj (by omega)⟩ ?_ ?_
      · rintro i σ H1 hi ⟨v, rfl, rfl, hn⟩
        have hli : l[i]? = some l[i] := List.getElem?_eq_getElem hi
        obtain ⟨b, hb, eb, _⟩ := Paired.get N.pr hli
        have fi := fits_at (p := p) (t := bs) hli
        rw [show (0 : Int) + (i : Int) = (i : Int) by omega]
        refine ⟨_, rfl, n, C, dx, _, _, rfl, e, T.cl, T.n1, nf_texts t d, _, rfl, t, _, _, _, rfl, rfl, SqL.of N.tx, atI_nat (refs_at hb), _, rfl, _, _, dp_bytes (SqL.of eb), dp_bytes hx, shaped_bytes _, shaped_bytes _, _, rfl, ?_⟩
        rw [PyData.eqv, eqv_bytes]
        have next : ((l[i]?.map fun (x : Node) => x.text) == some bs && Of.parent l i == OfDesk.asParent p) = false → ∀ j, j < i + 1 → ((l[j]?.map fun (x : Node) => x.text) == some bs && Of.parent l j == OfDesk.asParent p) = false := fun z j hj => by
          by_cases hji : j = i
          · rw [hji]; exact z
          · exact hn j (by omega)
        by_cases h2 : (l[i]).text = bs
        · rw [decide_eq_true h2] at fi ⊢
          refine iteT ⟨_, rfl, n, dx, _, rfl, e, nf_no (by decide +kernel) (by decide +kernel), _, rfl, n, t, d, ts, l, i, rfl, N, hi, hz, _, rfl, rfl, _, rfl, ?_⟩
          rw [dec_nat (parV l i) p _ rfl]
          by_cases h3 : parV l i = p
          · rw [decide_eq_true h3] at fi ⊢
            have ef : OfDesk.findIn l p bs = some i := range_some hi fi hn
            rw [ef] at k
            exact iteT ⟨_, rfl, (by show 1 ≤ sizeLine; decide), fun m hm => k _ m (same_new hm) hm upd_same⟩
          · rw [decide_eq_false h3] at fi ⊢
            exact iteF ⟨_, rfl, rfl, next fi⟩
        · rw [decide_eq_false h2] at fi ⊢
          exact iteF (iteF ⟨_, rfl, rfl, next fi⟩)
      · rintro σ H1 ⟨v, rfl, rfl, hn⟩
        have ef : OfDesk.findIn l p bs = none := range_none hn
        rw [ef] at k
        exact ⟨(by show 1 ≤ sizeLine; decide), fun m hm => k _ m (same_new hm) hm upd_same⟩
end
end My
set_option Elab.async false
set_option linter.all false
set_option maxRecDepth 100000
set_option maxHeartbeats 4000000
namespace My
open PySem PySem.Spec PyProof.Rows L2
open Of (Bytes Outline Node)
abbrev sAnswerCall : Stmt := top 86
structure Way (CR : Addr) (H H1 : Hp) (r dx c : Addr) (k : Nat) : Prop where
  kp : ∀ b o, H b = some o → b ≠ r → H1 b = some o
  er : H1 r = some (.ins CR dx (rf c k))
section
variable {K : PySem.W.Frag} {CD CN CR a r dx c : Addr} {H H1 H2 : Hp} {p : Parts} {l : Outline} {k k2 : Nat} {cl : List Int} {op : OfDesk.Call} {Q : VK}
theorem Way.num (W : Way CR H H1 r dx c k) : Way CR H (L2.upd H1 r (.ins CR dx (rf c (k + 1)))) r dx c (k + 1) := ⟨fun b o e h => by rw [upd_ne h]; exact W.kp b o e h, upd_same⟩
theorem Way.same (W : Way CR H H1 r dx c k) (s : Same H1 H2) : Way CR H H2 r dx c k := ⟨fun b o e h => s _ _ (W.kp b o e h), s _ _ W.er⟩
theorem Way.text (W : Way CR H H1 r dx c k) (kp : ∀ b o, H1 b = some o → b ≠ r → H2 b = some o) (er : H2 r = some (.ins CR dx (rf c k2))) : Way CR H H2 r dx c k2 := ⟨fun b o e h => kp b o (W.kp b o e h) h, er⟩
theorem Way.free (W : Way CR H H1 r dx c k) {b : Addr} (h : H1 b = none) : H b = none := by
  cases q : H b with
  | none => rfl
  | some o =>
    by_cases z : b = r
    · rw [z, W.er] at h; cases h
    · rw [W.kp b o q z] at h; cases h
theorem Way.desk (W : Way CR H H1 r dx c k) (D : DeskAt CD CN H a p l) (nra : r ≠ a) (nrp : ¬ p.has r) : DeskAt CD CN H1 a p l := by
  obtain ⟨dxa, ea⟩ := D.ob
  refine ⟨⟨dxa, W.kp _ _ ea (Ne.symm nra)⟩, D.nn.frame (fun o e => W.kp _ _ e fun z => nrp (.inl z.symm)) (fun o e => W.kp _ _ e fun z => nrp (.inr (.inl z.symm))) (fun o e => W.kp _ _ e fun z => nrp (.inr (.inr (.inl z.symm)))) (fun b hb o e => W.kp _ _ e fun z => nrp (.inr (.inr (.inr (z ▸ hb)))))⟩
theorem Way.calls (W : Way CR H H1 r dx c k) {fs : List (Str × V)} (er : H r = some (.ins CR dx fs)) (h : FzL K H c (intsV cl)) : FzL K H1 c (intsV cl) := h.keep fun o u e => W.kp _ _ e fun z => by rw [z, er] at e; cases e
def Post (CD CN CR : Addr) (H : Hp) (a r dx c : Addr) (p : Parts) (l : Outline) (k' : Nat) (op : OfDesk.Call) (Q : VK) : Prop :=
  ∀ H' m p', DeskAt CD CN H' a p' (OfDesk.step l op).1 → H' r = some (.ins CR dx (rf c k')) → (∀ b o, H b = some o → b ≠ a → b ≠ r → ¬ p.has b → H' b = some o) → FreshOr H p p' → H m = none → H' m = some (.lst (intsV (OutlineNeutral.told (OfDesk.step l op).2))) → Q (.ref m) H'
theorem Post.answers (k0 : Post CD CN CR H a r dx c p l k op Q) (W : Way CR H H1 r dx c k) (nra : r ≠ a) (nrp : ¬ p.has r) : Answers CD CN H1 a p (OfDesk.step l op) Q := fun H' m p' D' kp fo nm em =>
  k0 H' m p' D' (kp _ _ W.er nra nrp) (fun b o e h1 h2 h3 => kp b o (W.kp b o e h2) h1 h3) (fun b hb => (fo b hb).imp id fun z => W.free z) (W.free nm) em
theorem Post.told (k0 : Post CD CN CR H a r dx c p l k op Q) (W : Way CR H H1 r dx c k) (D1 : DeskAt CD CN H1 a p l) (nrp : ¬ p.has r) {ms : List Addr} (hms : ∀ b ∈ ms, H b = none) : Told CN H1 p.n p.t p.d p.ts ms (OfDesk.step l op) Q := fun H' m t' d' ts' N' kp ht hd hts nm em => by
  obtain ⟨dxa, ea⟩ := D1.ob
  have na := D1.ne
  refine k0 H' m ⟨p.n, t', d', ts'⟩ ⟨⟨dxa, kp _ _ ea (fun z => na (.inl z)) (fun z => na (.inr (.inl z))) (fun z => na (.inr (.inr (.inl z))))⟩, N'⟩
    (kp _ _ W.er (fun z => nrp (.inl z)) (fun z => nrp (.inr (.inl z))) (fun z => nrp (.inr (.inr (.inl z)))))
    (fun b o e h1 h2 h3 => kp b o (W.kp b o e h2) (fun z => h3 (.inl z)) (fun z => h3 (.inr (.inl z))) (fun z => h3 (.inr (.inr (.inl z))))) (fun b hb => ?_) (W.free nm) em
  rcases hb with z | z | z | z
  · exact .inl (.inl z)
  · have z : b = t' := z
    rw [z]
    exact ht.imp (fun q => .inr (.inl q)) fun q => W.free q
  · have z : b = d' := z
    rw [z]
    exact hd.imp (fun q => .inr (.inr (.inl q))) fun q => W.free q
  · exact (hts b z).imp (fun q => .inr (.inr (.inr q))) fun q => hms b q
end
theorem no_int {i j : Int} (h : ¬ i = j) : decide (V.int i = V.int j) = false := decide_eq_false fun z => h (V.int.inj z)
theorem yes_int (i : Int) : decide (V.int i = V.int i) = true := decide_eq_true rfl
theorem text_of {cl : List Int} {k : Nat} {t : Bytes} (h : (cl.drop (k + 3)).take t.length = bI t) : ((intsV cl).drop (k + 3)).take t.length = bV t := by
  unfold intsV
  rw [← List.map_drop, ← List.map_take, h, bV_ints]
  rfl
section
variable {P : Program} {w : World} {K : PySem.W.Frag} {mg : Str → Option Value} {base : Heap}
theorem scAnswerCall : FnScope ["desk", "row", "number", "form", "parent"] ["desk", "row"] (defScope sAnswerCall) := ⟨rfl, rfl, rfl, by decide +kernel, rfl, by decide +kernel, by decide +kernel⟩
theorem ok_answercall {f CD CN CR fN fT fZ f0 f1 f2 f4 f5 f6 : Addr} {fd fdN fdT fdZ fd0 fd1 fd2 fd4 fd5 fd6 : FuncData} (F : Fun K "answer_call" "answer_call" sAnswerCall f fd) (T : TD K mg CD) (TN_ : TN K mg CN) (TR_ : TR K mg CR) (oc : OCsts mg)
    (GN : FnOk P w K mg base CX0 1 fN fdN ["self"] (spTakeNumber K CR)) (bN : Binds K fdN ["self"] []) (mN : Meth K CR "take_number" fN)
    (GT : FnOk P w K mg base CX0 2 fT fdT ["self"] (spTakeText K CR)) (bT : Binds K fdT ["self"] []) (mT : Meth K CR "take_text" fT)
    (GZ : FnOk P w K mg base CX0 1 fZ fdZ ["self"] (spSize CN)) (bZ : Binds K fdZ ["self"] []) (mZ : Meth K CN "size" fZ)
    (G0 : FnOk P w K mg base CX0 3 f0 fd0 ["desk"] (spAnswerInit CD CN)) (b0 : Binds K fd0 ["desk"] []) (m0 : mg "answer_init" = some (.ref f0)) (k0 : PySem.W.keepIn K (.ref f0) = true)
    (G1 : FnOk P w K mg base CX0 7 f1 fd1 ["desk", "form", "text"] (spAnswerRead K CD CN)) (b1 : Binds K fd1 ["desk", "form", "text"] []) (m1 : mg "answer_read" = some (.ref f1)) (k1 : PySem.W.keepIn K (.ref f1) = true)
    (G2 : FnOk P w K mg base CX0 4 f2 fd2 ["nodes", "form", "step"] (spAnswerWrite CN)) (b2 : Binds K fd2 ["nodes", "form", "step"] []) (m2 : mg "answer_write" = some (.ref f2)) (k2 : PySem.W.keepIn K (.ref f2) = true)
    (G4 : FnOk P w K mg base CX0 4 f4 fd4 ["nodes", "number", "i"] (spAbout CN)) (b4 : Binds K fd4 ["nodes", "number", "i"] []) (m4 : mg "answer_about_node" = some (.ref f4)) (k4 : PySem.W.keepIn K (.ref f4) = true)
    (G5 : FnOk P w K mg base CX0 2 f5 fd5 ["nodes", "parent", "text"] (spFind K CN)) (b5 : Binds K fd5 ["nodes", "parent", "text"] []) (m5 : mg "answer_find" = some (.ref f5)) (k5 : PySem.W.keepIn K (.ref f5) = true)
    (G6 : FnOk P w K mg base CX0 3 f6 fd6 ["nodes", "parent", "text"] (spAddChild K CN)) (b6 : Binds K fd6 ["nodes", "parent", "text"] []) (m6 : mg "add_child" = some (.ref f6)) (k6 : PySem.W.keepIn K (.ref f6) = true) : FnOk P w K mg base CX0 9 f fd ["desk", "row"] (spAnswerCall K CD CN CR) := by
  refine F.ok scAnswerCall (fun vs H Q E h => ?_) (fun cdv A outer s H vs Q E hr h => ?_)
  · obtain ⟨a, r, dx, c, p, l, k, k', cl, op, rfl, _⟩ := h
    rfl
  · obtain ⟨a, r, dx, c, p, l, k, k', cl, op, rfl, D, g, nra, nrp, er, hc, hat, q⟩ := h
    have q : Post CD CN CR H a r dx c p l k' op Q := q
    have nd := scAnswerCall.nd
    have W0 : Way CR H H r dx c k := ⟨fun b o e _ => e, er⟩
    have one : 1 ≤ sizeLine := by decide
    refine ⟨_, (pss_cons (ps_set (i := 2) nd rfl (Or.inl rfl) (pe_meth0 (pv 1) TR_.cl mN GN (hr.mono (by decide)) bN .nil pass0))
      (pss_cons (ps_if (pt_cmpR op_eq (pv 2) (pe_cst oc.init) (nomark _)) (pss_one (ps_ret (pe_call G0 (hr.mono (by decide)) rfl m0 k0 b0 .nil pass0 (pa_cons (pv 0) pa_nil)))) pss_nil)
      (pss_cons (ps_if (pt_cmpR op_eq (pv 2) (pe_cst oc.read) (nomark _)) (pss_cons (ps_set (i := 3) nd rfl (Or.inl rfl) (pe_meth0 (pv 1) TR_.cl mN GN (hr.mono (by decide)) bN .nil pass0)) (pss_one (ps_ret (pe_call G1 (hr.mono (by decide)) rfl m1 k1 b1 .nil pass0 (pa_cons (pv 0) (pa_cons (pv 3) (pa_cons (pe_meth0 (pv 1) TR_.cl mT GT (hr.mono (by decide)) bT .nil pass0) pa_nil))))))) pss_nil)
      (pss_cons (ps_if (pt_cmpR op_eq (pv 2) (pe_cst oc.write) (nomark _)) (pss_cons (ps_set (i := 3) nd rfl (Or.inl rfl) (pe_meth0 (pv 1) TR_.cl mN GN (hr.mono (by decide)) bN .nil pass0)) (pss_one (ps_ret (pe_call G2 (hr.mono (by decide)) rfl m2 k2 b2 .nil pass0 (pa_cons (pe_fld (pv 0) rfl) (pa_cons (pv 3) (pa_cons (pe_meth0 (pv 1) TR_.cl mN GN (hr.mono (by decide)) bN .nil pass0) pa_nil))))))) pss_nil)
      (pss_cons (ps_if (pt_cmpR op_eq (pv 2) (pe_cst oc.count) (nomark _)) (pss_one (ps_ret (pe_lst (pa_cons (pe_meth0 (pe_fld (pv 0) rfl) TN_.cl mZ GZ (hr.mono (by decide)) bZ .nil pass0) pa_nil)))) pss_nil)
      (pss_cons (ps_if (pt_cmpR op_in_seq (pv 2) (pe_tup (pa_cons (pe_cst oc.depth) (pa_cons (pe_cst oc.parent) (pa_cons (pe_cst oc.block) (pa_cons (pe_cst oc.path) (pa_cons (pe_cst oc.text) (pa_cons (pe_cst oc.cut) (pa_cons (pe_cst oc.in_) (pa_cons (pe_cst oc.out) pa_nil))))))))) rfl) (pss_one (ps_ret (pe_call G4 (hr.mono (by decide)) rfl m4 k4 b4 .nil pass0 (pa_cons (pe_fld (pv 0) rfl) (pa_cons (pv 2) (pa_cons (pe_meth0 (pv 1) TR_.cl mN GN (hr.mono (by decide)) bN .nil pass0) pa_nil)))))) pss_nil)
      (pss_cons (ps_if (pt_cmpR op_eq (pv 2) (pe_cst oc.find) (nomark _)) (pss_cons (ps_set (i := 4) nd rfl (Or.inl rfl) (pe_meth0 (pv 1) TR_.cl mN GN (hr.mono (by decide)) bN .nil pass0)) (pss_one (ps_ret (pe_call G5 (hr.mono (by decide)) rfl m5 k5 b5 .nil pass0 (pa_cons (pe_fld (pv 0) rfl) (pa_cons (pv 4) (pa_cons (pe_meth0 (pv 1) TR_.cl mT GT (hr.mono (by decide)) bT .nil pass0) pa_nil))))))) pss_nil)
      (pss_cons (ps_if (pt_cmpR op_eq (pv 2) (pe_cst oc.add) (nomark _)) (pss_cons (ps_set (i := 4) nd rfl (Or.inl rfl) (pe_meth0 (pv 1) TR_.cl mN GN (hr.mono (by decide)) bN .nil pass0)) (pss_one (ps_ret (pe_lst (pa_cons (pe_call G6 (hr.mono (by decide)) rfl m6 k6 b6 .nil pass0 (pa_cons (pe_fld (pv 0) rfl) (pa_cons (pv 4) (pa_cons (pe_meth0 (pv 1) TR_.cl mT GT (hr.mono (by decide)) bT .nil pass0) pa_nil)))) pa_nil))))) pss_nil)
      (pss_one ps_never))))))))), ?_⟩
    have rn : ∀ j, (rf c j).lookup ("take_number" : Str) = none := fun j => rf_no (by decide +kernel) (by decide +kernel)
    have rt : ∀ j, (rf c j).lookup ("take_text" : Str) = none := fun j => rf_no (by decide +kernel) (by decide +kernel)
    obtain ⟨dxa, ea⟩ := D.ob
    cases hat with
    | init h0 =>
      refine ⟨_, rfl, r, dx, _, rfl, W0.er, rn _, r, dx, c, k, intsV cl, _, rfl, W0.er, (W0.calls er hc).seq, intsV_at h0, ?_⟩
      have W1 := W0.num
      generalize L2.upd H r (.ins CR dx (rf c (k + 1))) = H1 at W1 ⊢
      refine ⟨_, rfl, rfl, _, rfl, ?_⟩
      rw [yes_int 0]
      exact iteT ⟨_, rfl, a, p, l, rfl, W1.desk D nra nrp, q.answers W1 nra nrp⟩
    | read f t h0 h1 h2 h3 h4 h5 =>
      refine ⟨_, rfl, r, dx, _, rfl, W0.er, rn _, r, dx, c, k, intsV cl, _, rfl, W0.er, (W0.calls er hc).seq, intsV_at h0, ?_⟩
      have W1 := W0.num
      generalize L2.upd H r (.ins CR dx (rf c (k + 1))) = H1 at W1 ⊢
      refine ⟨_, rfl, rfl, _, rfl, ?_⟩
      rw [no_int (show ¬ (1 : Int) = 0 by decide)]
      refine iteF ⟨_, rfl, rfl, _, rfl, ?_⟩
      rw [yes_int 1]
      refine iteT ⟨_, rfl, r, dx, _, rfl, W1.er, rn _, r, dx, c, k + 1, intsV cl, _, rfl, W1.er, (W1.calls er hc).seq, intsV_at h1, ?_⟩
      have W2 := W1.num
      generalize L2.upd H1 r (.ins CR dx (rf c (k + 1 + 1))) = H2 at W2 ⊢
      refine ⟨_, rfl, _, rfl, _, rfl, r, dx, _, rfl, W2.er, rt _, r, dx, c, k + 1 + 1, t.length, intsV cl, rfl, W2.er, (W2.calls er hc).seq, intsV_at h2, by rw [intsV_len]; omega, fun x H3 nx kp3 ex er3 => ?_⟩
      have W3 := W2.text kp3 er3
      rw [text_of h3] at ex
      rw [show k + 1 + 1 + 1 + t.length = k + 3 + t.length by omega] at W3
      exact ⟨a, x, p, l, f, t, rfl, W3.desk D nra nrp, SqL.of ex, h5, q.answers W3 nra nrp⟩
    | write f s' h0 h1 h2 =>
      refine ⟨_, rfl, r, dx, _, rfl, W0.er, rn _, r, dx, c, k, intsV cl, _, rfl, W0.er, (W0.calls er hc).seq, intsV_at h0, ?_⟩
      have W1 := W0.num
      generalize L2.upd H r (.ins CR dx (rf c (k + 1))) = H1 at W1 ⊢
      refine ⟨_, rfl, rfl, _, rfl, ?_⟩
      rw [no_int (show ¬ (2 : Int) = 0 by decide)]
      refine iteF ⟨_, rfl, rfl, _, rfl, ?_⟩
      rw [no_int (show ¬ (2 : Int) = 1 by decide)]
      refine iteF ⟨_, rfl, rfl, _, rfl, ?_⟩
      rw [yes_int 2]
      refine iteT ⟨_, rfl, r, dx, _, rfl, W1.er, rn _, r, dx, c, k + 1, intsV cl, _, rfl, W1.er, (W1.calls er hc).seq, intsV_at h1, ?_⟩
      have W2 := W1.num
      generalize L2.upd H1 r (.ins CR dx (rf c (k + 1 + 1))) = H2 at W2 ⊢
      refine ⟨_, rfl, a, CD, dxa, _, _, rfl, W2.kp _ _ ea (Ne.symm nra), T.cl, T.n1, df_nodes p.n, _, rfl, _, rfl, r, dx, _, rfl, W2.er, rn _, r, dx, c, k + 1 + 1, intsV cl, _, rfl, W2.er, (W2.calls er hc).seq, intsV_at h2, ?_⟩
      have W3 := W2.num
      have D3 := W3.desk D nra nrp
      exact ⟨p.n, p.t, p.d, p.ts, l, f, s', rfl, D3.nn, g.g, fun H' m s nm em => Answers.stay (q.answers W3 nra nrp) D3 s nm em⟩
    | count h0 =>
      refine ⟨_, rfl, r, dx, _, rfl, W0.er, rn _, r, dx, c, k, intsV cl, _, rfl, W0.er, (W0.calls er hc).seq, intsV_at h0, ?_⟩
      have W1 := W0.num
      generalize L2.upd H r (.ins CR dx (rf c (k + 1))) = H1 at W1 ⊢
      refine ⟨_, rfl, rfl, _, rfl, ?_⟩
      rw [no_int (show ¬ (3 : Int) = 0 by decide)]
      refine iteF ⟨_, rfl, rfl, _, rfl, ?_⟩
      rw [no_int (show ¬ (3 : Int) = 1 by decide)]
      refine iteF ⟨_, rfl, rfl, _, rfl, ?_⟩
      rw [no_int (show ¬ (3 : Int) = 2 by decide)]
      refine iteF ⟨_, rfl, rfl, _, rfl, ?_⟩
      rw [yes_int 3]
      have D1 := W1.desk D nra nrp
      obtain ⟨dxn, en⟩ := D1.nn.ob
      exact iteT ⟨_, rfl, a, CD, dxa, _, _, rfl, W1.kp _ _ ea (Ne.symm nra), T.cl, T.n1, df_nodes p.n, p.n, dxn, _, rfl, en, nf_no (by decide +kernel) (by decide +kernel), p.n, p.t, p.d, p.ts, l, rfl, D1.nn, one, fun m hm => Answers.stay (q.answers W1 nra nrp) D1 (same_new hm) hm upd_same⟩
    | depth i h0 h1 =>
      refine ⟨_, rfl, r, dx, _, rfl, W0.er, rn _, r, dx, c, k, intsV cl, _, rfl, W0.er, (W0.calls er hc).seq, intsV_at h0, ?_⟩
      have W1 := W0.num
      generalize L2.upd H r (.ins CR dx (rf c (k + 1))) = H1 at W1 ⊢
      refine ⟨_, rfl, rfl, _, rfl, ?_⟩
      rw [no_int (show ¬ (4 : Int) = 0 by decide)]
      refine iteF ⟨_, rfl, rfl, _, rfl, ?_⟩
      rw [no_int (show ¬ (4 : Int) = 1 by decide)]
      refine iteF ⟨_, rfl, rfl, _, rfl, ?_⟩
      rw [no_int (show ¬ (4 : Int) = 2 by decide)]
      refine iteF ⟨_, rfl, rfl, _, rfl, ?_⟩
      rw [no_int (show ¬ (4 : Int) = 3 by decide)]
      refine iteF ⟨_, rfl, (by show 8 ≤ sizeLine; decide), fun y hy => ⟨y, intsV [4, 5, 6, 7, 8, 11, 12, 13], rfl, .inr (SqT.of upd_same), rfl, flat_ints [4, 5, 6, 7, 8, 11, 12, 13], _, rfl, ?_⟩⟩
      have W1' := W1.same (same_new (o := .tup [V.int 4, V.int 5, V.int 6, V.int 7, V.int 8, V.int 11, V.int 12, V.int 13]) hy)
      generalize L2.upd H1 y (.tup [V.int 4, V.int 5, V.int 6, V.int 7, V.int 8, V.int 11, V.int 12, V.int 13]) = H1' at W1' ⊢
      rw [in_ints, show ([4, 5, 6, 7, 8, 11, 12, 13] : List Int).contains 4 = true from rfl]
      refine iteT ⟨_, rfl, a, CD, dxa, _, _, rfl, W1'.kp _ _ ea (Ne.symm nra), T.cl, T.n1, df_nodes p.n, _, rfl, _, rfl, r, dx, _, rfl, W1'.er, rn _, r, dx, c, k + 1, intsV cl, _, rfl, W1'.er, (W1'.calls er hc).seq, intsV_at h1, ?_⟩
      have W2 := W1'.num
      have D2 := W2.desk D nra nrp
      exact ⟨p.n, p.t, p.d, p.ts, l, 4, i, _, rfl, D2.nn, g, (.ask .depth), q.told W2 D2 nrp (fun _ h => nomatch h)⟩
    | parent i h0 h1 =>
      refine ⟨_, rfl, r, dx, _, rfl, W0.er, rn _, r, dx, c, k, intsV cl, _, rfl, W0.er, (W0.calls er hc).seq, intsV_at h0, ?_⟩
      have W1 := W0.num
      generalize L2.upd H r (.ins CR dx (rf c (k + 1))) = H1 at W1 ⊢
      refine ⟨_, rfl, rfl, _, rfl, ?_⟩
      rw [no_int (show ¬ (5 : Int) = 0 by decide)]
      refine iteF ⟨_, rfl, rfl, _, rfl, ?_⟩
      rw [no_int (show ¬ (5 : Int) = 1 by decide)]
      refine iteF ⟨_, rfl, rfl, _, rfl, ?_⟩
      rw [no_int (show ¬ (5 : Int) = 2 by decide)]
      refine iteF ⟨_, rfl, rfl, _, rfl, ?_⟩
      rw [no_int (show ¬ (5 : Int) = 3 by decide)]
      refine iteF ⟨_, rfl, (by show 8 ≤ sizeLine; decide), fun y hy => ⟨y, intsV [4, 5, 6, 7, 8, 11, 12, 13], rfl, .inr (SqT.of upd_same), rfl, flat_ints [4, 5, 6, 7, 8, 11, 12, 13], _, rfl, ?_⟩⟩
      have W1' := W1.same (same_new (o := .tup [V.int 4, V.int 5, V.int 6, V.int 7, V.int 8, V.int 11, V.int 12, V.int 13]) hy)
      generalize L2.upd H1 y (.tup [V.int 4, V.int 5, V.int 6, V.int 7, V.int 8, V.int 11, V.int 12, V.int 13]) = H1' at W1' ⊢
      rw [in_ints, show ([4, 5, 6, 7, 8, 11, 12, 13] : List Int).contains 5 = true from rfl]
      refine iteT ⟨_, rfl, a, CD, dxa, _, _, rfl, W1'.kp _ _ ea (Ne.symm nra), T.cl, T.n1, df_nodes p.n, _, rfl, _, rfl, r, dx, _, rfl, W1'.er, rn _, r, dx, c, k + 1, intsV cl, _, rfl, W1'.er, (W1'.calls er hc).seq, intsV_at h1, ?_⟩
      have W2 := W1'.num
      have D2 := W2.desk D nra nrp
      exact ⟨p.n, p.t, p.d, p.ts, l, 5, i, _, rfl, D2.nn, g, (.ask .parent), q.told W2 D2 nrp (fun _ h => nomatch h)⟩
    | block i h0 h1 =>
      refine ⟨_, rfl, r, dx, _, rfl, W0.er, rn _, r, dx, c, k, intsV cl, _, rfl, W0.er, (W0.calls er hc).seq, intsV_at h0, ?_⟩
      have W1 := W0.num
      generalize L2.upd H r (.ins CR dx (rf c (k + 1))) = H1 at W1 ⊢
      refine ⟨_, rfl, rfl, _, rfl, ?_⟩
      rw [no_int (show ¬ (6 : Int) = 0 by decide)]
      refine iteF ⟨_, rfl, rfl, _, rfl, ?_⟩
      rw [no_int (show ¬ (6 : Int) = 1 by decide)]
      refine iteF ⟨_, rfl, rfl, _, rfl, ?_⟩
      rw [no_int (show ¬ (6 : Int) = 2 by decide)]
      refine iteF ⟨_, rfl, rfl, _, rfl, ?_⟩
      rw [no_int (show ¬ (6 : Int) = 3 by decide)]
      refine iteF ⟨_, rfl, (by show 8 ≤ sizeLine; decide), fun y hy => ⟨y, intsV [4, 5, 6, 7, 8, 11, 12, 13], rfl, .inr (SqT.of upd_same), rfl, flat_ints [4, 5, 6, 7, 8, 11, 12, 13], _, rfl, ?_⟩⟩
      have W1' := W1.same (same_new (o := .tup [V.int 4, V.int 5, V.int 6, V.int 7, V.int 8, V.int 11, V.int 12, V.int 13]) hy)
      generalize L2.upd H1 y (.tup [V.int 4, V.int 5, V.int 6, V.int 7, V.int 8, V.int 11, V.int 12, V.int 13]) = H1' at W1' ⊢
      rw [in_ints, show ([4, 5, 6, 7, 8, 11, 12, 13] : List Int).contains 6 = true from rfl]
      refine iteT ⟨_, rfl, a, CD, dxa, _, _, rfl, W1'.kp _ _ ea (Ne.symm nra), T.cl, T.n1, df_nodes p.n, _, rfl, _, rfl, r, dx, _, rfl, W1'.er, rn _, r, dx, c, k + 1, intsV cl, _, rfl, W1'.er, (W1'.calls er hc).seq, intsV_at h1, ?_⟩
      have W2 := W1'.num
      have D2 := W2.desk D nra nrp
      exact ⟨p.n, p.t, p.d, p.ts, l, 6, i, _, rfl, D2.nn, g, (.ask .block), q.told W2 D2 nrp (fun _ h => nomatch h)⟩
    | path i h0 h1 =>
      refine ⟨_, rfl, r, dx, _, rfl, W0.er, rn _, r, dx, c, k, intsV cl, _, rfl, W0.er, (W0.calls er hc).seq, intsV_at h0, ?_⟩
      have W1 := W0.num
      generalize L2.upd H r (.ins CR dx (rf c (k + 1))) = H1 at W1 ⊢
      refine ⟨_, rfl, rfl, _, rfl, ?_⟩
      rw [no_int (show ¬ (7 : Int) = 0 by decide)]
      refine iteF ⟨_, rfl, rfl, _, rfl, ?_⟩
      rw [no_int (show ¬ (7 : Int) = 1 by decide)]
      refine iteF ⟨_, rfl, rfl, _, rfl, ?_⟩
      rw [no_int (show ¬ (7 : Int) = 2 by decide)]
      refine iteF ⟨_, rfl, rfl, _, rfl, ?_⟩
      rw [no_int (show ¬ (7 : Int) = 3 by decide)]
      refine iteF ⟨_, rfl, (by show 8 ≤ sizeLine; decide), fun y hy => ⟨y, intsV [4, 5, 6, 7, 8, 11, 12, 13], rfl, .inr (SqT.of upd_same), rfl, flat_ints [4, 5, 6, 7, 8, 11, 12, 13], _, rfl, ?_⟩⟩
      have W1' := W1.same (same_new (o := .tup [V.int 4, V.int 5, V.int 6, V.int 7, V.int 8, V.int 11, V.int 12, V.int 13]) hy)
      generalize L2.upd H1 y (.tup [V.int 4, V.int 5, V.int 6, V.int 7, V.int 8, V.int 11, V.int 12, V.int 13]) = H1' at W1' ⊢
      rw [in_ints, show ([4, 5, 6, 7, 8, 11, 12, 13] : List Int).contains 7 = true from rfl]
      refine iteT ⟨_, rfl, a, CD, dxa, _, _, rfl, W1'.kp _ _ ea (Ne.symm nra), T.cl, T.n1, df_nodes p.n, _, rfl, _, rfl, r, dx, _, rfl, W1'.er, rn _, r, dx, c, k + 1, intsV cl, _, rfl, W1'.er, (W1'.calls er hc).seq, intsV_at h1, ?_⟩
      have W2 := W1'.num
      have D2 := W2.desk D nra nrp
      exact ⟨p.n, p.t, p.d, p.ts, l, 7, i, _, rfl, D2.nn, g, (.ask .path), q.told W2 D2 nrp (fun _ h => nomatch h)⟩
    | text i h0 h1 =>
      refine ⟨_, rfl, r, dx, _, rfl, W0.er, rn _, r, dx, c, k, intsV cl, _, rfl, W0.er, (W0.calls er hc).seq, intsV_at h0, ?_⟩
      have W1 := W0.num
      generalize L2.upd H r (.ins CR dx (rf c (k + 1))) = H1 at W1 ⊢
      refine ⟨_, rfl, rfl, _, rfl, ?_⟩
      rw [no_int (show ¬ (8 : Int) = 0 by decide)]
      refine iteF ⟨_, rfl, rfl, _, rfl, ?_⟩
      rw [no_int (show ¬ (8 : Int) = 1 by decide)]
      refine iteF ⟨_, rfl, rfl, _, rfl, ?_⟩
      rw [no_int (show ¬ (8 : Int) = 2 by decide)]
      refine iteF ⟨_, rfl, rfl, _, rfl, ?_⟩
      rw [no_int (show ¬ (8 : Int) = 3 by decide)]
      refine iteF ⟨_, rfl, (by show 8 ≤ sizeLine; decide), fun y hy => ⟨y, intsV [4, 5, 6, 7, 8, 11, 12, 13], rfl, .inr (SqT.of upd_same), rfl, flat_ints [4, 5, 6, 7, 8, 11, 12, 13], _, rfl, ?_⟩⟩
      have W1' := W1.same (same_new (o := .tup [V.int 4, V.int 5, V.int 6, V.int 7, V.int 8, V.int 11, V.int 12, V.int 13]) hy)
      generalize L2.upd H1 y (.tup [V.int 4, V.int 5, V.int 6, V.int 7, V.int 8, V.int 11, V.int 12, V.int 13]) = H1' at W1' ⊢
      rw [in_ints, show ([4, 5, 6, 7, 8, 11, 12, 13] : List Int).contains 8 = true from rfl]
      refine iteT ⟨_, rfl, a, CD, dxa, _, _, rfl, W1'.kp _ _ ea (Ne.symm nra), T.cl, T.n1, df_nodes p.n, _, rfl, _, rfl, r, dx, _, rfl, W1'.er, rn _, r, dx, c, k + 1, intsV cl, _, rfl, W1'.er, (W1'.calls er hc).seq, intsV_at h1, ?_⟩
      have W2 := W1'.num
      have D2 := W2.desk D nra nrp
      exact ⟨p.n, p.t, p.d, p.ts, l, 8, i, _, rfl, D2.nn, g, (.ask .text), q.told W2 D2 nrp (fun _ h => nomatch h)⟩
    | find f t h0 h1 h2 h3 h4 h5 =>
      refine ⟨_, rfl, r, dx, _, rfl, W0.er, rn _, r, dx, c, k, intsV cl, _, rfl, W0.er, (W0.calls er hc).seq, intsV_at h0, ?_⟩
      have W1 := W0.num
      generalize L2.upd H r (.ins CR dx (rf c (k + 1))) = H1 at W1 ⊢
      refine ⟨_, rfl, rfl, _, rfl, ?_⟩
      rw [no_int (show ¬ (9 : Int) = 0 by decide)]
      refine iteF ⟨_, rfl, rfl, _, rfl, ?_⟩
      rw [no_int (show ¬ (9 : Int) = 1 by decide)]
      refine iteF ⟨_, rfl, rfl, _, rfl, ?_⟩
      rw [no_int (show ¬ (9 : Int) = 2 by decide)]
      refine iteF ⟨_, rfl, rfl, _, rfl, ?_⟩
      rw [no_int (show ¬ (9 : Int) = 3 by decide)]
      refine iteF ⟨_, rfl, (by show 8 ≤ sizeLine; decide), fun y hy => ⟨y, intsV [4, 5, 6, 7, 8, 11, 12, 13], rfl, .inr (SqT.of upd_same), rfl, flat_ints [4, 5, 6, 7, 8, 11, 12, 13], _, rfl, ?_⟩⟩
      have W1' := W1.same (same_new (o := .tup [V.int 4, V.int 5, V.int 6, V.int 7, V.int 8, V.int 11, V.int 12, V.int 13]) hy)
      generalize L2.upd H1 y (.tup [V.int 4, V.int 5, V.int 6, V.int 7, V.int 8, V.int 11, V.int 12, V.int 13]) = H1' at W1' ⊢
      rw [in_ints, show ([4, 5, 6, 7, 8, 11, 12, 13] : List Int).contains 9 = false from rfl]
      refine iteF ⟨_, rfl, rfl, _, rfl, ?_⟩
      rw [yes_int 9]
      refine iteT ⟨_, rfl, r, dx, _, rfl, W1'.er, rn _, r, dx, c, k + 1, intsV cl, _, rfl, W1'.er, (W1'.calls er hc).seq, intsV_at h1, ?_⟩
      have W2 := W1'.num
      generalize L2.upd H1' r (.ins CR dx (rf c (k + 1 + 1))) = H2 at W2 ⊢
      refine ⟨_, rfl, a, CD, dxa, _, _, rfl, W2.kp _ _ ea (Ne.symm nra), T.cl, T.n1, df_nodes p.n, _, rfl, _, rfl, r, dx, _, rfl, W2.er, rt _, r, dx, c, k + 1 + 1, t.length, intsV cl, rfl, W2.er, (W2.calls er hc).seq, intsV_at h2, by rw [intsV_len]; omega, fun x H3 nx kp3 ex er3 => ?_⟩
      have W3 := W2.text kp3 er3
      rw [text_of h3] at ex
      rw [show k + 1 + 1 + 1 + t.length = k + 3 + t.length by omega] at W3
      have D3 := W3.desk D nra nrp
      exact ⟨p.n, p.t, p.d, x, p.ts, l, f, t, rfl, D3.nn, g.g, SqL.of ex, fun H' m s nm em => Answers.stay (q.answers W3 nra nrp) D3 s nm em⟩
    | add f t h0 h1 h2 h3 h4 h5 =>
      refine ⟨_, rfl, r, dx, _, rfl, W0.er, rn _, r, dx, c, k, intsV cl, _, rfl, W0.er, (W0.calls er hc).seq, intsV_at h0, ?_⟩
      have W1 := W0.num
      generalize L2.upd H r (.ins CR dx (rf c (k + 1))) = H1 at W1 ⊢
      refine ⟨_, rfl, rfl, _, rfl, ?_⟩
      rw [no_int (show ¬ (10 : Int) = 0 by decide)]
      refine iteF ⟨_, rfl, rfl, _, rfl, ?_⟩
      rw [no_int (show ¬ (10 : Int) = 1 by decide)]
      refine iteF ⟨_, rfl, rfl, _, rfl, ?_⟩
      rw [no_int (show ¬ (10 : Int) = 2 by decide)]
      refine iteF ⟨_, rfl, rfl, _, rfl, ?_⟩
      rw [no_int (show ¬ (10 : Int) = 3 by decide)]
      refine iteF ⟨_, rfl, (by show 8 ≤ sizeLine; decide), fun y hy => ⟨y, intsV [4, 5, 6, 7, 8, 11, 12, 13], rfl, .inr (SqT.of upd_same), rfl, flat_ints [4, 5, 6, 7, 8, 11, 12, 13], _, rfl, ?_⟩⟩
      have W1' := W1.same (same_new (o := .tup [V.int 4, V.int 5, V.int 6, V.int 7, V.int 8, V.int 11, V.int 12, V.int 13]) hy)
      generalize L2.upd H1 y (.tup [V.int 4, V.int 5, V.int 6, V.int 7, V.int 8, V.int 11, V.int 12, V.int 13]) = H1' at W1' ⊢
      rw [in_ints, show ([4, 5, 6, 7, 8, 11, 12, 13] : List Int).contains 10 = false from rfl]
      refine iteF ⟨_, rfl, rfl, _, rfl, ?_⟩
      rw [no_int (show ¬ (10 : Int) = 9 by decide)]
      refine iteF ⟨_, rfl, rfl, _, rfl, ?_⟩
      rw [yes_int 10]
      refine iteT ⟨_, rfl, r, dx, _, rfl, W1'.er, rn _, r, dx, c, k + 1, intsV cl, _, rfl, W1'.er, (W1'.calls er hc).seq, intsV_at h1, ?_⟩
      have W2 := W1'.num
      generalize L2.upd H1' r (.ins CR dx (rf c (k + 1 + 1))) = H2 at W2 ⊢
      refine ⟨_, rfl, a, CD, dxa, _, _, rfl, W2.kp _ _ ea (Ne.symm nra), T.cl, T.n1, df_nodes p.n, _, rfl, _, rfl, r, dx, _, rfl, W2.er, rt _, r, dx, c, k + 1 + 1, t.length, intsV cl, rfl, W2.er, (W2.calls er hc).seq, intsV_at h2, by rw [intsV_len]; omega, fun x H3 nx kp3 ex er3 => ?_⟩
      have W3 := W2.text kp3 er3
      rw [text_of h3] at ex
      rw [show k + 1 + 1 + 1 + t.length = k + 3 + t.length by omega] at W3
      have D3 := W3.desk D nra nrp
      have D2 := W2.desk D nra nrp
      refine ⟨p.n, p.t, p.d, x, p.ts, l, f, t, rfl, D3.nn, g, ex, (fun z => by rw [z, D2.nn.tx] at nx; cases nx), (fun z => by rw [z, D2.nn.dp] at nx; cases nx), h5, ?_⟩
      exact fun H' t' d' ts' N' kp fr ht hd hts => ⟨one, (q.told W3 D3 nrp (ms := [x]) (fun b hb => by rw [List.mem_singleton.mp hb]; exact W2.free nx)).edits (ret_add l f t) H' t' d' ts' N' kp fr ht hd hts⟩
    | cut i h0 h1 =>
      refine ⟨_, rfl, r, dx, _, rfl, W0.er, rn _, r, dx, c, k, intsV cl, _, rfl, W0.er, (W0.calls er hc).seq, intsV_at h0, ?_⟩
      have W1 := W0.num
      generalize L2.upd H r (.ins CR dx (rf c (k + 1))) = H1 at W1 ⊢
      refine ⟨_, rfl, rfl, _, rfl, ?_⟩
      rw [no_int (show ¬ (11 : Int) = 0 by decide)]
      refine iteF ⟨_, rfl, rfl, _, rfl, ?_⟩
      rw [no_int (show ¬ (11 : Int) = 1 by decide)]
      refine iteF ⟨_, rfl, rfl, _, rfl, ?_⟩
      rw [no_int (show ¬ (11 : Int) = 2 by decide)]
      refine iteF ⟨_, rfl, rfl, _, rfl, ?_⟩
      rw [no_int (show ¬ (11 : Int) = 3 by decide)]
      refine iteF ⟨_, rfl, (by show 8 ≤ sizeLine; decide), fun y hy => ⟨y, intsV [4, 5, 6, 7, 8, 11, 12, 13], rfl, .inr (SqT.of upd_same), rfl, flat_ints [4, 5, 6, 7, 8, 11, 12, 13], _, rfl, ?_⟩⟩
      have W1' := W1.same (same_new (o := .tup [V.int 4, V.int 5, V.int 6, V.int 7, V.int 8, V.int 11, V.int 12, V.int 13]) hy)
      generalize L2.upd H1 y (.tup [V.int 4, V.int 5, V.int 6, V.int 7, V.int 8, V.int 11, V.int 12, V.int 13]) = H1' at W1' ⊢
      rw [in_ints, show ([4, 5, 6, 7, 8, 11, 12, 13] : List Int).contains 11 = true from rfl]
      refine iteT ⟨_, rfl, a, CD, dxa, _, _, rfl, W1'.kp _ _ ea (Ne.symm nra), T.cl, T.n1, df_nodes p.n, _, rfl, _, rfl, r, dx, _, rfl, W1'.er, rn _, r, dx, c, k + 1, intsV cl, _, rfl, W1'.er, (W1'.calls er hc).seq, intsV_at h1, ?_⟩
      have W2 := W1'.num
      have D2 := W2.desk D nra nrp
      exact ⟨p.n, p.t, p.d, p.ts, l, 11, i, _, rfl, D2.nn, g, .cut, q.told W2 D2 nrp (fun _ h => nomatch h)⟩
    | in_ i h0 h1 =>
      refine ⟨_, rfl, r, dx, _, rfl, W0.er, rn _, r, dx, c, k, intsV cl, _, rfl, W0.er, (W0.calls er hc).seq, intsV_at h0, ?_⟩
      have W1 := W0.num
      generalize L2.upd H r (.ins CR dx (rf c (k + 1))) = H1 at W1 ⊢
      refine ⟨_, rfl, rfl, _, rfl, ?_⟩
      rw [no_int (show ¬ (12 : Int) = 0 by decide)]
      refine iteF ⟨_, rfl, rfl, _, rfl, ?_⟩
      rw [no_int (show ¬ (12 : Int) = 1 by decide)]
      refine iteF ⟨_, rfl, rfl, _, rfl, ?_⟩
      rw [no_int (show ¬ (12 : Int) = 2 by decide)]
      refine iteF ⟨_, rfl, rfl, _, rfl, ?_⟩
      rw [no_int (show ¬ (12 : Int) = 3 by decide)]
      refine iteF ⟨_, rfl, (by show 8 ≤ sizeLine; decide), fun y hy => ⟨y, intsV [4, 5, 6, 7, 8, 11, 12, 13], rfl, .inr (SqT.of upd_same), rfl, flat_ints [4, 5, 6, 7, 8, 11, 12, 13], _, rfl, ?_⟩⟩
      have W1' := W1.same (same_new (o := .tup [V.int 4, V.int 5, V.int 6, V.int 7, V.int 8, V.int 11, V.int 12, V.int 13]) hy)
      generalize L2.upd H1 y (.tup [V.int 4, V.int 5, V.int 6, V.int 7, V.int 8, V.int 11, V.int 12, V.int 13]) = H1' at W1' ⊢
      rw [in_ints, show ([4, 5, 6, 7, 8, 11, 12, 13] : List Int).contains 12 = true from rfl]
      refine iteT ⟨_, rfl, a, CD, dxa, _, _, rfl, W1'.kp _ _ ea (Ne.symm nra), T.cl, T.n1, df_nodes p.n, _, rfl, _, rfl, r, dx, _, rfl, W1'.er, rn _, r, dx, c, k + 1, intsV cl, _, rfl, W1'.er, (W1'.calls er hc).seq, intsV_at h1, ?_⟩
      have W2 := W1'.num
      have D2 := W2.desk D nra nrp
      exact ⟨p.n, p.t, p.d, p.ts, l, 12, i, _, rfl, D2.nn, g, .in_, q.told W2 D2 nrp (fun _ h => nomatch h)⟩
    | out i h0 h1 =>
      refine ⟨_, rfl, r, dx, _, rfl, W0.er, rn _, r, dx, c, k, intsV cl, _, rfl, W0.er, (W0.calls er hc).seq, intsV_at h0, ?_⟩
      have W1 := W0.num
      generalize L2.upd H r (.ins CR dx (rf c (k + 1))) = H1 at W1 ⊢
      refine ⟨_, rfl, rfl, _, rfl, ?_⟩
      rw [no_int (show ¬ (13 : Int) = 0 by decide)]
      refine iteF ⟨_, rfl, rfl, _, rfl, ?_⟩
      rw [no_int (show ¬ (13 : Int) = 1 by decide)]
      refine iteF ⟨_, rfl, rfl, _, rfl, ?_⟩
      rw [no_int (show ¬ (13 : Int) = 2 by decide)]
      refine iteF ⟨_, rfl, rfl, _, rfl, ?_⟩
      rw [no_int (show ¬ (13 : Int) = 3 by decide)]
      refine iteF ⟨_, rfl, (by show 8 ≤ sizeLine; decide), fun y hy => ⟨y, intsV [4, 5, 6, 7, 8, 11, 12, 13], rfl, .inr (SqT.of upd_same), rfl, flat_ints [4, 5, 6, 7, 8, 11, 12, 13], _, rfl, ?_⟩⟩
      have W1' := W1.same (same_new (o := .tup [V.int 4, V.int 5, V.int 6, V.int 7, V.int 8, V.int 11, V.int 12, V.int 13]) hy)
      generalize L2.upd H1 y (.tup [V.int 4, V.int 5, V.int 6, V.int 7, V.int 8, V.int 11, V.int 12, V.int 13]) = H1' at W1' ⊢
      rw [in_ints, show ([4, 5, 6, 7, 8, 11, 12, 13] : List Int).contains 13 = true from rfl]
      refine iteT ⟨_, rfl, a, CD, dxa, _, _, rfl, W1'.kp _ _ ea (Ne.symm nra), T.cl, T.n1, df_nodes p.n, _, rfl, _, rfl, r, dx, _, rfl, W1'.er, rn _, r, dx, c, k + 1, intsV cl, _, rfl, W1'.er, (W1'.calls er hc).seq, intsV_at h1, ?_⟩
      have W2 := W1'.num
      have D2 := W2.desk D nra nrp
      exact ⟨p.n, p.t, p.d, p.ts, l, 13, i, _, rfl, D2.nn, g, .out, q.told W2 D2 nrp (fun _ h => nomatch h)⟩
end
end My
set_option Elab.async false
set_option linter.all false
set_option maxRecDepth 100000
set_option maxHeartbeats 4000000
namespace My
open PySem PySem.Spec PyProof.Rows L2
open Of (Bytes Outline Node)
structure ClF (K : PySem.W.Frag) (mg : Str → Option Value) (x : Str) (C : Addr) : Prop where
  mgC : mg x = some (.ref C)
  cl : Cls K C
  mks : PySem.W.makesIn K C = true
  kc : PySem.W.keepIn K (.ref C) = true
theorem clF_mk {K : PySem.W.Frag} {h : Heap} {mg : Str → Option Value} {x : Str} {C : Addr} (X : K.In h) (G : h.Ns mainGlobals mg) (a : PySem.W.nsIn K mainGlobals x = some (some (.ref C))) (pg : PySem.W.plainGet K C Str.empty = true) (hd : PySem.W.hasDictIn K C = true) (po : PySem.W.plainOver K C = true)
    (sa : PySem.W.findIn K (.ref C) "__setattr__" = some (some (.builtin "object.__setattr__"))) (mk : PySem.W.makesIn K C = true) (kc : PySem.W.keepIn K (.ref C) = true) : ClF K mg x C := ⟨PySem.W.mg_of X G a, ⟨pg, hd, po, sa⟩, mk, kc⟩
def Mth (K : PySem.W.Frag) (C : Addr) (m qual : Str) (st : Stmt) (ps : List Str) : Prop := ∃ f fd, Fun K m qual st f fd ∧ Meth K C m f ∧ Binds K fd ps []
def Top (K : PySem.W.Frag) (mg : Str → Option Value) (x : Str) (st : Stmt) (ps : List Str) : Prop := ∃ f fd, Fun K x x st f fd ∧ mg x = some (.ref f) ∧ Binds K fd ps [] ∧ PySem.W.keepIn K (.ref f) = true
theorem mth_mk {K : PySem.W.Frag} {C f : Addr} {m qual : Str} {st : Stmt} {ps : List Str} {oc : Value} {od an : Option Addr} {osl : Array (Option Value)} {kV doc pm cdv ct : Value} (a : PySem.W.findIn K (.ref C) m = some (some (.ref f))) (i : PySem.W.isFn K (.ref f) = true)
    (l : K.lookup f = some ⟨oc, od, .func (PySem.W.fnOf m qual (defArgs st) (defBody st) (defScope st) .none kV doc pm an cdv ct), osl⟩) (c : PySem.W.codeIn K cdv qual = true) (k : PySem.W.keepIn K (.ref f) = true)
    (hb : ∀ (kV doc pm : Value) (an : Option Addr) (cdv ct : Value) (us : List Value), us.length = ps.length → bindArgs (PySem.W.fnOf m qual (defArgs st) (defBody st) (defScope st) .none kV doc pm an cdv ct) ⟨us, []⟩ = pure (ps.zip us)) : Mth K C m qual st ps :=
  ⟨f, _, fun_mk l c k, ⟨a, i, k⟩, (fun_mk l c k).binds hb⟩
theorem top_mk {K : PySem.W.Frag} {h : Heap} {mg : Str → Option Value} {f : Addr} {x : Str} {st : Stmt} {ps : List Str} {oc : Value} {od an : Option Addr} {osl : Array (Option Value)} {kV doc pm cdv ct : Value} (X : K.In h) (G : h.Ns mainGlobals mg) (a : PySem.W.nsIn K mainGlobals x = some (some (.ref f)))
    (l : K.lookup f = some ⟨oc, od, .func (PySem.W.fnOf x x (defArgs st) (defBody st) (defScope st) .none kV doc pm an cdv ct), osl⟩) (c : PySem.W.codeIn K cdv x = true) (k : PySem.W.keepIn K (.ref f) = true)
    (hb : ∀ (kV doc pm : Value) (an : Option Addr) (cdv ct : Value) (us : List Value), us.length = ps.length → bindArgs (PySem.W.fnOf x x (defArgs st) (defBody st) (defScope st) .none kV doc pm an cdv ct) ⟨us, []⟩ = pure (ps.zip us)) : Top K mg x st ps :=
  ⟨f, _, fun_mk l c k, PySem.W.mg_of X G a, (fun_mk l c k).binds hb, k⟩
theorem cst_mk {K : PySem.W.Frag} {h : Heap} {mg : Str → Option Value} {x : Str} {i : Int} {t : Tok} (X : K.In h) (G : h.Ns mainGlobals mg) (a : PySem.W.nsIn K mainGlobals x = some (some (.int i t))) : Cst mg x i := ⟨t, PySem.W.mg_of X G a⟩
structure FltF (K : PySem.W.Frag) (mg : Str → Option Value) : Prop where
  ex : ∃ CF fI fd, mg "Fault" = some (.ref CF) ∧ xclsIn K CF fI ["number", "place"] = true ∧ PySem.W.keepIn K (.ref CF) = true ∧ PySem.W.isFn K (.ref fI) = true ∧ Fun K "__init__" "Fault.__init__" sFault fI fd ∧ Binds K fd ["self", "number", "place"] []
theorem flt_mk {K : PySem.W.Frag} {h : Heap} {mg : Str → Option Value} {CF f : Addr} {dd d : Option Addr} {cd : ClassData} {sl sl' : Array (Option Value)} {c : Value} {es : Array DictEntry} {n : Nat} {oc : Value} {od an : Option Addr} {osl : Array (Option Value)} {kV doc pm cdv ct : Value}
    (X : K.In h) (G : h.Ns mainGlobals mg) (a : PySem.W.nsIn K mainGlobals "Fault" = some (some (.ref CF))) (kc : PySem.W.keepIn K (.ref CF) = true)
    (lC : K.lookup CF = some ⟨.type "type", dd, .cls cd, sl⟩) (hm : (cd.mro == .ref CF :: mroX && !cd.hasDel && cd.hasDict) = true) (hs : (match sl.toList with | [_, _, _, _, some (.builtin n), _] => n == "Exception.__new__" | _ => false) = true)
    (lN : K.lookup cd.ns = some ⟨c, d, .dict es n, sl'⟩) (sk : es.toList.all keyStrB = true) (n1 : PySem.W.nsIn K cd.ns "__init__" = some (some (.ref f))) (n2 : PySem.W.nsIn K cd.ns "__setattr__" = some none) (n3 : PySem.W.nsIn K cd.ns "__getattribute__" = some none)
    (n4 : PySem.W.nsIn K cd.ns "__getattr__" = some none) (n5 : PySem.W.nsIn K cd.ns "number" = some none) (n6 : PySem.W.nsIn K cd.ns "place" = some none) (i : PySem.W.isFn K (.ref f) = true)
    (l : K.lookup f = some ⟨oc, od, .func (PySem.W.fnOf "__init__" "Fault.__init__" (defArgs sFault) (defBody sFault) (defScope sFault) .none kV doc pm an cdv ct), osl⟩) (co : PySem.W.codeIn K cdv "Fault.__init__" = true) (k : PySem.W.keepIn K (.ref f) = true) : FltF K mg := by
  refine ⟨CF, f, _, PySem.W.mg_of X G a, xcls_mk lC hm hs lN sk n1 n2 n3 n4 (fun x hx => ?_), kc, i, fun_mk l co k, (fun_mk l co k).binds fun _ _ _ _ _ _ us hl => match us, hl with | [_, _, _], _ => rfl⟩
  rcases List.mem_cons.mp hx with e | hx
  · rw [e]; exact n5
  · rcases List.mem_cons.mp hx with e | hx
    · rw [e]; exact n6
    · cases hx
theorem all_of {P : Program} {w : World} {K : PySem.W.Frag} {mg : Str → Option Value} {fa CU CN CR CD : Addr} (hfa : mg "answers" = some (.ref fa))
  (cU : ClF K mg "Unit" CU)
  (nU_place : PySem.W.findIn K (.ref CU) "place" = some none)
  (nU_byte : PySem.W.findIn K (.ref CU) "byte" = some none)
  (nU_plain : PySem.W.findIn K (.ref CU) "plain" = some none)
  (cN : ClF K mg "Nodes" CN)
  (nN_texts : PySem.W.findIn K (.ref CN) "texts" = some none)
  (nN_depths : PySem.W.findIn K (.ref CN) "depths" = some none)
  (cR : ClF K mg "CallRow" CR)
  (nR_calls : PySem.W.findIn K (.ref CR) "calls" = some none)
  (nR_taken : PySem.W.findIn K (.ref CR) "taken" = some none)
  (cD : ClF K mg "Desk" CD)
  (nD_nodes : PySem.W.findIn K (.ref CD) "nodes" = some none)
  (mU_init : Mth K CU "__init__" "Unit.__init__" sUnit ["self", "place", "byte", "plain"])
  (mN_init : Mth K CN "__init__" "Nodes.__init__" sNodes ["self"])
  (mN_size : Mth K CN "size" "Nodes.size" sSize ["self"])
  (mN_add_last : Mth K CN "add_last" "Nodes.add_last" sAddLast ["self", "text", "depth"])
  (mN_parent_of : Mth K CN "parent_of" "Nodes.parent_of" sParentOf ["self", "i"])
  (mN_block_end : Mth K CN "block_end" "Nodes.block_end" sBlockEnd ["self", "i"])
  (mN_put_at : Mth K CN "put_at" "Nodes.put_at" sPutAt ["self", "place", "text", "depth"])
  (mN_take_out : Mth K CN "take_out" "Nodes.take_out" sTakeOut ["self", "start", "end"])
  (mN_move_behind : Mth K CN "move_behind" "Nodes.move_behind" sMoveBehind ["self", "start", "middle", "end"])
  (mN_shift : Mth K CN "shift" "Nodes.shift" sShift ["self", "start", "end", "by"])
  (mN_depth_below : Mth K CN "depth_below" "Nodes.depth_below" sDepthBelow ["self", "parent"])
  (mN_path_to : Mth K CN "path_to" "Nodes.path_to" sPathTo ["self", "i"])
  (mR_init : Mth K CR "__init__" "CallRow.__init__" sRow ["self", "calls"])
  (mR_has_more : Mth K CR "has_more" "CallRow.has_more" sHasMore ["self"])
  (mR_take_number : Mth K CR "take_number" "CallRow.take_number" sTakeNumber ["self"])
  (mR_take_text : Mth K CR "take_text" "CallRow.take_text" sTakeText ["self"])
  (mD_init : Mth K CD "__init__" "Desk.__init__" sDesk ["self"])
  (t_is_control : Top K mg "is_control" sIsControl ["byte"])
  (t_part_units : Top K mg "part_units" sPart ["text", "start", "end"])
  (t_backslash_unit : Top K mg "backslash_unit" sBack ["text", "at", "end"])
  (t_is_plain : Top K mg "is_plain" sIsPlain ["unit", "wanted"])
  (t_trimmed : Top K mg "trimmed" sTrimmed ["units", "blanks"])
  (t_node_text : Top K mg "node_text" sNodeText ["units", "line_ends"])
  (t_check_unit : Top K mg "check_unit" sCheckUnit ["unit", "line_ends"])
  (t_check_room : Top K mg "check_room" sRoom ["nodes", "depth", "place"])
  (t_read_braces : Top K mg "read_braces" sReadBraces ["text"])
  (t_take_piece : Top K mg "take_piece" sTakePiece ["nodes", "depth", "piece"])
  (t_take_mark : Top K mg "take_mark" sTakeMark ["openers", "unit", "gave_node"])
  (t_read_layout : Top K mg "read_layout" sReadLayout ["text"])
  (t_line_end : Top K mg "line_end" sLineEnd ["text", "start"])
  (t_line_units : Top K mg "line_units" sLineUnits ["text", "start", "end"])
  (t_take_line : Top K mg "take_line" sTakeLine ["nodes", "columns", "units", "start"])
  (t_parent_line : Top K mg "parent_line" sParentLine ["columns", "column"])
  (t_check_column : Top K mg "check_column" sCheckColumn ["columns", "parent", "column", "place"])
  (t_write_layout : Top K mg "write_layout" sWriteLayout ["nodes", "step"])
  (t_write_braces : Top K mg "write_braces" sWriteBraces ["nodes"])
  (t_marks_between : Top K mg "marks_between" sMarks ["depth", "depth_after"])
  (t_guarded : Top K mg "guarded" sGuarded ["text", "form"])
  (t_needs_backslash : Top K mg "needs_backslash" sNeeds ["text", "at", "form"])
  (t_answers : Top K mg "answers" sAnswers ["calls"])
  (t_answer_call : Top K mg "answer_call" sAnswerCall ["desk", "row"])
  (t_answer_init : Top K mg "answer_init" sAnswerInit ["desk"])
  (t_answer_read : Top K mg "answer_read" sAnswerRead ["desk", "form", "text"])
  (t_line_and_column : Top K mg "line_and_column" sLineCol ["text", "place"])
  (t_answer_write : Top K mg "answer_write" sAnswerWrite ["nodes", "form", "step"])
  (t_add_child : Top K mg "add_child" sAddChild ["nodes", "parent", "text"])
  (t_is_text : Top K mg "is_text" sIsText ["text"])
  (t_cut_out : Top K mg "cut_out" sCutOut ["nodes", "i"])
  (t_move_in : Top K mg "move_in" sMoveIn ["nodes", "i"])
  (t_move_out : Top K mg "move_out" sMoveOut ["nodes", "i"])
  (t_answer_about_node : Top K mg "answer_about_node" sAboutNode ["nodes", "number", "i"])
  (t_ask_about_node : Top K mg "ask_about_node" sAskNode ["nodes", "number", "i"])
  (t_answer_find : Top K mg "answer_find" sAnswerFind ["nodes", "parent", "text"])
  (cs : Csts mg)
  (fc : FCsts mg)
  (wc : WCsts mg)
  (dc : DCsts mg)
  (oc : OCsts mg)
  (B : Blt mg)
  (flt : FltF K mg) :
    ∃ fd : FuncData, (∀ (s : Shared) (us : List Value), us.length = (["calls"] : List Str).length → BindsTo s fd ⟨us, []⟩ ((["calls"] : List Str).zip us)) ∧ ∀ base : Heap, K.In base → base.Ns mainGlobals mg → FnOk P w K mg base CX0 10 fa fd ["calls"] (spAnswers K) := by
  obtain ⟨CF, fFl, fdFl, mFl, xFl, kFl, iFl, FFl, bFl⟩ := flt
  have TU_ : TU K mg CU := ⟨cU.cl, nU_place, nU_byte, nU_plain, cU.mgC⟩
  have TN_ : TN K mg CN := ⟨cN.cl, nN_texts, nN_depths, cN.mgC⟩
  have TR_ : TR K mg CR := ⟨cR.cl, nR_calls, nR_taken, cR.mgC⟩
  have TD_ : TD K mg CD := ⟨cD.cl, nD_nodes, cD.mgC⟩
  obtain ⟨fUi, fdUi, FUi, mUi, bUi⟩ := mU_init
  obtain ⟨fNi, fdNi, FNi, mNi, bNi⟩ := mN_init
  obtain ⟨fNs, fdNs, FNs, mNs, bNs⟩ := mN_size
  obtain ⟨fNa, fdNa, FNa, mNa, bNa⟩ := mN_add_last
  obtain ⟨fNp, fdNp, FNp, mNp, bNp⟩ := mN_parent_of
  obtain ⟨fNe, fdNe, FNe, mNe, bNe⟩ := mN_block_end
  obtain ⟨fNu, fdNu, FNu, mNu, bNu⟩ := mN_put_at
  obtain ⟨fNt, fdNt, FNt, mNt, bNt⟩ := mN_take_out
  obtain ⟨fNm, fdNm, FNm, mNm, bNm⟩ := mN_move_behind
  obtain ⟨fNh, fdNh, FNh, mNh, bNh⟩ := mN_shift
  obtain ⟨fNb, fdNb, FNb, mNb, bNb⟩ := mN_depth_below
  obtain ⟨fNq, fdNq, FNq, mNq, bNq⟩ := mN_path_to
  obtain ⟨fRi, fdRi, FRi, mRi, bRi⟩ := mR_init
  obtain ⟨fRh, fdRh, FRh, mRh, bRh⟩ := mR_has_more
  obtain ⟨fRn, fdRn, FRn, mRn, bRn⟩ := mR_take_number
  obtain ⟨fRt, fdRt, FRt, mRt, bRt⟩ := mR_take_text
  obtain ⟨fDi, fdDi, FDi, mDi, bDi⟩ := mD_init
  have MU : Mk K CU fUi := ⟨cU.mks, mUi.at_, mUi.fn, cU.kc⟩
  have MN : Mk K CN fNi := ⟨cN.mks, mNi.at_, mNi.fn, cN.kc⟩
  have MR : Mk K CR fRi := ⟨cR.mks, mRi.at_, mRi.fn, cR.kc⟩
  have MD : Mk K CD fDi := ⟨cD.mks, mDi.at_, mDi.fn, cD.kc⟩
  obtain ⟨f1, fd1, F1, m1, b1, k1⟩ := t_part_units
  obtain ⟨f2, fd2, F2, m2, b2, k2⟩ := t_backslash_unit
  obtain ⟨f3, fd3, F3, m3, b3, k3⟩ := t_is_plain
  obtain ⟨f4, fd4, F4, m4, b4, k4⟩ := t_trimmed
  obtain ⟨f5, fd5, F5, m5, b5, k5⟩ := t_node_text
  obtain ⟨f6, fd6, F6, m6, b6, k6⟩ := t_check_unit
  obtain ⟨f7, fd7, F7, m7, b7, k7⟩ := t_check_room
  obtain ⟨f8, fd8, F8, m8, b8, k8⟩ := t_read_braces
  obtain ⟨f9, fd9, F9, m9, b9, k9⟩ := t_take_piece
  obtain ⟨f10, fd10, F10, m10, b10, k10⟩ := t_take_mark
  obtain ⟨f11, fd11, F11, m11, b11, k11⟩ := t_read_layout
  obtain ⟨f12, fd12, F12, m12, b12, k12⟩ := t_line_end
  obtain ⟨f13, fd13, F13, m13, b13, k13⟩ := t_line_units
  obtain ⟨f14, fd14, F14, m14, b14, k14⟩ := t_take_line
  obtain ⟨f15, fd15, F15, m15, b15, k15⟩ := t_parent_line
  obtain ⟨f16, fd16, F16, m16, b16, k16⟩ := t_check_column
  obtain ⟨f17, fd17, F17, m17, b17, k17⟩ := t_write_layout
  obtain ⟨f18, fd18, F18, m18, b18, k18⟩ := t_write_braces
  obtain ⟨f19, fd19, F19, m19, b19, k19⟩ := t_marks_between
  obtain ⟨f20, fd20, F20, m20, b20, k20⟩ := t_guarded
  obtain ⟨f21, fd21, F21, m21, b21, k21⟩ := t_needs_backslash
  obtain ⟨f22, fd22, F22, m22, b22, k22⟩ := t_answers
  obtain ⟨f23, fd23, F23, m23, b23, k23⟩ := t_answer_call
  obtain ⟨f24, fd24, F24, m24, b24, k24⟩ := t_answer_init
  obtain ⟨f25, fd25, F25, m25, b25, k25⟩ := t_answer_read
  obtain ⟨f26, fd26, F26, m26, b26, k26⟩ := t_line_and_column
  obtain ⟨f27, fd27, F27, m27, b27, k27⟩ := t_answer_write
  obtain ⟨f28, fd28, F28, m28, b28, k28⟩ := t_is_control
  obtain ⟨f29, fd29, F29, m29, b29, k29⟩ := t_add_child
  obtain ⟨f30, fd30, F30, m30, b30, k30⟩ := t_is_text
  obtain ⟨f31, fd31, F31, m31, b31, k31⟩ := t_cut_out
  obtain ⟨f32, fd32, F32, m32, b32, k32⟩ := t_move_in
  obtain ⟨f33, fd33, F33, m33, b33, k33⟩ := t_move_out
  obtain ⟨f34, fd34, F34, m34, b34, k34⟩ := t_answer_about_node
  obtain ⟨f35, fd35, F35, m35, b35, k35⟩ := t_ask_about_node
  obtain ⟨f36, fd36, F36, m36, b36, k36⟩ := t_answer_find
  cases hfa.symm.trans m22
  refine ⟨fd22, fun s us hl => ?_, fun base _ _ => ?_⟩
  · obtain ⟨oc, od, kV, doc, pm, an, cdv, ct, osl, rfl, _⟩ := F22.ex
    exact match us, hl with | [_], _ => .of_eq rfl
  · have GFl := ok_fault (P := P) (w := w) (mg := mg) (base := base) FFl xFl
    have R : TF P w K mg base CF fFl fdFl := ⟨mFl, xFl, kFl, iFl, GFl, bFl⟩
    have GUi := ok_unit (P := P) (w := w) (base := base) FUi TU_
    have GNi := ok_nodes (P := P) (w := w) (base := base) FNi TN_
    have GNs := ok_size (P := P) (w := w) (base := base) FNs TN_ B
    have GNu := ok_putat (P := P) (w := w) (base := base) FNu TN_
    have GNa := ok_addlast FNa TN_ GNu bNu mNu GNs bNs mNs
    have GNp := ok_parentof (P := P) (w := w) (base := base) FNp TN_ B
    have GNe := ok_blockend FNe TN_ GNs bNs mNs
    have GNb := ok_depthbelow (P := P) (w := w) (base := base) FNb TN_
    have GNq := ok_pathto FNq TN_ GNp bNp mNp
    have GNt := ok_takeout (P := P) (w := w) (base := base) FNt TN_
    have GNm := ok_movebehind (P := P) (w := w) (base := base) FNm TN_
    have GNh := ok_shift (P := P) (w := w) (base := base) FNh TN_ B
    have G28 := ok_iscontrol (P := P) (w := w) (base := base) F28 cs
    have G3 := ok_isplain (P := P) (w := w) (base := base) F3 TU_
    have G2 := ok_back F2 TU_ cs MU GUi bUi
    have G1 := ok_part F1 TU_ cs MU GUi bUi G2 b2 m2 k2
    have G4 := ok_trim F4 B G3 b3 m3 k3
    have G6 := ok_checkunit F6 TU_ cs fc R G28 b28 m28 k28
    have G5 := ok_nodetext F5 TU_ B fc R G6 b6 m6 k6
    have G7 := ok_room F7 TN_ fc R GNs bNs mNs
    have G9 := ok_takepiece F9 TN_ TU_ B cs G4 b4 m4 k4 G7 b7 m7 k7 GNa bNa mNa G5 b5 m5 k5
    have G10 := ok_takemark F10 TU_ B cs fc R
    have G8 := ok_readbraces F8 TN_ B cs fc MN R GNi bNi G1 b1 m1 k1 G3 b3 m3 k3 G9 b9 m9 k9 G10 b10 m10 k10
    have G12 := ok_lineend (P := P) (w := w) (base := base) F12 B cs
    have G13 := ok_lineunits F13 cs G4 b4 m4 k4 G1 b1 m1 k1
    have G15 := ok_parentline (P := P) (w := w) (base := base) F15 B
    have G16 := ok_checkcolumn F16 B fc R
    have G14 := ok_takeline F14 TN_ TU_ B cs G3 b3 m3 k3 G15 b15 m15 k15 G16 b16 m16 k16 G7 b7 m7 k7 GNb bNb mNb GNa bNa mNa G5 b5 m5 k5
    have G11 := ok_readlayout F11 TN_ B MN GNi bNi G12 b12 m12 k12 G14 b14 m14 k14 G13 b13 m13 k13
    have G21 := ok_needs (P := P) (w := w) (base := base) F21 B cs wc
    have G20 := ok_guarded F20 B cs G21 b21 m21 k21
    have G19 := ok_marks (P := P) (w := w) (base := base) F19 cs
    have G17 := ok_writelayout F17 TN_ B cs wc GNs bNs mNs G20 b20 m20 k20
    have G18 := ok_writebraces F18 TN_ B cs wc GNs bNs mNs G20 b20 m20 k20 G19 b19 m19 k19
    have G26 := ok_linecol (P := P) (w := w) (base := base) F26 cs
    have G25 := ok_answerread F25 TD_ cs wc dc R G11 b11 m11 k11 G8 b8 m8 k8 G26 b26 m26 k26
    have G24 := ok_answerinit F24 TD_ TN_ MN GNi bNi
    have G27 := ok_answerwrite F27 B wc dc G17 b17 m17 k17 G18 b18 m18 k18
    have GRi := ok_row (P := P) (w := w) (base := base) FRi TR_
    have GRh := ok_hasmore (P := P) (w := w) (base := base) FRh TR_ B
    have GRn := ok_takenumber (P := P) (w := w) (base := base) FRn TR_
    have GRt := ok_taketext FRt TR_ GRn bRn mRn
    have GDi := ok_desk FDi TD_ TN_ MN GNi bNi
    have G30 := ok_istext F30 B fc G28 b28 m28 k28
    have G29 := ok_addchild F29 TN_ fc dc GNs bNs mNs G30 b30 m30 k30 GNb bNb mNb GNe bNe mNe GNu bNu mNu
    have G31 := ok_cutout F31 TN_ GNe bNe mNe GNt bNt mNt
    have G32 := ok_movein F32 TN_ B fc dc GNp bNp mNp GNe bNe mNe GNh bNh mNh
    have G33 := ok_moveout F33 TN_ dc GNp bNp mNp GNe bNe mNe GNh bNh mNh GNm bNm mNm
    have G35 := ok_asknode F35 TN_ B oc GNp bNp mNp GNe bNe mNe GNq bNq mNq
    have G34 := ok_aboutnode F34 TN_ oc dc GNs bNs mNs G31 b31 m31 k31 G32 b32 m32 k32 G33 b33 m33 k33 G35 b35 m35 k35
    have G36 := ok_answerfind F36 TN_ B dc GNs bNs mNs GNp bNp mNp
    have G23 := ok_answercall F23 TD_ TN_ TR_ oc GRn bRn mRn GRt bRt mRt GNs bNs mNs G24 b24 m24 k24 G25 b25 m25 k25 G27 b27 m27 k27 G34 b34 m34 k34 G36 b36 m36 k36 G29 b29 m29 k29
    exact ok_answers F22 B TR_ TD_ (by decide) MR GRi bRi MD GDi bDi GRh bRh mRh G23 b23 m23 k23
theorem fz_of {K : PySem.W.Frag} {H : Hp} {a : Addr} {xs : List V} (hO : OnlyF H) (h : SqL K H a xs) : FzL K H a xs := by
  rcases h with (h | h) | h
  · rcases hO a with z | ⟨o, u, z⟩
    · rw [z] at h; cases h
    · rw [z] at h; cases h
  · exact .inl h
  · exact .inr h
end My
set_option Elab.async false
set_option linter.all false
set_option maxRecDepth 100000
set_option maxHeartbeats 4000000
section
namespace Hr
open PySem PySem.W PySem.Calls PyProof.Rows
section
variable {α β γ : Type}
noncomputable def fNat (n : Nat) (k : Nat → β) : β := match n with
  | 0 => k 0
  | .succ m => k (.succ m)
theorem fNat_eq (n : Nat) (k : Nat → β) : fNat n k = k n := by cases n <;> rfl
noncomputable def fVal (v : Value) (k : Value → β) : β := match v with
  | .ref a => fNat a fun a => k (.ref a)
  | v => k v
theorem fVal_eq (v : Value) (k : Value → β) : fVal v k = k v := by
  cases v with
  | ref a => exact fNat_eq a (fun a => k (.ref a))
  | _ => rfl
noncomputable def fOpt (v : Option Value) (k : Option Value → β) : β := match v with
  | none => k none
  | some v => fVal v fun v => k (some v)
theorem fOpt_eq (v : Option Value) (k : Option Value → β) : fOpt v k = k v := by
  cases v with
  | none => rfl
  | some v => exact fVal_eq v (fun v => k (some v))
noncomputable def fList (f : α → (α → β) → β) : List α → (List α → β) → β
  | [], k => k []
  | x :: r, k => f x fun x => fList f r fun r => k (x :: r)
theorem fList_eq (f : α → (α → β) → β) (h : ∀ x k, f x k = k x) : ∀ (l : List α) (k : List α → β), fList f l k = k l
  | [], _ => rfl
  | x :: r, k => by
    show f x (fun x => fList f r fun r => k (x :: r)) = _
    rw [h, fList_eq f h r]
noncomputable def fArr (f : α → (α → β) → β) (a : Array α) (k : Array α → β) : β := match a with
  | ⟨l⟩ => fList f l fun l => k ⟨l⟩
theorem fArr_eq (f : α → (α → β) → β) (h : ∀ x k, f x k = k x) (a : Array α) (k : Array α → β) : fArr f a k = k a := by
  obtain ⟨l⟩ := a
  exact fList_eq f h l _
noncomputable def fEntry (e : DictEntry) (k : DictEntry → β) : β := match e with
  | ⟨h, key, v⟩ => fVal key fun key => fVal v fun v => k ⟨h, key, v⟩
theorem fEntry_eq (e : DictEntry) (k : DictEntry → β) : fEntry e k = k e := by
  obtain ⟨h, key, v⟩ := e
  show fVal key (fun key => fVal v fun v => k ⟨h, key, v⟩) = _
  rw [fVal_eq, fVal_eq]
noncomputable def fData (d : Data) (k : Data → β) : β := match d with
  | .seq xs n => fArr fVal xs fun xs => k (.seq xs n)
  | .dict es n => fArr fEntry es fun es => k (.dict es n)
  | .fields xs => fArr fVal xs fun xs => k (.fields xs)
  | .cell v => fOpt v fun v => k (.cell v)
  | d => k d
theorem fData_eq (d : Data) (k : Data → β) : fData d k = k d := by
  cases d with
  | seq xs n => exact fArr_eq _ fVal_eq xs (fun xs => k (.seq xs n))
  | dict es n => exact fArr_eq _ fEntry_eq es (fun es => k (.dict es n))
  | fields xs => exact fArr_eq _ fVal_eq xs (fun xs => k (.fields xs))
  | cell v => exact fOpt_eq v (fun v => k (.cell v))
  | _ => rfl
noncomputable def fObj (o : Obj) (k : Obj → β) : β := match o with
  | ⟨c, d, dt, sl⟩ => fVal c fun c => fData dt fun dt => fArr fOpt sl fun sl => k ⟨c, d, dt, sl⟩
theorem fObj_eq (o : Obj) (k : Obj → β) : fObj o k = k o := by
  obtain ⟨c, d, dt, sl⟩ := o
  show fVal c (fun c => fData dt fun dt => fArr fOpt sl fun sl => k ⟨c, d, dt, sl⟩) = _
  rw [fVal_eq, fData_eq, fArr_eq _ fOpt_eq]
noncomputable def setK (f : Obj → Obj) : BT → Nat → (BT → β) → β
  | .nil, _, k => k .nil
  | .node v l r, i, k => match Nat.beq i 0 with
    | true => fObj (f v) fun o => k (.node o l r)
    | false => match Nat.beq (i % 2) 1 with
      | true => setK f l (i / 2) fun l => k (.node v l r)
      | false => setK f r (i / 2 - 1) fun r => k (.node v l r)
theorem setK_eq (f : Obj → Obj) : ∀ (t : BT) (i : Nat) (k : BT → β), setK f t i k = k (t.set i f)
  | .nil, _, _ => rfl
  | .node v l r, i, k => by
    unfold setK BT.set
    cases Nat.beq i 0 with
    | true => exact fObj_eq _ _
    | false =>
      cases Nat.beq (i % 2) 1 with
      | true => exact setK_eq f l _ _
      | false => exact setK_eq f r _ _
noncomputable def insK (o : Obj) : BT → Nat → (BT → β) → β
  | .nil, _, k => k (.node o .nil .nil)
  | .node v l r, i, k => match Nat.beq i 0 with
    | true => k (.node o l r)
    | false => match Nat.beq (i % 2) 1 with
      | true => insK o l (i / 2) fun l => k (.node v l r)
      | false => insK o r (i / 2 - 1) fun r => k (.node v l r)
theorem insK_eq (o : Obj) : ∀ (t : BT) (i : Nat) (k : BT → β), insK o t i k = k (t.ins i o)
  | .nil, _, _ => rfl
  | .node v l r, i, k => by
    unfold insK BT.ins
    cases Nat.beq i 0 with
    | true => rfl
    | false =>
      cases Nat.beq (i % 2) 1 with
      | true => exact insK_eq o l _ _
      | false => exact insK_eq o r _ _
noncomputable def stepK (den : Code → Sem Fin) (p : Program) (w : World) (s : SharedT) (t : Thread) (k : SharedT → Thread → Option β) : Option β := match s, t with
  | ⟨T, n, life, gens, drawn, toks, os⟩, ⟨cur, code, pos, stack⟩ => match cur with
    | .load a _ kk => match Nat.blt a n with
      | true => match T.get a with
        | some o => match alive o with
          | some o' => k ⟨T, n, life, gens, drawn, toks, os⟩ ⟨kk o', code, pos, stack⟩
          | none => none
        | none => none
      | false => none
    | .update a _ f kk => match Nat.blt a n with
      | true => match T.get a with
        | some o => match alive o with
          | some _ => setK f T a fun T => k ⟨T, n, life, gens, drawn, toks, os⟩ ⟨kk (), code, pos, stack⟩
          | none => none
        | none => none
      | false => none
    | .alloc o kk => fObj o fun o => insK o T n fun T' => match (T'.get n).isSome with
      | true => fNat (n + 1) fun m => k ⟨T', m, life, gens, drawn, toks, os⟩ ⟨kk n, code, pos, stack⟩
      | false => none
    | .loadIfAlive a kk => match Nat.blt a n with
      | true => match T.get a with
        | some o => k ⟨T, n, life, gens, drawn, toks, os⟩ ⟨kk (alive o), code, pos, stack⟩
        | none => none
      | false => k ⟨T, n, life, gens, drawn, toks, os⟩ ⟨kk none, code, pos, stack⟩
    | c => match step den p w ⟨{}, gens, drawn, toks, os⟩ ⟨c, code, pos, stack⟩ with
      | .go ⟨_, gens, drawn, toks, os⟩ t' => fNat toks fun toks => k ⟨T, n, life, gens, drawn, toks, os⟩ t'
      | .halt _ _ => none
theorem stepK_some {den : Code → Sem Fin} {p : Program} {w : World} {s : SharedT} {t : Thread} {k : SharedT → Thread → Option β} {r : β} (h : stepK den p w s t k = some r) : ∃ s' t', stepT den p w s t = some (s', t') ∧ k s' t' = some r := by
  obtain ⟨T, n, life, gens, drawn, toks, os⟩ := s
  obtain ⟨cur, code, pos, stack⟩ := t
  have other : ∀ c, (match step den p w ⟨{}, gens, drawn, toks, os⟩ ⟨c, code, pos, stack⟩ with
      | .go ⟨_, gens, drawn, toks, os⟩ t' => fNat toks fun toks => k ⟨T, n, life, gens, drawn, toks, os⟩ t'
      | .halt _ _ => none) = some r → ∃ s' t', (match step den p w ⟨{}, gens, drawn, toks, os⟩ ⟨c, code, pos, stack⟩ with
      | .go s' t' => some ((⟨T, n, life, s'.gens, s'.drawn, s'.toks, s'.os⟩ : SharedT), t')
      | .halt _ _ => none) = some (s', t') ∧ k s' t' = some r := fun c h => by
    cases e : step den p w ⟨{}, gens, drawn, toks, os⟩ ⟨c, code, pos, stack⟩ with
    | halt o s => rw [e] at h; cases h
    | go s₀ t₀ =>
      rw [e] at h
      obtain ⟨hp, g, d, tk, o⟩ := s₀
      exact ⟨_, _, rfl, (fNat_eq tk (fun toks => k ⟨T, n, life, g, d, toks, o⟩ t₀)).symm.trans h⟩
  cases cur with
  | load a q kk =>
    cases e : Nat.blt a n with
    | false => simp only [stepK, e] at h; cases h
    | true =>
      cases g : T.get a with
      | none => simp only [stepK, e, g] at h; cases h
      | some o =>
        cases al : alive o with
        | none => simp only [stepK, e, g, al] at h; cases h
        | some o' => simp only [stepK, e, g, al] at h; exact ⟨_, _, by simp only [stepT, e, g, al], h⟩
  | update a q f kk =>
    cases e : Nat.blt a n with
    | false => simp only [stepK, e] at h; cases h
    | true =>
      cases g : T.get a with
      | none => simp only [stepK, e, g] at h; cases h
      | some o =>
        cases al : alive o with
        | none => simp only [stepK, e, g, al] at h; cases h
        | some o' => simp only [stepK, e, g, al, setK_eq] at h; exact ⟨_, _, by simp only [stepT, e, g, al], h⟩
  | alloc o kk =>
    simp only [stepK, fObj_eq, insK_eq, fNat_eq] at h
    cases e : ((T.ins n o).get n).isSome with
    | false => simp only [e] at h; cases h
    | true => simp only [e] at h; exact ⟨_, _, by simp only [stepT, e], h⟩
  | loadIfAlive a kk =>
    cases e : Nat.blt a n with
    | false => simp only [stepK, e] at h; exact ⟨_, _, by simp only [stepT, e], h⟩
    | true =>
      cases g : T.get a with
      | none => simp only [stepK, e, g] at h; cases h
      | some o => simp only [stepK, e, g] at h; exact ⟨_, _, by simp only [stepT, e, g], h⟩
  | _ => exact other _ (by simpa only [stepK] using h)
noncomputable def runK (tb : String → Option Builtin) (p : Program) (w : World) (n₀ : Nat) (ann : Option Value) (k : SharedT → Option β) : Nat → SharedT → Thread → Option β
  | 0, _, _ => none
  | n + 1, s, t => match through t with
    | true => k s
    | false => match stepOk n₀ ann t with
      | false => none
      | true => stepK (denote tb) p w s t fun s t => runK tb p w n₀ ann k n s t
theorem runK_some {tb : String → Option Builtin} {p : Program} {w : World} {n₀ : Nat} {ann : Option Value} {k : SharedT → Option β} {r : β} : ∀ {n : Nat} {s : SharedT} {t : Thread}, runK tb p w n₀ ann k n s t = some r → ∃ s', topRun tb p w n₀ ann n s.abs t = some s'.abs ∧ k s' = some r
  | 0, _, _, h => by cases h
  | n + 1, s, t, h => by
    unfold runK at h
    unfold topRun
    cases ht : through t with
    | true => rw [ht] at h; exact ⟨s, rfl, h⟩
    | false =>
      rw [ht] at h
      cases hk : stepOk n₀ ann t with
      | false => rw [hk] at h; cases h
      | true =>
        rw [hk] at h
        obtain ⟨s', t', e, q⟩ := stepK_some h
        obtain ⟨s₂, e2, q2⟩ := runK_some q
        refine ⟨s₂, ?_, q2⟩
        rw [stepT_spec e]
        exact e2
noncomputable def treeK (k : BT → Nat → Option β) : List Obj → BT → Nat → Option β
  | [], T, n => k T n
  | o :: r, T, n => insK o T n fun T' => match (T'.get n).isSome with
    | true => fNat (n + 1) fun m => treeK k r T' m
    | false => none
theorem treeK_some {k : BT → Nat → Option β} {r : β} {life : Life} : ∀ {l l0 : List Obj} {T : BT} {n : Nat}, absHeap T n life = ⟨l0.toArray, life⟩ → treeK k l T n = some r → ∃ T' n', absHeap T' n' life = ⟨(l0 ++ l).toArray, life⟩ ∧ k T' n' = some r
  | [], l0, T, n, e, h => ⟨T, n, by rw [List.append_nil]; exact e, h⟩
  | o :: l, l0, T, n, e, h => by
    unfold treeK at h
    rw [insK_eq] at h
    cases q : ((T.ins n o).get n).isSome with
    | false => rw [q] at h; cases h
    | true =>
      rw [q] at h
      have h : treeK k l (T.ins n o) (n + 1) = some r := by
        have z := fNat_eq (n + 1) (fun m => treeK k l (T.ins n o) m)
        exact z ▸ h
      have e2 : absHeap (T.ins n o) (n + 1) life = ⟨(l0 ++ [o]).toArray, life⟩ := by
        rw [absHeap_ins q, e]
        simp [Heap.push]
      obtain ⟨T', n', e3, k3⟩ := treeK_some e2 h
      exact ⟨T', n', by rw [e3, List.append_assoc]; rfl, k3⟩
noncomputable def endF (f : Shared → γ) (S : SharedT) : Option γ := match S with
  | ⟨T, n, life, gens, drawn, toks, os⟩ => fList fObj (T.list n) fun l => some (f ⟨⟨⟨l⟩, life⟩, gens, drawn, toks, os⟩)
noncomputable def wholeF (p : Program) (N : Nat) (f : Shared → γ) (w : World) (os : OsState) : Option γ := match boot_heap w.params with
  | ⟨⟨l⟩, life⟩ => match (Heap.mk ⟨l⟩ life).isNs mainGlobals with
    | true => fNat l.length fun n₀ => fOpt ((Heap.mk ⟨l⟩ life).nsMap mainGlobals "__annotations__") fun ann =>
      treeK (fun T n => runK treeTable p w n₀ ann (endF f) N ⟨T, n, life, ⟨[]⟩, boot_drawn, boot_toks, os⟩ (topStub p)) l .nil 0
    | false => none
def Ends (p : Program) (N : Nat) (w : World) (os : OsState) (s : Shared) : Prop :=
  topRun treeTable p w (boot_heap w.params).objs.size ((boot_heap w.params).nsMap mainGlobals "__annotations__") N ⟨boot_heap w.params, ⟨[]⟩, boot_drawn, boot_toks, os⟩ (topStub p) = some s
theorem Ends.same {p : Program} {N : Nat} {w : World} {os : OsState} {s s' : Shared} (h : Ends p N w os s) (h' : Ends p N w os s') : s = s' := Option.some.inj (h.symm.trans h')
theorem wholeF_some {p : Program} {N : Nat} {f : Shared → γ} {w : World} {os : OsState} {r : γ} (h : wholeF p N f w os = some r) : (boot_heap w.params).isNs mainGlobals = true ∧ ∃ s, Ends p N w os s ∧ f s = r := by
  unfold wholeF at h
  unfold Ends
  generalize boot_heap w.params = bh at h ⊢
  obtain ⟨⟨l⟩, life⟩ := bh
  dsimp only at h
  cases hn : (Heap.mk ⟨l⟩ life).isNs mainGlobals with
  | false => rw [hn] at h; cases h
  | true =>
    rw [hn] at h
    dsimp only at h
    rw [fNat_eq, fOpt_eq] at h
    obtain ⟨T, n, eT, h⟩ := treeK_some (l0 := []) (T := .nil) (n := 0) (life := life) rfl h
    obtain ⟨S, eS, h⟩ := runK_some h
    have e0 : SharedT.abs ⟨T, n, life, ⟨[]⟩, boot_drawn, boot_toks, os⟩ = ⟨⟨⟨l⟩, life⟩, ⟨[]⟩, boot_drawn, boot_toks, os⟩ := by
      unfold SharedT.abs
      dsimp only
      rw [eT]
      rfl
    rw [e0] at eS
    obtain ⟨T2, n2, life2, gens, drawn, toks, os2⟩ := S
    unfold endF at h
    dsimp only at h
    rw [fList_eq _ fObj_eq] at h
    exact ⟨rfl, _, eS, Option.some.inj h⟩
theorem left_looks {p q : Program} {loose : List Str} {Xt : Shared → Bool} {α : Type} {Yf : Shared → α} {Ya : World → α} {N : Nat}
    (o : ∀ w : World, (fencedOpening treeTable p w N).map (fun s => (s.heap, s.gens, s.drawn, s.toks)) = some (boot_heap w.params, Array.mk [], boot_drawn, boot_toks))
    (h : ∀ (w : World) (os : OsState), (boot_heap w.params).isNs mainGlobals = true ∧ ∃ s, Ends p N w os s ∧ (staticsOk (importedModules p.main.body) (boot_heap w.params) s.heap && namesBound p s.heap && gensDone s && laidKept (boot_heap w.params) s.heap) = true ∧
      openSeen q loose (importedModules p.main.body) Xt true s = openGood q loose ∧ Yf s = Ya w) : LeftO p q loose Xt Yf Ya N := fun w => by
  obtain ⟨⟨hp, gs, d, k, os⟩, e, e'⟩ := Option.map_eq_some_iff.mp (o w)
  obtain ⟨rfl, rfl, rfl, rfl⟩ : hp = boot_heap w.params ∧ gs = Array.mk [] ∧ d = boot_drawn ∧ k = boot_toks := by simpa using e'
  obtain ⟨hn, s, eS, h1, h2, h3⟩ := h w os
  unfold openEnds
  rw [e]
  show (topFrom treeTable p w N _).map _ = _
  unfold topFrom
  dsimp only
  rw [hn]
  show (Option.bind (topRun treeTable p w _ _ N _ _) _).map _ = _
  unfold Ends at eS
  rw [eS]
  show (match staticsOk (importedModules p.main.body) (boot_heap w.params) s.heap && namesBound p s.heap && gensDone s && laidKept (boot_heap w.params) s.heap with | true => some s | false => none).map _ = _
  rw [h1]
  exact congrArg some (Prod.ext h2 h3)
end
end Hr
namespace Hr
open PySem PySem.W PySem.Calls PyProof.Rows
local macro_rules | `(tactic| o_headS $H) => `(tactic| refine (show ∀ H : PySem.W.Hook, PySem.Challenge.rw_outlinetexts_s01_answers.Holds by assumption) $H)
theorem aux (h : ∀ H : PySem.W.Hook, PySem.Challenge.rw_outlinetexts_s01_answers.Holds) : PySem.Challenge.rw_outlinetexts_s01_answers.Holds := by
  w_on
  k_headS
end Hr
namespace Hr
open PySem PySem.W PySem.Calls PyProof.Rows
abbrev Pg : Program := PySem.Challenge.pw_outlinetexts_s01_answers
noncomputable def Qg : Program := view PySem.Challenge.pw_outlinetexts_s01_answers [1, 2, 3, 4, 5, 6, 7, 8, 9, 10, 11, 13, 14, 15, 16, 17, 18, 19, 20, 21, 22, 23, 24, 25, 26, 27, 29, 30, 32, 33, 34, 35, 36, 37, 38, 39, 41, 42, 43, 44, 45, 46, 47, 49, 50, 51, 52, 53, 55, 56, 57, 58, 59, 60, 62, 63, 64, 65, 66, 68, 69, 70, 71, 72, 73, 74, 75, 76, 77, 78, 79, 80, 81, 82, 83, 84, 85, 86, 87, 88, 89, 90, 91, 92, 93]
noncomputable def as : List Addr := [2, 3, 15, 22, 24, 25, 27, 28, 29, 30, 31, 32, 35, 37, 38, 40, 41, 49, 51, 52, 54, 55, 56, 58, 59, 61, 62, 63, 65, 66, 68, 69, 70, 72, 73, 75, 76, 77, 79, 80, 82, 83, 84, 86, 87, 89, 90, 91, 93, 94, 96, 97, 98, 100, 101, 103, 104, 105, 107, 108, 110, 111, 112, 114, 115, 117, 118, 119, 121, 122, 124, 125, 126, 127, 128, 129, 130, 133, 135, 136, 138, 139, 147, 149, 150, 152, 153, 154, 155, 156, 157, 158, 161, 163, 164, 166, 167, 168, 170, 171, 173, 174, 175, 177, 178, 180, 181, 182, 184, 185, 187, 188, 189, 192, 193, 194, 196, 197, 199, 200, 201, 203, 204, 206, 207, 208, 210, 211, 213, 214, 215, 217, 218, 220, 221, 222, 224, 225, 227, 228, 229, 232, 233, 234, 236, 237, 239, 240, 241, 243, 244, 246, 247, 248, 250, 251, 253, 254, 255, 257, 258, 260, 261, 262, 264, 265, 267, 268, 269, 271, 272, 274, 275, 276, 278, 279, 281, 282, 283, 285, 286, 288, 289, 290, 292, 293, 295, 296, 297, 299, 300, 302, 303, 304, 306, 307, 309, 310, 311, 313, 314, 316, 317, 318, 320, 321, 323, 324, 325, 327, 328, 330, 331, 332, 339, 341, 342, 344, 345, 346, 347, 348, 349, 359, 361, 362, 364, 365, 366, 368, 369, 371, 372, 373, 375, 376, 378, 379, 380, 382, 383, 385, 386, 387, 388, 389, 390, 391, 401, 403, 404, 406, 407, 408, 409, 410, 411, 412, 415, 417, 418, 420, 421, 422, 424, 425, 427, 428, 429, 431, 432, 434, 435, 436, 438, 439, 441, 442, 443, 445, 446, 448, 449, 450, 452, 453, 455, 456, 457, 459, 460, 462, 463, 464, 466, 467, 469, 470, 471, 473, 474, 476, 477]
noncomputable def Xt (s : Shared) : Bool := xlAt Qg [] s && recOk [] s
theorem as_eq : ∀ P, as = (aux.heap_1 P).map (·.1) := fun _ => by kernel_rfl
noncomputable def lhsA (w : World) (os : OsState) := wholeF PySem.Challenge.pw_outlinetexts_s01_answers 6908 (fun s => (staticsOk (importedModules PySem.Challenge.pw_outlinetexts_s01_answers.main.body) (boot_heap w.params) s.heap && namesBound PySem.Challenge.pw_outlinetexts_s01_answers s.heap && gensDone s && laidKept (boot_heap w.params) s.heap, tabsOk Qg s, s.heap.bltView, pinSeenD Qg (drecsOf Qg) s, plainSeenD Qg [] s)) w os
noncomputable def rhsA (w : World) := (true, true, bltViewBooted, pinGoodD (drecsOf Qg), plainGoodD Qg [])
theorem lhsA_is : lhsA = lhsA := rfl
theorem rhsA_is : rhsA = rhsA := rfl
noncomputable def lhsB (w : World) (os : OsState) := wholeF PySem.Challenge.pw_outlinetexts_s01_answers 6908 (fun s => seen ((recsOf Qg).map (·.name)) (ownsOf Qg) [] { s with gens := #[] }) w os
noncomputable def rhsB (w : World) := expectedOf Qg
theorem lhsB_is : lhsB = lhsB := rfl
theorem rhsB_is : rhsB = rhsB := rfl
noncomputable def lhsC (w : World) (os : OsState) := wholeF PySem.Challenge.pw_outlinetexts_s01_answers 6908 (fun s => s.heap.keysOk (looseW Qg []) ((recsOf Qg).map (·.name)) ((litsOf Qg).map (·.1)) ((clssOf Qg (looseW Qg [])).map (·.name)) && s.heap.accountedOkI (importedModules PySem.Challenge.pw_outlinetexts_s01_answers.main.body) && s.heap.isNs mainGlobals && s.heap.isNs builtinsNs && tablesOk Qg s.heap && Xt s && (if true then s.gens.size == 0 else !leftWithCleanup s.gens)) w os
noncomputable def rhsC (w : World) := true
theorem lhsC_is : lhsC = lhsC := rfl
theorem rhsC_is : rhsC = rhsC := rfl
noncomputable def lhsD (w : World) (os : OsState) := wholeF PySem.Challenge.pw_outlinetexts_s01_answers 6908 (fun s => plainSeenE Qg (looseW Qg []) s) w os
noncomputable def rhsD (w : World) := plainGoodE Qg (looseW Qg [])
theorem lhsD_is : lhsD = lhsD := rfl
theorem rhsD_is : rhsD = rhsD := rfl
noncomputable def lhsE (w : World) (os : OsState) := wholeF PySem.Challenge.pw_outlinetexts_s01_answers 6908 (fun s => wideSeen Qg s) w os
noncomputable def rhsE (w : World) := wideGood Qg
theorem lhsE_is : lhsE = lhsE := rfl
theorem rhsE_is : rhsE = rhsE := rfl
noncomputable def lhsF (w : World) (os : OsState) := wholeF PySem.Challenge.pw_outlinetexts_s01_answers 6908 (fun s => (clsSeenW Qg [] s, as.map s.heap.get?)) w os
noncomputable def rhsF (w : World) := (clsGoodW Qg [], (aux.heap_1 w.params).map fun p => some p.2)
theorem lhsF_is : lhsF = lhsF := rfl
theorem rhsF_is : rhsF = rhsF := rfl
end Hr
name_quick lhsAQ for Hr.lhsA by Hr.lhsA_is
name_quick rhsAQ for Hr.rhsA by Hr.rhsA_is
name_quick lhsBQ for Hr.lhsB by Hr.lhsB_is
name_quick rhsBQ for Hr.rhsB by Hr.rhsB_is
name_quick lhsCQ for Hr.lhsC by Hr.lhsC_is
name_quick lhsDQ for Hr.lhsD by Hr.lhsD_is
name_quick rhsDQ for Hr.rhsD by Hr.rhsD_is
name_quick lhsEQ for Hr.lhsE by Hr.lhsE_is
name_quick rhsEQ for Hr.rhsE by Hr.rhsE_is
name_quick lhsFQ for Hr.lhsF by Hr.lhsF_is
name_quick rhsFQ for Hr.rhsF by Hr.rhsF_is
namespace Hr
open PySem PySem.W PySem.Calls PyProof.Rows
theorem runA (w : World) (os : OsState) : PySem.W.Fast.lhsAQ w os = some (PySem.W.Fast.rhsAQ w) := by kernel_rfl
theorem lookA (w : World) (os : OsState) : lhsA w os = some (rhsA w) := (congrFun (congrFun PySem.W.Fast.lhsAQ_eq w) os).trans ((runA w os).trans (congrArg some (congrFun PySem.W.Fast.rhsAQ_eq w).symm))
theorem runB (w : World) (os : OsState) : PySem.W.Fast.lhsBQ w os = some (PySem.W.Fast.rhsBQ w) := by kernel_rfl
theorem lookB (w : World) (os : OsState) : lhsB w os = some (rhsB w) := (congrFun (congrFun PySem.W.Fast.lhsBQ_eq w) os).trans ((runB w os).trans (congrArg some (congrFun PySem.W.Fast.rhsBQ_eq w).symm))
theorem runC (w : World) (os : OsState) : PySem.W.Fast.lhsCQ w os = some (rhsC w) := by kernel_rfl
theorem lookC (w : World) (os : OsState) : lhsC w os = some (rhsC w) := (congrFun (congrFun PySem.W.Fast.lhsCQ_eq w) os).trans ((runC w os).trans rfl)
theorem runD (w : World) (os : OsState) : PySem.W.Fast.lhsDQ w os = some (PySem.W.Fast.rhsDQ w) := by kernel_rfl
theorem lookD (w : World) (os : OsState) : lhsD w os = some (rhsD w) := (congrFun (congrFun PySem.W.Fast.lhsDQ_eq w) os).trans ((runD w os).trans (congrArg some (congrFun PySem.W.Fast.rhsDQ_eq w).symm))
theorem runE (w : World) (os : OsState) : PySem.W.Fast.lhsEQ w os = some (PySem.W.Fast.rhsEQ w) := by kernel_rfl
theorem lookE (w : World) (os : OsState) : lhsE w os = some (rhsE w) := (congrFun (congrFun PySem.W.Fast.lhsEQ_eq w) os).trans ((runE w os).trans (congrArg some (congrFun PySem.W.Fast.rhsEQ_eq w).symm))
theorem runF (w : World) (os : OsState) : PySem.W.Fast.lhsFQ w os = some (PySem.W.Fast.rhsFQ w) := by kernel_rfl
theorem lookF (w : World) (os : OsState) : lhsF w os = some (rhsF w) := (congrFun (congrFun PySem.W.Fast.lhsFQ_eq w) os).trans ((runF w os).trans (congrArg some (congrFun PySem.W.Fast.rhsFQ_eq w).symm))
theorem opens : ∀ w : World, (fencedOpening treeTable PySem.Challenge.pw_outlinetexts_s01_answers w 6908).map (fun s => (s.heap, s.gens, s.drawn, s.toks)) = some (boot_heap w.params, Array.mk [], boot_drawn, boot_toks) :=
  boot_open (by kernel_rfl) (by decide +kernel) (fun s => by kernel_rfl)
theorem left : LeftO PySem.Challenge.pw_outlinetexts_s01_answers Qg [] Xt (Hook.obs (kHook aux.heap_1 as as_eq)) (Hook.val (kHook aux.heap_1 as as_eq)) 6908 := by
  refine left_looks opens fun w os => ?_
  obtain ⟨hn, s, e, hA⟩ := wholeF_some (lookA w os)
  obtain ⟨_, sB, eB, hB⟩ := wholeF_some (lookB w os)
  obtain ⟨_, sC, eC, hC⟩ := wholeF_some (lookC w os)
  obtain ⟨_, sD, eD, hD⟩ := wholeF_some (lookD w os)
  obtain ⟨_, sE, eE, hE⟩ := wholeF_some (lookE w os)
  obtain ⟨_, sF, eF, hF⟩ := wholeF_some (lookF w os)
  cases e.same eB
  cases e.same eC
  cases e.same eD
  cases e.same eE
  cases e.same eF
  refine ⟨hn, s, e, congrArg (fun x => x.1) hA, ?_, congrArg (fun x => x.2) hF⟩
  exact Prod.ext hB (Prod.ext (congrArg (fun x => x.2.2.1) hA) (Prod.ext hC (Prod.ext (congrArg (fun x => x.2.1) hA) (Prod.ext (congrArg (fun x => x.2.2.2.1) hA) (Prod.ext hD (Prod.ext (congrArg (fun x => x.2.2.2.2) hA) (Prod.ext hE (congrArg (fun x => x.1) hF))))))))
end Hr
end
theorem PySem.Challenge.cw_outlinetexts_s01_answers_holds : PySem.Challenge.rw_outlinetexts_s01_answers.Holds := by
  w_on
  refine PySem.W.holds_os (q := Hr.Qg) (loose := []) (Xt := Hr.Xt) (XP := PySem.W.XL Hr.Qg []) (Yf := PySem.W.Hook.obs (PySem.W.kHook Hr.aux.heap_1 Hr.as Hr.as_eq)) (Ya := PySem.W.Hook.val (PySem.W.kHook Hr.aux.heap_1 Hr.as Hr.as_eq)) (YP := PySem.W.Hook.says (PySem.W.kHook Hr.aux.heap_1 Hr.as Hr.as_eq)) (N := 6908) Hr.left (PySem.W.Hook.of (PySem.W.kHook Hr.aux.heap_1 Hr.as Hr.as_eq)) (PySem.W.Hook.keeps (PySem.W.kHook Hr.aux.heap_1 Hr.as Hr.as_eq)) (fun s e => PySem.W.xl_of s (Bool.and_eq_true_iff.mp e).1) PySem.W.XL.keeps (by rfl) (by rfl) (by rfl) (fun s e => PySem.W.recFacts_of (Bool.and_eq_true_iff.mp e).2) PySem.W.os_shapes (by decide +kernel) (by decide +kernel) ⟨rfl, rfl, rfl, rfl, rfl, by decide +kernel⟩ ?hw ?hc
  case hw => exact ⟨[.list [.int 0]], by decide +kernel, by decide +kernel⟩
  case hc =>
  k_fillS
  refine L2.walk_specK (r := PySem.Challenge.rw_outlinetexts_s01_answers) (k := 10) (K := Hr.aux.heap_1) (CX := L2.CX0) (ps := ["calls"]) (sp := My.spAnswers) (by decide +kernel) rfl rfl ⟨rfl, by decide, by decide⟩ (fun w h Y => PySem.W.kIn_of Y) ?F ?S (fun _ _ _ _ z => z)
  case F =>
    intro w mg fa h Y KX G hmg
    refine' My.all_of hmg
      (My.clF_mk KX G ?aCU ?pgU ?hdU ?poU ?saU ?mkU ?kcU)
      ?nU_place
      ?nU_byte
      ?nU_plain
      (My.clF_mk KX G ?aCN ?pgN ?hdN ?poN ?saN ?mkN ?kcN)
      ?nN_texts
      ?nN_depths
      (My.clF_mk KX G ?aCR ?pgR ?hdR ?poR ?saR ?mkR ?kcR)
      ?nR_calls
      ?nR_taken
      (My.clF_mk KX G ?aCD ?pgD ?hdD ?poD ?saD ?mkD ?kcD)
      ?nD_nodes
      (My.mth_mk (st := My.sUnit) ?amU_init ?imU_init ?lmU_init ?cmU_init ?kmU_init fun _ _ _ _ _ _ us hl => match us, hl with | [_, _, _, _], _ => rfl)
      (My.mth_mk (st := My.sNodes) ?amN_init ?imN_init ?lmN_init ?cmN_init ?kmN_init fun _ _ _ _ _ _ us hl => match us, hl with | [_], _ => rfl)
      (My.mth_mk (st := My.sSize) ?amN_size ?imN_size ?lmN_size ?cmN_size ?kmN_size fun _ _ _ _ _ _ us hl => match us, hl with | [_], _ => rfl)
      (My.mth_mk (st := My.sAddLast) ?amN_add_last ?imN_add_last ?lmN_add_last ?cmN_add_last ?kmN_add_last fun _ _ _ _ _ _ us hl => match us, hl with | [_, _, _], _ => rfl)
      (My.mth_mk (st := My.sParentOf) ?amN_parent_of ?imN_parent_of ?lmN_parent_of ?cmN_parent_of ?kmN_parent_of fun _ _ _ _ _ _ us hl => match us, hl with | [_, _], _ => rfl)
      (My.mth_mk (st := My.sBlockEnd) ?amN_block_end ?imN_block_end ?lmN_block_end ?cmN_block_end ?kmN_block_end fun _ _ _ _ _ _ us hl => match us, hl with | [_, _], _ => rfl)
      (My.mth_mk (st := My.sPutAt) ?amN_put_at ?imN_put_at ?lmN_put_at ?cmN_put_at ?kmN_put_at fun _ _ _ _ _ _ us hl => match us, hl with | [_, _, _, _], _ => rfl)
      (My.mth_mk (st := My.sTakeOut) ?amN_take_out ?imN_take_out ?lmN_take_out ?cmN_take_out ?kmN_take_out fun _ _ _ _ _ _ us hl => match us, hl with | [_, _, _], _ => rfl)
      (My.mth_mk (st := My.sMoveBehind) ?amN_move_behind ?imN_move_behind ?lmN_move_behind ?cmN_move_behind ?kmN_move_behind fun _ _ _ _ _ _ us hl => match us, hl with | [_, _, _, _], _ => rfl)
      (My.mth_mk (st := My.sShift) ?amN_shift ?imN_shift ?lmN_shift ?cmN_shift ?kmN_shift fun _ _ _ _ _ _ us hl => match us, hl with | [_, _, _, _], _ => rfl)
      (My.mth_mk (st := My.sDepthBelow) ?amN_depth_below ?imN_depth_below ?lmN_depth_below ?cmN_depth_below ?kmN_depth_below fun _ _ _ _ _ _ us hl => match us, hl with | [_, _], _ => rfl)
      (My.mth_mk (st := My.sPathTo) ?amN_path_to ?imN_path_to ?lmN_path_to ?cmN_path_to ?kmN_path_to fun _ _ _ _ _ _ us hl => match us, hl with | [_, _], _ => rfl)
      (My.mth_mk (st := My.sRow) ?amR_init ?imR_init ?lmR_init ?cmR_init ?kmR_init fun _ _ _ _ _ _ us hl => match us, hl with | [_, _], _ => rfl)
      (My.mth_mk (st := My.sHasMore) ?amR_has_more ?imR_has_more ?lmR_has_more ?cmR_has_more ?kmR_has_more fun _ _ _ _ _ _ us hl => match us, hl with | [_], _ => rfl)
      (My.mth_mk (st := My.sTakeNumber) ?amR_take_number ?imR_take_number ?lmR_take_number ?cmR_take_number ?kmR_take_number fun _ _ _ _ _ _ us hl => match us, hl with | [_], _ => rfl)
      (My.mth_mk (st := My.sTakeText) ?amR_take_text ?imR_take_text ?lmR_take_text ?cmR_take_text ?kmR_take_text fun _ _ _ _ _ _ us hl => match us, hl with | [_], _ => rfl)
      (My.mth_mk (st := My.sDesk) ?amD_init ?imD_init ?lmD_init ?cmD_init ?kmD_init fun _ _ _ _ _ _ us hl => match us, hl with | [_], _ => rfl)
      (My.top_mk (st := My.sIsControl) KX G ?at_is_control ?lt_is_control ?ct_is_control ?kt_is_control fun _ _ _ _ _ _ us hl => match us, hl with | [_], _ => rfl)
      (My.top_mk (st := My.sPart) KX G ?at_part_units ?lt_part_units ?ct_part_units ?kt_part_units fun _ _ _ _ _ _ us hl => match us, hl with | [_, _, _], _ => rfl)
      (My.top_mk (st := My.sBack) KX G ?at_backslash_unit ?lt_backslash_unit ?ct_backslash_unit ?kt_backslash_unit fun _ _ _ _ _ _ us hl => match us, hl with | [_, _, _], _ => rfl)
      (My.top_mk (st := My.sIsPlain) KX G ?at_is_plain ?lt_is_plain ?ct_is_plain ?kt_is_plain fun _ _ _ _ _ _ us hl => match us, hl with | [_, _], _ => rfl)
      (My.top_mk (st := My.sTrimmed) KX G ?at_trimmed ?lt_trimmed ?ct_trimmed ?kt_trimmed fun _ _ _ _ _ _ us hl => match us, hl with | [_, _], _ => rfl)
      (My.top_mk (st := My.sNodeText) KX G ?at_node_text ?lt_node_text ?ct_node_text ?kt_node_text fun _ _ _ _ _ _ us hl => match us, hl with | [_, _], _ => rfl)
      (My.top_mk (st := My.sCheckUnit) KX G ?at_check_unit ?lt_check_unit ?ct_check_unit ?kt_check_unit fun _ _ _ _ _ _ us hl => match us, hl with | [_, _], _ => rfl)
      (My.top_mk (st := My.sRoom) KX G ?at_check_room ?lt_check_room ?ct_check_room ?kt_check_room fun _ _ _ _ _ _ us hl => match us, hl with | [_, _, _], _ => rfl)
      (My.top_mk (st := My.sReadBraces) KX G ?at_read_braces ?lt_read_braces ?ct_read_braces ?kt_read_braces fun _ _ _ _ _ _ us hl => match us, hl with | [_], _ => rfl)
      (My.top_mk (st := My.sTakePiece) KX G ?at_take_piece ?lt_take_piece ?ct_take_piece ?kt_take_piece fun _ _ _ _ _ _ us hl => match us, hl with | [_, _, _], _ => rfl)
      (My.top_mk (st := My.sTakeMark) KX G ?at_take_mark ?lt_take_mark ?ct_take_mark ?kt_take_mark fun _ _ _ _ _ _ us hl => match us, hl with | [_, _, _], _ => rfl)
      (My.top_mk (st := My.sReadLayout) KX G ?at_read_layout ?lt_read_layout ?ct_read_layout ?kt_read_layout fun _ _ _ _ _ _ us hl => match us, hl with | [_], _ => rfl)
      (My.top_mk (st := My.sLineEnd) KX G ?at_line_end ?lt_line_end ?ct_line_end ?kt_line_end fun _ _ _ _ _ _ us hl => match us, hl with | [_, _], _ => rfl)
      (My.top_mk (st := My.sLineUnits) KX G ?at_line_units ?lt_line_units ?ct_line_units ?kt_line_units fun _ _ _ _ _ _ us hl => match us, hl with | [_, _, _], _ => rfl)
      (My.top_mk (st := My.sTakeLine) KX G ?at_take_line ?lt_take_line ?ct_take_line ?kt_take_line fun _ _ _ _ _ _ us hl => match us, hl with | [_, _, _, _], _ => rfl)
      (My.top_mk (st := My.sParentLine) KX G ?at_parent_line ?lt_parent_line ?ct_parent_line ?kt_parent_line fun _ _ _ _ _ _ us hl => match us, hl with | [_, _], _ => rfl)
      (My.top_mk (st := My.sCheckColumn) KX G ?at_check_column ?lt_check_column ?ct_check_column ?kt_check_column fun _ _ _ _ _ _ us hl => match us, hl with | [_, _, _, _], _ => rfl)
      (My.top_mk (st := My.sWriteLayout) KX G ?at_write_layout ?lt_write_layout ?ct_write_layout ?kt_write_layout fun _ _ _ _ _ _ us hl => match us, hl with | [_, _], _ => rfl)
      (My.top_mk (st := My.sWriteBraces) KX G ?at_write_braces ?lt_write_braces ?ct_write_braces ?kt_write_braces fun _ _ _ _ _ _ us hl => match us, hl with | [_], _ => rfl)
      (My.top_mk (st := My.sMarks) KX G ?at_marks_between ?lt_marks_between ?ct_marks_between ?kt_marks_between fun _ _ _ _ _ _ us hl => match us, hl with | [_, _], _ => rfl)
      (My.top_mk (st := My.sGuarded) KX G ?at_guarded ?lt_guarded ?ct_guarded ?kt_guarded fun _ _ _ _ _ _ us hl => match us, hl with | [_, _], _ => rfl)
      (My.top_mk (st := My.sNeeds) KX G ?at_needs_backslash ?lt_needs_backslash ?ct_needs_backslash ?kt_needs_backslash fun _ _ _ _ _ _ us hl => match us, hl with | [_, _, _], _ => rfl)
      (My.top_mk (st := My.sAnswers) KX G ?at_answers ?lt_answers ?ct_answers ?kt_answers fun _ _ _ _ _ _ us hl => match us, hl with | [_], _ => rfl)
      (My.top_mk (st := My.sAnswerCall) KX G ?at_answer_call ?lt_answer_call ?ct_answer_call ?kt_answer_call fun _ _ _ _ _ _ us hl => match us, hl with | [_, _], _ => rfl)
      (My.top_mk (st := My.sAnswerInit) KX G ?at_answer_init ?lt_answer_init ?ct_answer_init ?kt_answer_init fun _ _ _ _ _ _ us hl => match us, hl with | [_], _ => rfl)
      (My.top_mk (st := My.sAnswerRead) KX G ?at_answer_read ?lt_answer_read ?ct_answer_read ?kt_answer_read fun _ _ _ _ _ _ us hl => match us, hl with | [_, _, _], _ => rfl)
      (My.top_mk (st := My.sLineCol) KX G ?at_line_and_column ?lt_line_and_column ?ct_line_and_column ?kt_line_and_column fun _ _ _ _ _ _ us hl => match us, hl with | [_, _], _ => rfl)
      (My.top_mk (st := My.sAnswerWrite) KX G ?at_answer_write ?lt_answer_write ?ct_answer_write ?kt_answer_write fun _ _ _ _ _ _ us hl => match us, hl with | [_, _, _], _ => rfl)
      (My.top_mk (st := My.sAddChild) KX G ?at_add_child ?lt_add_child ?ct_add_child ?kt_add_child fun _ _ _ _ _ _ us hl => match us, hl with | [_, _, _], _ => rfl)
      (My.top_mk (st := My.sIsText) KX G ?at_is_text ?lt_is_text ?ct_is_text ?kt_is_text fun _ _ _ _ _ _ us hl => match us, hl with | [_], _ => rfl)
      (My.top_mk (st := My.sCutOut) KX G ?at_cut_out ?lt_cut_out ?ct_cut_out ?kt_cut_out fun _ _ _ _ _ _ us hl => match us, hl with | [_, _], _ => rfl)
      (My.top_mk (st := My.sMoveIn) KX G ?at_move_in ?lt_move_in ?ct_move_in ?kt_move_in fun _ _ _ _ _ _ us hl => match us, hl with | [_, _], _ => rfl)
      (My.top_mk (st := My.sMoveOut) KX G ?at_move_out ?lt_move_out ?ct_move_out ?kt_move_out fun _ _ _ _ _ _ us hl => match us, hl with | [_, _], _ => rfl)
      (My.top_mk (st := My.sAboutNode) KX G ?at_answer_about_node ?lt_answer_about_node ?ct_answer_about_node ?kt_answer_about_node fun _ _ _ _ _ _ us hl => match us, hl with | [_, _, _], _ => rfl)
      (My.top_mk (st := My.sAskNode) KX G ?at_ask_about_node ?lt_ask_about_node ?ct_ask_about_node ?kt_ask_about_node fun _ _ _ _ _ _ us hl => match us, hl with | [_, _, _], _ => rfl)
      (My.top_mk (st := My.sAnswerFind) KX G ?at_answer_find ?lt_answer_find ?ct_answer_find ?kt_answer_find fun _ _ _ _ _ _ us hl => match us, hl with | [_, _, _], _ => rfl)
      ⟨My.cst_mk KX G ?v_LINE_FEED, My.cst_mk KX G ?v_RETURN, My.cst_mk KX G ?v_SPACE, My.cst_mk KX G ?v_HASH, My.cst_mk KX G ?v_SEMICOLON, My.cst_mk KX G ?v_BACKSLASH, My.cst_mk KX G ?v_OPENER, My.cst_mk KX G ?v_CLOSER, My.cst_mk KX G ?v_DELETE, My.cst_mk KX G ?v_NO_BYTE⟩
      ⟨My.cst_mk KX G ?v_CONTROL_BYTE, My.cst_mk KX G ?v_WRONG_BACKSLASH, My.cst_mk KX G ?v_OTHER_COLUMN, My.cst_mk KX G ?v_TOO_MANY_NODES, My.cst_mk KX G ?v_TOO_DEEP, My.cst_mk KX G ?v_TOO_LONG, My.cst_mk KX G ?v_NOTHING_TO_HOLD, My.cst_mk KX G ?v_NOTHING_TO_CLOSE, My.cst_mk KX G ?v_NOT_CLOSED, My.cst_mk KX G ?v_LINE_END_INSIDE, My.cst_mk KX G ?v_MOST_NODES, My.cst_mk KX G ?v_DEEPEST, My.cst_mk KX G ?v_LONGEST_TEXT⟩
      ⟨My.cst_mk KX G ?v_FORM_LAID_OUT, My.cst_mk KX G ?v_FORM_BRACES⟩
      ⟨My.cst_mk KX G ?v_NOT_ALLOWED, My.cst_mk KX G ?v_NO_NODE, My.cst_mk KX G ?v_NO_TEXT, My.cst_mk KX G ?v_NO_ROOM⟩
      ⟨My.cst_mk KX G ?v_INIT, My.cst_mk KX G ?v_READ, My.cst_mk KX G ?v_WRITE, My.cst_mk KX G ?v_COUNT, My.cst_mk KX G ?v_DEPTH, My.cst_mk KX G ?v_PARENT, My.cst_mk KX G ?v_BLOCK, My.cst_mk KX G ?v_PATH, My.cst_mk KX G ?v_TEXT, My.cst_mk KX G ?v_FIND, My.cst_mk KX G ?v_ADD, My.cst_mk KX G ?v_CUT, My.cst_mk KX G ?v_MOVE_IN, My.cst_mk KX G ?v_MOVE_OUT⟩
      ⟨PySem.W.mg_none_of KX G ?b_len, PySem.W.mg_none_of KX G ?b_range, PySem.W.mg_none_of KX G ?b_max, PySem.W.mg_none_of KX G ?b_any⟩
      (My.flt_mk KX G ?xa ?xb ?xc ?xd ?xe ?xf ?xg ?xh ?xi ?xj ?xk ?xl ?xm ?xn ?xo ?xp ?xq)
    (case aCU => k_is); (case pgU => k_is); (case hdU => k_is); (case poU => k_is); (case saU => k_is); (case mkU => k_is); (case kcU => k_is); (case nU_place => k_is); (case nU_byte => k_is); (case nU_plain => k_is); (case aCN => k_is); (case pgN => k_is); (case hdN => k_is); (case poN => k_is); (case saN => k_is); (case mkN => k_is); (case kcN => k_is); (case nN_texts => k_is); (case nN_depths => k_is); (case aCR => k_is); (case pgR => k_is); (case hdR => k_is); (case poR => k_is); (case saR => k_is); (case mkR => k_is); (case kcR => k_is); (case nR_calls => k_is); (case nR_taken => k_is); (case aCD => k_is); (case pgD => k_is); (case hdD => k_is); (case poD => k_is); (case saD => k_is); (case mkD => k_is); (case kcD => k_is); (case nD_nodes => k_is); (case amU_init => k_is); (case imU_init => k_is); (case lmU_init => k_is); (case cmU_init => k_is); (case kmU_init => k_is); (case amN_init => k_is); (case imN_init => k_is); (case lmN_init => k_is); (case cmN_init => k_is); (case kmN_init => k_is); (case amN_size => k_is); (case imN_size => k_is); (case lmN_size => k_is); (case cmN_size => k_is); (case kmN_size => k_is); (case amN_add_last => k_is); (case imN_add_last => k_is); (case lmN_add_last => k_is); (case cmN_add_last => k_is); (case kmN_add_last => k_is); (case amN_parent_of => k_is); (case imN_parent_of => k_is); (case lmN_parent_of => k_is); (case cmN_parent_of => k_is); (case kmN_parent_of => k_is); (case amN_block_end => k_is); (case imN_block_end => k_is); (case lmN_block_end => k_is); (case cmN_block_end => k_is); (case kmN_block_end => k_is); (case amN_put_at => k_is); (case imN_put_at => k_is); (case lmN_put_at => k_is); (case cmN_put_at => k_is); (case kmN_put_at => k_is); (case amN_take_out => k_is); (case imN_take_out => k_is); (case lmN_take_out => k_is); (case cmN_take_out => k_is); (case kmN_take_out => k_is); (case amN_move_behind => k_is); (case imN_move_behind => k_is); (case lmN_move_behind => k_is); (case cmN_move_behind => k_is); (case kmN_move_behind => k_is); (case amN_shift => k_is); (case imN_shift => k_is); (case lmN_shift => k_is); (case cmN_shift => k_is); (case kmN_shift => k_is); (case amN_depth_below => k_is); (case imN_depth_below => k_is); (case lmN_depth_below => k_is); (case cmN_depth_below => k_is); (case kmN_depth_below => k_is); (case amN_path_to => k_is); (case imN_path_to => k_is); (case lmN_path_to => k_is); (case cmN_path_to => k_is); (case kmN_path_to => k_is); (case amR_init => k_is); (case imR_init => k_is); (case lmR_init => k_is); (case cmR_init => k_is); (case kmR_init => k_is); (case amR_has_more => k_is); (case imR_has_more => k_is); (case lmR_has_more => k_is); (case cmR_has_more => k_is); (case kmR_has_more => k_is); (case amR_take_number => k_is); (case imR_take_number => k_is); (case lmR_take_number => k_is); (case cmR_take_number => k_is); (case kmR_take_number => k_is); (case amR_take_text => k_is); (case imR_take_text => k_is); (case lmR_take_text => k_is); (case cmR_take_text => k_is); (case kmR_take_text => k_is); (case amD_init => k_is); (case imD_init => k_is); (case lmD_init => k_is); (case cmD_init => k_is); (case kmD_init => k_is); (case at_is_control => k_is); (case lt_is_control => k_is); (case ct_is_control => k_is); (case kt_is_control => k_is); (case at_part_units => k_is); (case lt_part_units => k_is); (case ct_part_units => k_is); (case kt_part_units => k_is); (case at_backslash_unit => k_is); (case lt_backslash_unit => k_is); (case ct_backslash_unit => k_is); (case kt_backslash_unit => k_is); (case at_is_plain => k_is); (case lt_is_plain => k_is); (case ct_is_plain => k_is); (case kt_is_plain => k_is); (case at_trimmed => k_is); (case lt_trimmed => k_is); (case ct_trimmed => k_is); (case kt_trimmed => k_is); (case at_node_text => k_is); (case lt_node_text => k_is); (case ct_node_text => k_is); (case kt_node_text => k_is); (case at_check_unit => k_is); (case lt_check_unit => k_is); (case ct_check_unit => k_is); (case kt_check_unit => k_is); (case at_check_room => k_is); (case lt_check_room => k_is); (case ct_check_room => k_is); (case kt_check_room => k_is); (case at_read_braces => k_is); (case lt_read_braces => k_is); (case ct_read_braces => k_is); (case kt_read_braces => k_is); (case at_take_piece => k_is); (case lt_take_piece => k_is); (case ct_take_piece => k_is); (case kt_take_piece => k_is); (case at_take_mark => k_is); (case lt_take_mark => k_is); (case ct_take_mark => k_is); (case kt_take_mark => k_is); (case at_read_layout => k_is); (case lt_read_layout => k_is); (case ct_read_layout => k_is); (case kt_read_layout => k_is); (case at_line_end => k_is); (case lt_line_end => k_is); (case ct_line_end => k_is); (case kt_line_end => k_is); (case at_line_units => k_is); (case lt_line_units => k_is); (case ct_line_units => k_is); (case kt_line_units => k_is); (case at_take_line => k_is); (case lt_take_line => k_is); (case ct_take_line => k_is); (case kt_take_line => k_is); (case at_parent_line => k_is); (case lt_parent_line => k_is); (case ct_parent_line => k_is); (case kt_parent_line => k_is); (case at_check_column => k_is); (case lt_check_column => k_is); (case ct_check_column => k_is); (case kt_check_column => k_is); (case at_write_layout => k_is); (case lt_write_layout => k_is); (case ct_write_layout => k_is); (case kt_write_layout => k_is); (case at_write_braces => k_is); (case lt_write_braces => k_is); (case ct_write_braces => k_is); (case kt_write_braces => k_is); (case at_marks_between => k_is); (case lt_marks_between => k_is); (case ct_marks_between => k_is); (case kt_marks_between => k_is); (case at_guarded => k_is); (case lt_guarded => k_is); (case ct_guarded => k_is); (case kt_guarded => k_is); (case at_needs_backslash => k_is); (case lt_needs_backslash => k_is); (case ct_needs_backslash => k_is); (case kt_needs_backslash => k_is); (case at_answers => k_is); (case lt_answers => k_is); (case ct_answers => k_is); (case kt_answers => k_is); (case at_answer_call => k_is); (case lt_answer_call => k_is); (case ct_answer_call => k_is); (case kt_answer_call => k_is); (case at_answer_init => k_is); (case lt_answer_init => k_is); (case ct_answer_init => k_is); (case kt_answer_init => k_is); (case at_answer_read => k_is); (case lt_answer_read => k_is); (case ct_answer_read => k_is); (case kt_answer_read => k_is); (case at_line_and_column => k_is); (case lt_line_and_column => k_is); (case ct_line_and_column => k_is); (case kt_line_and_column => k_is); (case at_answer_write => k_is); (case lt_answer_write => k_is); (case ct_answer_write => k_is); (case kt_answer_write => k_is); (case at_add_child => k_is); (case lt_add_child => k_is); (case ct_add_child => k_is); (case kt_add_child => k_is); (case at_is_text => k_is); (case lt_is_text => k_is); (case ct_is_text => k_is); (case kt_is_text => k_is); (case at_cut_out => k_is); (case lt_cut_out => k_is); (case ct_cut_out => k_is); (case kt_cut_out => k_is); (case at_move_in => k_is); (case lt_move_in => k_is); (case ct_move_in => k_is); (case kt_move_in => k_is); (case at_move_out => k_is); (case lt_move_out => k_is); (case ct_move_out => k_is); (case kt_move_out => k_is); (case at_answer_about_node => k_is); (case lt_answer_about_node => k_is); (case ct_answer_about_node => k_is); (case kt_answer_about_node => k_is); (case at_ask_about_node => k_is); (case lt_ask_about_node => k_is); (case ct_ask_about_node => k_is); (case kt_ask_about_node => k_is); (case at_answer_find => k_is); (case lt_answer_find => k_is); (case ct_answer_find => k_is); (case kt_answer_find => k_is); (case v_LINE_FEED => k_is); (case v_RETURN => k_is); (case v_SPACE => k_is); (case v_HASH => k_is); (case v_SEMICOLON => k_is); (case v_BACKSLASH => k_is); (case v_OPENER => k_is); (case v_CLOSER => k_is); (case v_DELETE => k_is); (case v_NO_BYTE => k_is); (case v_CONTROL_BYTE => k_is); (case v_WRONG_BACKSLASH => k_is); (case v_OTHER_COLUMN => k_is); (case v_TOO_MANY_NODES => k_is); (case v_TOO_DEEP => k_is); (case v_TOO_LONG => k_is); (case v_NOTHING_TO_HOLD => k_is); (case v_NOTHING_TO_CLOSE => k_is); (case v_NOT_CLOSED => k_is); (case v_LINE_END_INSIDE => k_is); (case v_MOST_NODES => k_is); (case v_DEEPEST => k_is); (case v_LONGEST_TEXT => k_is); (case v_FORM_LAID_OUT => k_is); (case v_FORM_BRACES => k_is); (case v_NOT_ALLOWED => k_is); (case v_NO_NODE => k_is); (case v_NO_TEXT => k_is); (case v_NO_ROOM => k_is); (case v_INIT => k_is); (case v_READ => k_is); (case v_WRITE => k_is); (case v_COUNT => k_is); (case v_DEPTH => k_is); (case v_PARENT => k_is); (case v_BLOCK => k_is); (case v_PATH => k_is); (case v_TEXT => k_is); (case v_FIND => k_is); (case v_ADD => k_is); (case v_CUT => k_is); (case v_MOVE_IN => k_is); (case v_MOVE_OUT => k_is); (case b_len => k_is); (case b_range => k_is); (case b_max => k_is); (case b_any => k_is)
    (case xa => k_is); (case xb => k_is); (case xc => k_is); (case xd => decide +kernel); (case xe => decide +kernel); (case xf => k_is); (case xg => rfl); (case xh => k_is); (case xi => k_is); (case xj => k_is); (case xk => k_is); (case xl => k_is); (case xm => k_is); (case xn => k_is); (case xo => k_is); (case xp => k_is); (case xq => k_is)
  case S =>
    intro K H xs a hO hwi hask hx
    cases hx with
    | cons h1 h2 =>
      cases h2
      cases h1 with
      | lst hs ha =>
        have e := L2.ints_dw a.1 _ ha
        subst e
        exact ⟨_, a.1, rfl, My.fz_of hO hs, hask, fun H' m s nm em => .lst (L2.SqL.of em) (L2.dw_ints _)⟩
