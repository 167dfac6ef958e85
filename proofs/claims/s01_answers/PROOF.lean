import PyProof.Rows.All
import Wide.All
import OpenK.AllK
import Wide.FinOn
import PyProof.EqAt
import PyProof.EqKinds
import PyProof.TupleCall
import KE.BitLaws
import Open.SpecLaws
import KE.OsHead
import KE.OsGo
import PySem.Challenge.RW_unitformulas_s01_answers
set_option genSizeOf false
set_option Elab.async false
set_option linter.all false
set_option maxRecDepth 100000
namespace L2
open PySem PySem.Spec PyProof.Rows
abbrev Key := Sum Int Str
def keyIs : Key → Value → Bool
  | .inl k, v => Value.isInt k v
  | .inr x, v => Value.isStrOf x v
def keyH (w : World) : Key → Int
  | .inl k => hashInt k
  | .inr x => hashStr w x
theorem keyIs_shape : ∀ {k : Key} {v : Value}, keyIs k v = true → (∃ i t, k = Sum.inl i ∧ v = Value.int i t) ∨ (∃ x t, k = Sum.inr x ∧ v = Value.str x t)
  | .inl i, v, h => by
    obtain ⟨t, e⟩ := Value.isInt_shape (k := i) (v := v) h
    exact .inl ⟨i, t, rfl, e⟩
  | .inr x, v, h => by
    obtain ⟨t, e⟩ := Value.isStrOf_shape (x := x) (v := v) h
    exact .inr ⟨x, t, rfl, e⟩
theorem key_ll (a b : Int) : decide ((Sum.inl a : Key) = Sum.inl b) = (a == b) := by
  by_cases e : a = b
  · subst e; simp
  · have h : ¬ (Sum.inl a : Key) = Sum.inl b := fun q => e (Sum.inl.inj q)
    rw [decide_eq_false h]
    exact (beq_eq_false_iff_ne.mpr e).symm
theorem key_rr (a b : Str) : decide ((Sum.inr a : Key) = Sum.inr b) = decide (a = b) := by
  by_cases e : a = b
  · subst e; simp
  · have h : ¬ (Sum.inr a : Key) = Sum.inr b := fun q => e (Sum.inr.inj q)
    rw [decide_eq_false h, decide_eq_false e]
theorem key_lr (a : Int) (b : Str) : decide ((Sum.inl a : Key) = Sum.inr b) = false := decide_eq_false (fun q => nomatch q)
theorem key_rl (a : Str) (b : Int) : decide ((Sum.inr a : Key) = Sum.inl b) = false := decide_eq_false (fun q => nomatch q)
def mixKind (prog : Program) (w : World) : PySem.KeyKind prog w Key where
  is := keyIs
  hash := keyH w
  inj := fun v a b ha hb => by
    rcases keyIs_shape ha with ⟨i, t, rfl, rfl⟩ | ⟨x, t, rfl, rfl⟩
    · rcases keyIs_shape hb with ⟨j, u, rfl, e⟩ | ⟨y, u, rfl, e⟩
      · injection e with e1 _; rw [e1]
      · exact nomatch e
    · rcases keyIs_shape hb with ⟨j, u, rfl, e⟩ | ⟨y, u, rfl, e⟩
      · exact nomatch e
      · injection e with e1 _; rw [e1]
  byValue := fun k v h => by
    rcases keyIs_shape h with ⟨i, t, rfl, rfl⟩ | ⟨x, t, rfl, rfl⟩ <;> rfl
  pyHash := fun hv h => by
    rcases keyIs_shape hv with ⟨i, t, rfl, rfl⟩ | ⟨x, t, rfl, rfl⟩
    · exact wpAny_pyHash_int h
    · exact wpAny_pyHash_str h
  eqBool := fun hu hv h => by
    rcases keyIs_shape hu with ⟨i, t, rfl, rfl⟩ | ⟨x, t, rfl, rfl⟩
    · rcases keyIs_shape hv with ⟨j, u, rfl, rfl⟩ | ⟨y, u, rfl, rfl⟩
      · rw [key_ll] at h; exact wpAny_eqBool_int h
      · rw [key_lr] at h; exact SeqAt.EqAt.int_str i t y u _ _ _ _ h
    · rcases keyIs_shape hv with ⟨j, u, rfl, rfl⟩ | ⟨y, u, rfl, rfl⟩
      · rw [key_rl] at h; exact SeqAt.EqAt.str_int x t j u _ _ _ _ h
      · rw [key_rr] at h; exact wpAny_eqBool_str h
  «strs» := fun k x t v h => by
    rcases keyIs_shape h with ⟨i, u, rfl, e⟩ | ⟨y, u, rfl, e⟩
    · exact nomatch e
    · injection e with e1 _
      subst e1
      cases v <;> rfl
end L2
namespace L2
open PySem PySem.Spec PyProof.Rows
inductive V where
  | non | bl (b : Bool) | int (i : Int) | str (x : Str) | byt (b : Array UInt8) | flt (b : UInt64) | ref (a : Addr) | ty (n : String)
  deriving DecidableEq
def RelV : V → Value → Prop
  | .non, u => u = Value.none
  | .bl b, u => u = Value.bool b
  | .int i, u => ∃ t, u = Value.int i t
  | .str x, u => ∃ t, u = Value.str x t
  | .byt b, u => ∃ t, u = Value.bytes b t
  | .flt b, u => ∃ t, u = Value.float b t
  | .ref a, u => u = Value.ref a
  | .ty n, u => u = Value.type n
abbrev Vals : List V → List Value → Prop := Paired RelV
theorem Vals.length {xs : List V} {us : List Value} (r : Vals xs us) : xs.length = us.length := Paired.length r
theorem Vals.get : ∀ {xs : List V} {us : List Value} {i : Nat} {x : V}, Vals xs us → xs[i]? = some x → ∃ u, us[i]? = some u ∧ RelV x u
  | _, _, _, _, .nil, e => by simp at e
  | _, _, 0, _, .cons r _, e => by simp at e; subst e; exact ⟨_, rfl, r⟩
  | _, _, i + 1, x, .cons _ t, e => by
    obtain ⟨u, h1, h2⟩ := Vals.get (i := i) (x := x) t (by simpa using e)
    exact ⟨u, by simpa using h1, h2⟩
theorem Vals.set {x : V} {u : Value} (r : RelV x u) : ∀ {xs : List V} {us : List Value} (i : Nat), Vals xs us → Vals (xs.set i x) (us.set i u)
  | _, _, _, .nil => .nil
  | _, _, 0, .cons _ t => .cons r t
  | _, _, i + 1, .cons q t => .cons q (Vals.set r i t)
theorem Vals.append : ∀ {xs ys : List V} {us ws : List Value}, Vals xs us → Vals ys ws → Vals (xs ++ ys) (us ++ ws)
  | _, _, _, _, .nil, s => s
  | _, _, _, _, .cons r t, s => .cons r (Vals.append t s)
theorem Vals.take : ∀ {xs : List V} {us : List Value} (n : Nat), Vals xs us → Vals (xs.take n) (us.take n)
  | _, _, 0, _ => .nil
  | _, _, _ + 1, .nil => .nil
  | _, _, n + 1, .cons r t => .cons r (Vals.take n t)
theorem Vals.drop : ∀ {xs : List V} {us : List Value} (n : Nat), Vals xs us → Vals (xs.drop n) (us.drop n)
  | _, _, 0, r => r
  | _, _, _ + 1, .nil => .nil
  | _, _, n + 1, .cons _ t => Vals.drop n t
theorem Vals.none_of : ∀ {xs : List V} {us : List Value} {i : Nat}, Vals xs us → xs[i]? = none → us[i]? = none := fun {xs us i} r e => by
  have h1 := r.length
  have h2 : xs.length ≤ i := List.getElem?_eq_none_iff.mp e
  exact List.getElem?_eq_none_iff.mpr (by omega)
def RelO : Option V → Option Value → Prop
  | some v, some u => RelV v u
  | none, none => True
  | _, _ => False
def KV {κ : Type} : List (κ × V) → List (κ × Value) → Prop := Paired fun (p : κ × V) (q : κ × Value) => p.1 = q.1 ∧ RelV p.2 q.2
def kV : Key → V
  | .inl i => .int i
  | .inr x => .str x
inductive HO where
  /-- a list -/
  | lst (xs : List V)
  /-- a tuple (never changes) -/
  | tup (xs : List V)
  /-- a dict whose keys are ints and texts; one whose keys are tuples of ints and texts (the empty one is both) -/
  | dK (kvs : List (Key × V)) | dT (kvs : List (List Key × V))
  /-- a set of ints: its members, its size -/
  | set (S : Int → Bool) (n : Nat)
  /-- an instance of the class at C, its dict at dx, its attributes -/
  | ins (C dx : Addr) (fs : List (Str × V))
  /-- the dict of the instance at x -/
  | own (x : Addr)
  /-- the dict of an exception -/
  | xd (fs : List (Str × V))
  /-- a bound method, f of x -/
  | met (f x : Addr)
  /-- a range object lo, lo + 1, .. below hi -/
  | rng (lo hi : Int)
  /-- a thing that is known to the object (the script; a dict while a loop walks it): read, never written while it is so -/
  | frz (o : Obj) (u : HO)
  /-- a code object's table -/
  | tbl (ps : Array Value)
  /-- any other thing, by what is true of its one object (a def of one's own: SetO a S n := HO.ext fun h => ..) -/
  | ext (φ : Heap → Prop)
abbrev Hp := Addr → Option HO
def upd (H : Hp) (a : Addr) (o : HO) : Hp := fun b => if b = a then some o else H b
theorem upd_same {H : Hp} {a : Addr} {o : HO} : upd H a o a = some o := by unfold upd; rw [if_pos rfl]
theorem upd_ne {H : Hp} {a b : Addr} {o : HO} (h : b ≠ a) : upd H a o b = H b := by unfold upd; rw [if_neg h]
theorem upd_upd {H : Hp} {a : Addr} {o u : HO} : upd (upd H a o) a u = upd H a u := by
  funext b; unfold upd; split <;> rfl
theorem ne_of {H : Hp} {a b : Addr} {o u : HO} (h : H a = some o) (h' : H b = some u) (d : o ≠ u) : a ≠ b := by
  intro e; subst e; rw [h] at h'; exact d (Option.some.inj h')
theorem ne_of_none {H : Hp} {a b : Addr} {o : HO} (h : H a = some o) (h' : H b = none) : a ≠ b := by
  intro e; subst e; rw [h] at h'; cases h'
section
variable (P : Program) (w : World)
def ObjOk (H : Hp) (h : Heap) (a : Addr) : HO → Prop
  | .lst xs => xs.length ≤ sizeLine ∧ ∃ (its : List Value) (n : Nat), Vals xs its ∧ h.get? a = some { cls := .type "list", data := .seq its.toArray n }
  | .tup xs => xs.length ≤ sizeLine ∧ ∃ its : List Value, Vals xs its ∧ IsTup h a its.toArray
  | .dK kvs => kvs.length ≤ sizeLine ∧ (a == sysModules) = false ∧ ∃ vs, KV kvs vs ∧ h.DictOf (mixKind P w) a vs
  | .dT kvs => kvs.length ≤ sizeLine ∧ (a == sysModules) = false ∧ ∃ xs : List (List Key × Addr × Value),
      Paired (fun (p : List Key × V) (q : List Key × Addr × Value) => p.1 = q.1 ∧ H q.2.1 = some (.tup (p.1.map kV)) ∧ RelV p.2 q.2.2) kvs xs ∧
      ∃ o es ep, h.get? a = some o ∧ o.ExactDict ∧ o.data = .dict es ep ∧ es.toList = xs.map (entryOfKey (tupleKind (mixKind P w))) ∧ (xs.map (·.1)).Nodup
  | .set S n => h.SetOf (intKind P w) a S n
  | .ins C dx fs => H dx = some (.own a) ∧ fs.length ≤ 1000 ∧ dx ≠ a ∧ h.get? a = some (PySem.W.instObj C dx) ∧
      ∃ mA, h.Ns1 dx mA ∧ (∀ f, RelO (fs.lookup f) (mA f)) ∧ PySem.Within mA (fs.map (·.1))
  | .own _ => ∃ o, h.get? a = some o
  | .xd fs => ∃ mA, h.Ns1 a mA ∧ ∀ f, RelO (fs.lookup f) (mA f)
  | .rng lo hi => ∃ t u v, h.get? a = some { cls := .type "range", data := .fields #[.int lo t, .int hi u, .int 1 v] }
  | .frz o u => h.get? a = some o ∧ ObjOk H h a u
  | .tbl ps => h.get? a = some { cls := .none, data := .fields ps }
  | .met f x => h.get? a = some (PySem.W.methodObj (.ref f) (.ref x))
  | .ext φ => φ h ∧ (∃ o, h.get? a = some o) ∧ ∀ h1 h2 : Heap, φ h1 → (∀ o, h1.get? a = some o → h2.get? a = some o) → φ h2
def HOk (H : Hp) (h : Heap) : Prop := ∀ a o, H a = some o → ObjOk P w H h a o
end
section
variable {P : Program} {w : World} {H H' : Hp} {h h' : Heap} {a : Addr} {o : HO}
theorem ObjOk.lt (x : ObjOk P w H h a o) : a < h.objs.size := by
  cases o with
  | lst xs => obtain ⟨_, _, _, _, e⟩ := x; exact Heap.lt_size e
  | tup xs => obtain ⟨_, _, _, p⟩ := x; exact p.lt
  | dK kvs => obtain ⟨_, _, _, _, o, _, _, e, _⟩ := x; exact Heap.lt_size e
  | dT kvs => obtain ⟨_, _, _, _, o, _, _, e, _⟩ := x; exact Heap.lt_size e
  | set S n => obtain ⟨o, _, _, _, e, _⟩ := x; exact Heap.lt_size e
  | ins C dx fs => obtain ⟨_, _, _, e, _⟩ := x; exact Heap.lt_size e
  | own y => obtain ⟨_, e⟩ := x; exact Heap.lt_size e
  | xd fs => obtain ⟨_, ⟨_, _, _, e, _⟩, _⟩ := x; exact Heap.lt_size e
  | rng lo hi => obtain ⟨_, _, _, e⟩ := x; exact Heap.lt_size e
  | frz ob u => obtain ⟨e, _⟩ := x; exact Heap.lt_size e
  | tbl ps => exact Heap.lt_size (show h.get? a = some _ from x)
  | met f y => exact Heap.lt_size (show h.get? a = some _ from x)
  | ext φ => obtain ⟨_, ⟨_, e⟩, _⟩ := x; exact Heap.lt_size e
theorem Paired.mapP {α β : Type} {F G : α → β → Prop} : ∀ {l₁ : List α} {l₂ : List β}, Paired F l₁ l₂ → (∀ a b, F a b → G a b) → Paired G l₁ l₂
  | _, _, .nil, _ => .nil
  | _, _, .cons r t, f => .cons (f _ _ r) (Paired.mapP t f)
theorem ObjOk.stay (x : ObjOk P w H h a o) (k : ∀ b u, (b = a ∨ H b = some (.own a)) → h.get? b = some u → h'.get? b = some u)
    (ho : ∀ b, H b = some (.own a) → H' b = some (.own a)) (ht : ∀ b xs, H b = some (.tup xs) → H' b = some (.tup xs)) : ObjOk P w H' h' a o := by
  induction o with
  | lst xs => obtain ⟨z, its, n, r, e⟩ := x; exact ⟨z, its, n, r, k _ _ (.inl rfl) e⟩
  | tup xs => obtain ⟨z, its, r, ob, e, c⟩ := x; exact ⟨z, its, r, ob, k _ _ (.inl rfl) e, c⟩
  | dK kvs => obtain ⟨z, y, vs, r, ob, es, ep, e, c⟩ := x; exact ⟨z, y, vs, r, ob, es, ep, k _ _ (.inl rfl) e, c⟩
  | dT kvs =>
    obtain ⟨z, y, xs, r, ob, es, ep, e, c⟩ := x
    exact ⟨z, y, xs, Paired.mapP r fun p q z => ⟨z.1, ht _ _ z.2.1, z.2.2⟩, ob, es, ep, k _ _ (.inl rfl) e, c⟩
  | set S n => obtain ⟨ob, es, ep, t, e, c⟩ := x; exact ⟨ob, es, ep, t, k _ _ (.inl rfl) e, c⟩
  | ins C dx fs =>
    obtain ⟨d, z, ne, e, mA, ⟨od, es, ep, e2, c⟩, r⟩ := x
    exact ⟨ho _ d, z, ne, k _ _ (.inl rfl) e, mA, ⟨od, es, ep, k _ _ (.inr d) e2, c⟩, r⟩
  | own y => obtain ⟨ob, e⟩ := x; exact ⟨ob, k _ _ (.inl rfl) e⟩
  | xd fs => obtain ⟨mA, ⟨od, es, ep, e, c⟩, r⟩ := x; exact ⟨mA, ⟨od, es, ep, k _ _ (.inl rfl) e, c⟩, r⟩
  | rng lo hi => obtain ⟨t, u, v, e⟩ := x; exact ⟨t, u, v, k _ _ (.inl rfl) e⟩
  | frz ob u ih => obtain ⟨e, q⟩ := x; exact ⟨k _ _ (.inl rfl) e, ih q⟩
  | tbl ps =>
    have e : h.get? a = some { cls := .none, data := .fields ps } := x
    show h'.get? a = some { cls := .none, data := .fields ps }
    exact k a _ (.inl rfl) e
  | met f y =>
    have e : h.get? a = some (PySem.W.methodObj (.ref f) (.ref y)) := x
    show h'.get? a = some (PySem.W.methodObj (.ref f) (.ref y))
    exact k a _ (.inl rfl) e
  | ext φ => obtain ⟨p, ⟨o, e⟩, st⟩ := x; exact ⟨st _ _ p fun o q => k _ _ (.inl rfl) q, ⟨o, k _ _ (.inl rfl) e⟩, st⟩
theorem HOk.lt (x : HOk P w H h) (e : H a = some o) : a < h.objs.size := (x a o e).lt
theorem HOk.fresh (x : HOk P w H h) (e : h.objs.size ≤ a) : H a = none := by
  cases q : H a with
  | none => rfl
  | some u => exact absurd (Nat.lt_of_lt_of_le (x.lt q) e) (Nat.lt_irrefl _)
theorem HOk.kept (x : HOk P w H h) (k : ∀ b u, h.get? b = some u → h'.get? b = some u) : HOk P w H h' := fun a o e =>
  (x a o e).stay (fun b u _ q => k b u q) (fun _ q => q) fun _ _ q => q
theorem HOk.laid (x : HOk P w H h) (k : ∀ b u, h.get? b = some u → h'.get? b = some u) (hp : h.objs.size ≤ a) (new : ObjOk P w (upd H a o) h' a o) : HOk P w (upd H a o) h' := fun b u e => by
  have hn := x.fresh hp
  by_cases hb : b = a
  · subst hb; rw [upd_same] at e; cases e; exact new
  · rw [upd_ne hb] at e
    exact (x b u e).stay (fun c v _ q => k c v q) (fun c q => by rw [upd_ne (ne_of_none q hn)]; exact q) fun c xs q => by rw [upd_ne (ne_of_none q hn)]; exact q
end
def Rd (H : Hp) (a : Addr) (u : HO) : Prop := H a = some u ∨ ∃ o, H a = some (.frz o u)
theorem Rd.of {H : Hp} {a : Addr} {u : HO} (h : H a = some u) : Rd H a u := .inl h
theorem Rd.ok {P : Program} {w : World} {H : Hp} {h : Heap} {a : Addr} {u : HO} (r : Rd H a u) (x : HOk P w H h) : ObjOk P w H h a u := by
  rcases r with r | ⟨o, r⟩
  · exact x a u r
  · obtain ⟨_, q⟩ := x a _ r
    exact q
def Mut : Option HO → Prop
  | some (.lst _) => True
  | some (.dK _) => True
  | some (.dT _) => True
  | some (.set _ _) => True
  | some (.ins _ _ _) => True
  | some (.ext _) => True
  | _ => False
section
variable {P : Program} {w : World} {H : Hp} {h h' : Heap} {x e : Addr} {o' : HO}
theorem HOk.write (ok : HOk P w H h) (mu : Mut (H x)) (he : e = x ∨ H e = some (.own x)) (k : ∀ b u, b ≠ e → h.get? b = some u → h'.get? b = some u) (heo : ∃ u, h'.get? e = some u)
    (new : ObjOk P w (upd H x o') h' x o') : HOk P w (upd H x o') h' := fun b u q => by
  have nown : ∀ c y, H c = some (.own y) → c ≠ x := fun c y r z => by subst z; rw [r] at mu; exact mu
  have ntup : ∀ c xs, H c = some (.tup xs) → c ≠ x := fun c xs r z => by subst z; rw [r] at mu; exact mu
  by_cases hb : b = x
  · subst hb; rw [upd_same] at q; cases q; exact new
  · rw [upd_ne hb] at q
    by_cases hbe : b = e
    · have q' : H b = some (.own x) := by
        rcases he with z | z
        · exact absurd (hbe.trans z) hb
        · rw [hbe]; exact z
      rw [q] at q'; cases q'
      obtain ⟨v, hv⟩ := heo
      exact ⟨v, by rw [hbe]; exact hv⟩
    · refine (ok b u q).stay (fun c v hc r => k c v ?_ r) (fun c r => by rw [upd_ne (nown c b r)]; exact r) fun c xs r => by rw [upd_ne (ntup c xs r)]; exact r
      rcases hc with rfl | hc
      · exact hbe
      · rintro rfl
        rcases he with z | z
        · exact nown c b hc z
        · rw [hc] at z; cases z; exact hb rfl
end
structure Un (fs ex : List Addr) (H H' : Hp) (h h' : Heap) : Prop where
  keep : ∀ b o, h.get? b = some o → H b = none → b ∉ fs → b ∉ ex → h'.get? b = some o
  slot : ∀ b o, h.get? b = some o → H b = none → b ∈ fs → b ∉ ex → ∃ sl, h'.get? b = some { o with slots := sl }
  free : ∀ b o, h.get? b = some o → H b = none → b ∉ ex → H' b = none
  there : ∀ b o, h.get? b = some o → b ∉ ex → ∃ o', h'.get? b = some o'
  tups : ∀ b xs, H b = some (.tup xs) → H' b = some (.tup xs)
  frzs : ∀ b o u, H b = some (.frz o u) → H' b = some (.frz o u)
  tbls : ∀ b ps, H b = some (.tbl ps) → ∃ more, H' b = some (.tbl (ps ++ more))
section
variable {fs fs' ex ex' : List Addr} {H H1 H2 : Hp} {h h1 h2 h' : Heap} {a x e : Addr} {o : HO}
theorem Un.any (u : Un fs ex H H1 h h1) {b : Addr} {ob : Obj} (q : h.get? b = some ob) (n : H b = none) (hx : b ∉ ex) : ∃ sl, h1.get? b = some { ob with slots := sl } := by
  by_cases hb : b ∈ fs
  · exact u.slot b ob q n hb hx
  · exact ⟨ob.slots, u.keep b ob q n hb hx⟩
theorem Un.trans (a : Un fs ex H H1 h h1) (b : Un fs ex H1 H2 h1 h2) : Un fs ex H H2 h h2 where
  keep := fun c ob q n hc hx => b.keep c ob (a.keep c ob q n hc hx) (a.free c ob q n hx) hc hx
  slot := fun c ob q n hc hx => by
    obtain ⟨sl, e1⟩ := a.slot c ob q n hc hx
    obtain ⟨sl', e2⟩ := b.slot c _ e1 (a.free c ob q n hx) hc hx
    exact ⟨sl', e2⟩
  free := fun c ob q n hx => by
    obtain ⟨o', e1⟩ := a.there c ob q hx
    exact b.free c o' e1 (a.free c ob q n hx) hx
  there := fun c ob q hx => by
    obtain ⟨o', e1⟩ := a.there c ob q hx
    exact b.there c o' e1 hx
  tups := fun c xs q => b.tups c xs (a.tups c xs q)
  frzs := fun c ob xs q => b.frzs c ob xs (a.frzs c ob xs q)
  tbls := fun c ps q => by
    obtain ⟨m1, e1⟩ := a.tbls c ps q
    obtain ⟨m2, e2⟩ := b.tbls c _ e1
    exact ⟨m1 ++ m2, by rw [e2, Array.append_assoc]⟩
theorem Un.kept (k : ∀ b u, h.get? b = some u → h'.get? b = some u) : Un fs ex H H h h' :=
  ⟨fun b ob q _ _ _ => k b ob q, fun b ob q _ _ _ => ⟨ob.slots, k b ob q⟩, fun _ _ _ n _ => n, fun b ob q _ => ⟨ob, k b ob q⟩, fun _ _ q => q, fun _ _ _ q => q, fun _ ps q => ⟨#[], by rw [q]; simp⟩⟩
theorem Un.refl : Un fs ex H H h h := Un.kept fun _ _ q => q
theorem Un.laid (k : ∀ b u, h.get? b = some u → h'.get? b = some u) (hp : h.objs.size ≤ a) (hn : H a = none) : Un fs ex H (upd H a o) h h' where
  keep := fun b u q _ _ _ => k b u q
  slot := fun b u q _ _ _ => ⟨u.slots, k b u q⟩
  free := fun b u q n _ => by rw [upd_ne (Nat.ne_of_lt (Nat.lt_of_lt_of_le (Heap.lt_size q) hp))]; exact n
  there := fun b u q _ => ⟨u, k b u q⟩
  tups := fun b xs q => by rw [upd_ne (ne_of_none q hn)]; exact q
  frzs := fun b u xs q => by rw [upd_ne (ne_of_none q hn)]; exact q
  tbls := fun b ps q => ⟨#[], by rw [upd_ne (ne_of_none q hn), q]; simp⟩
theorem Un.write (mu : Mut (H x)) (he : e = x ∨ H e = some (.own x)) (k : ∀ b u, b ≠ e → h.get? b = some u → h'.get? b = some u) (heo : ∃ u, h'.get? e = some u) : Un fs ex H (upd H x o) h h' := by
  have hx : ∀ b, H b = none → b ≠ x := fun b n z => by subst z; rw [n] at mu; exact mu
  have hb : ∀ b, H b = none → b ≠ e := fun b n z => by
    subst z
    rcases he with r | r
    · exact hx b n r
    · rw [n] at r; cases r
  have hm : ∀ b u, H b = some u → ¬ Mut (some u) → b ≠ x := fun b u q nm z => by subst z; rw [q] at mu; exact nm mu
  refine ⟨fun b u q n _ _ => k b u (hb b n) q, fun b u q n _ _ => ⟨u.slots, k b u (hb b n) q⟩, fun b u q n _ => by rw [upd_ne (hx b n)]; exact n, fun b u q _ => ?_,
    fun b xs q => by rw [upd_ne (hm b _ q fun z => z)]; exact q, fun b u xs q => by rw [upd_ne (hm b _ q fun z => z)]; exact q, fun b ps q => ⟨#[], by rw [upd_ne (hm b _ q fun z => z), q]; simp⟩⟩
  by_cases hbe : b = e
  · subst hbe; exact heo
  · exact ⟨u, k b u hbe q⟩
theorem Un.mono (u : Un fs ex H H1 h h1) (hs : ∀ b ∈ fs, b ∈ fs') (hx : ∀ b ∈ ex, b ∈ ex') : Un fs' ex' H H1 h h1 :=
  ⟨fun b ob q n hb he => u.keep b ob q n (fun z => hb (hs b z)) fun z => he (hx b z), fun _ _ q n _ he => u.any q n fun z => he (hx _ z), fun b ob q n he => u.free b ob q n fun z => he (hx b z), fun b ob q he => u.there b ob q fun z => he (hx b z), u.tups, u.frzs, u.tbls⟩
end
def trk (h : Heap) (H : Hp) : List Addr := (List.range h.objs.size).filter fun a => (H a).isSome
def hidT (h : Heap) (H : Hp) : Heap := PySem.W.hideAll h (trk h H)
theorem hidT_size (h : Heap) (H : Hp) : (hidT h H).objs.size = h.objs.size := PySem.W.hideAll_size _ _
theorem hidT_get {h : Heap} {H : Hp} {b : Addr} {o : Obj} (e : h.get? b = some o) (n : H b = none) : (hidT h H).get? b = some o :=
  PySem.W.hideAll_get _ e fun hm => by
    have q : (H b).isSome = true := (List.mem_filter.mp hm).2
    rw [n] at q; simp at q
theorem of_hidT {h : Heap} {H : Hp} {b : Addr} {o : Obj} (e : (hidT h H).get? b = some o) : h.get? b = some o ∧ H b = none := by
  have e' : h.get? b = some o := PySem.W.of_hideAll (trk h H) e
  refine ⟨e', ?_⟩
  cases q : H b with
  | none => rfl
  | some x =>
    have hm : b ∈ trk h H := List.mem_filter.mpr ⟨List.mem_range.mpr (Heap.lt_size e'), by simp [q]⟩
    have z : (hidT h H).get? b = none := PySem.W.hideAll_none (trk h H) hm
    rw [z] at e; cases e
def allNews (g h : Heap) (L : Addr) : List (Addr × Obj) := (List.range h.objs.size).filterMap fun a => if a = L ∨ (g.get? a).isSome = true then none else (h.get? a).map fun o => (a, o)
def rest (g h : Heap) (L d : Addr) : List (Addr × Obj) := (allNews g h L).filter fun p => decide (p.1 ≠ d)
end L2
namespace L2
open PySem PySem.Spec PyProof.Rows
structure Mod (K : PySem.W.Frag) (mg : Str → Option Value) (base : Heap) : Prop where
  kin : K.In base
  glob : base.Ns mainGlobals mg
  blt : ∃ mb, base.Ns builtinsNs mb ∧ ∀ x : Str, x ≠ "__name__" → mb x = bootBuiltins x
  nolimit : base.NoLimit
structure Cx where
  prog : Program
  w : World
  K : PySem.W.Frag
  mg : Str → Option Value
  base : Heap
  A : Around
  N : List Str
  s_0 : Shared
  H_0 : Hp
  env : Env
  outer : List Env
  stack : List Env
  ex : List Addr
  fn : Str → Bool
  calm : Bool
  pn : List (Addr × Obj)
  xe : Value → Shared → Prop
def frs (l : List Env) : List Addr := l.filterMap (·.frame)
abbrev Cx.fs (X : Cx) : List Addr := frs X.outer
def Vis (sc : Scope) (x : Str) : Prop := sc.names.lookup x = some .local ∨ sc.names.lookup x = some .cell ∨ sc.names.lookup x = some .free
def Loc (sc : Scope) (x : Str) : Prop := sc.names.lookup x = some .local ∨ sc.names.lookup x = some .cell
def Look (env : Env) (h : Heap) (m : Str → Option Value) (x : Str) (u : Value) : Prop :=
  (env.kindOf x = some .local ∧ m x = some u) ∨ ((env.kindOf x = some .cell ∨ env.kindOf x = some .free) ∧ ∃ c, env.cells.lookup x = some c ∧ h.IsCell c (some u))
structure Cx.Ok (X : Cx) : Prop where
  mod : Mod X.K X.mg X.base
  kind : X.env.scope.kind = .function
  glob : X.env.globals = mainGlobals
  blt : X.env.builtins = builtinsNs
  above : X.s_0.heap.objs.size ≤ X.env.locals
  inj : ∀ x y c, X.env.cells.lookup x = some c → X.env.cells.lookup y = some c → x = y
  has : ∀ x, (X.env.kindOf x = some .cell ∨ X.env.kindOf x = some .free) → ∃ c, X.env.cells.lookup x = some c
  cab : ∀ x c, X.fn x = true → X.env.cells.lookup x = some c → X.s_0.heap.objs.size ≤ c
  hd : X.calm = true → X.A.handled = none
  frames : X.A.frames = some X.stack
  stk : X.stack = X.outer ∨ (X.stack = X.env :: X.outer ∧ X.env.frame = some X.env.locals)
  exf : ∀ b ∈ X.ex, b ≠ X.env.locals ∧ ∀ x c, X.env.cells.lookup x = some c → c ≠ b
  bs : ∀ b o, X.base.get? b = some o → X.s_0.heap.get? b = some o ∧ X.H_0 b = none
  bsz : X.base.objs.size ≤ X.s_0.heap.objs.size
  noex : ∀ b o, X.base.get? b = some o → b ∉ X.ex
  exfs : ∀ b ∈ X.ex, b ∉ X.fs
  funs : X.s_0.heap.FunFrames X.base X.outer
  frf : ∀ b ∈ X.fs, X.H_0 b = none
structure Inv (X : Cx) (pins : List (Addr × Obj)) (σ : List (Option V)) (H : Hp) (s : Shared) : Prop where
  ok : X.Ok
  os : s.os = X.s_0.os
  bare : AllBare s.gens
  base : Un X.fs X.ex X.H_0 H X.s_0.heap s.heap
  loc : ∃ m, s.heap.Ns X.env.locals m ∧ ∀ (i : Nat) (x : Str) (v : V), X.N[i]? = some x → σ[i]? = some (some v) → Vis X.env.scope x → ∃ u, RelV v u ∧ Look X.env s.heap m x u
  cell : ∀ x c, X.env.cells.lookup x = some c → ∃ v, s.heap.IsCell c v
  free : H X.env.locals = none
  freeC : ∀ x c, X.env.cells.lookup x = some c → H c = none
  pin : ∀ p ∈ X.pn ++ pins, s.heap.get? p.1 = some p.2 ∧ H p.1 = none ∧ p.1 ≠ X.env.locals ∧ p.1 ∉ X.fs ∧ ∀ v, p.2.data ≠ .cell v
  hok : HOk X.prog X.w H s.heap
  len : σ.length = X.N.length
section
variable {X : Cx} {pins : List (Addr × Obj)} {σ : List (Option V)} {H H' : Hp} {s : Shared} {h' : Heap}
theorem Cx.Ok.nofr (ok : X.Ok) {b : Addr} {o : Obj} (e : X.base.get? b = some o) : b ∉ X.fs := fun hb => by
  have := (ok.funs.mem hb).1
  rw [e] at this; cases this
theorem Inv.bs (I : Inv X pins σ H s) : ∀ b o, X.base.get? b = some o → s.heap.get? b = some o ∧ H b = none := fun b o e =>
  ⟨I.base.keep b o (I.ok.bs b o e).1 (I.ok.bs b o e).2 (I.ok.nofr e) (I.ok.noex b o e), I.base.free b o (I.ok.bs b o e).1 (I.ok.bs b o e).2 (I.ok.noex b o e)⟩
theorem Inv.bk (I : Inv X pins σ H s) : ∀ b o, X.base.get? b = some o → s.heap.get? b = some o := fun b o e => (I.bs b o e).1
theorem Inv.mod (I : Inv X pins σ H s) : Mod X.K X.mg X.base := I.ok.mod
theorem Inv.kIn (I : Inv X pins σ H s) : X.K.In s.heap := I.ok.mod.kin.keeps I.bk
theorem Inv.nolimit (I : Inv X pins σ H s) : s.heap.NoLimit := I.ok.mod.nolimit.keeps I.bk
theorem Inv.fr (I : Inv X pins σ H s) : ∃ m, Fr X.base X.env.locals s.heap m :=
  let ⟨m, hn, _⟩ := I.loc
  ⟨m, hn, I.bk, Nat.le_trans I.ok.bsz I.ok.above⟩
theorem Inv.lt (I : Inv X pins σ H s) : X.env.locals < s.heap.objs.size := let ⟨_, hn, _⟩ := I.loc; hn.lt
theorem Inv.sz (I : Inv X pins σ H s) : X.s_0.heap.objs.size ≤ s.heap.objs.size := Nat.le_trans I.ok.above (Nat.le_of_lt I.lt)
theorem Inv.nofs (I : Inv X pins σ H s) {a : Addr} (h : s.heap.objs.size ≤ a) : a ∉ X.fs := fun hb => by
  obtain ⟨_, o, ho, _⟩ := I.ok.funs.mem hb
  exact absurd (Nat.lt_of_lt_of_le (Heap.lt_size ho) (Nat.le_trans I.sz h)) (Nat.lt_irrefl _)
theorem Inv.cne (I : Inv X pins σ H s) : ∀ x c, X.env.cells.lookup x = some c → c ≠ X.env.locals := fun x c e z => by
  obtain ⟨v, o, ho, hd⟩ := I.cell x c e
  obtain ⟨m, ⟨o', es, ep, ho', hd', _⟩, _⟩ := I.loc
  rw [z, ho'] at ho; cases ho; rw [hd'] at hd; cases hd
theorem Inv.funs (I : Inv X pins σ H s) : s.heap.FunFrames X.base X.outer := by
  have all : ∀ (l : List Env), (∀ b ∈ frs l, b ∈ X.fs) → X.s_0.heap.FunFrames X.base l → s.heap.FunFrames X.base l := by
    intro l
    induction l with
    | nil => intro _ _; trivial
    | cons env r ih =>
      intro hs hl
      obtain ⟨hk, ⟨L, o, hf, hn, ho, hd⟩, hr⟩ := hl
      have hL : L ∈ X.fs := hs L (by unfold frs; rw [List.filterMap_cons, hf]; exact List.mem_cons_self)
      obtain ⟨sl, e⟩ := I.base.slot L o ho (I.ok.frf L hL) hL fun z => I.ok.exfs L z hL
      exact ⟨hk, ⟨L, _, hf, hn, e, hd⟩, ih (fun b hb => hs b (by unfold frs; rw [List.filterMap_cons, hf]; exact List.mem_cons_of_mem _ hb)) hr⟩
  exact all X.outer (fun _ hb => hb) I.ok.funs
theorem Inv.stack (I : Inv X pins σ H s) : s.heap.FunFrames X.base X.stack := by
  rcases I.ok.stk with e | ⟨e, hf⟩
  · rw [e]; exact I.funs
  · rw [e]
    obtain ⟨m, hn, _⟩ := I.loc
    refine .cons (by rw [I.ok.kind]; decide) hf hn ?_ I.funs
    exact Heap.get?_none_of_le (Nat.le_trans I.ok.bsz I.ok.above)
theorem Inv.stkSub (I : Inv X pins σ H s) : ∀ b ∈ frs X.stack, b ∈ X.env.locals :: X.fs := fun b hb => by
  rcases I.ok.stk with e | ⟨e, hf⟩
  · rw [e] at hb; exact List.mem_cons_of_mem _ hb
  · rw [e] at hb
    unfold frs at hb
    rw [List.filterMap_cons, hf] at hb
    exact hb
theorem Inv.stkFree (I : Inv X pins σ H s) : ∀ b ∈ frs X.stack, H b = none := fun b hb => by
  rcases List.mem_cons.mp (I.stkSub b hb) with e | hb
  · rw [e]; exact I.free
  · obtain ⟨_, o, ho, _⟩ := I.ok.funs.mem hb
    exact I.base.free b o ho (I.ok.frf b hb) fun z => I.ok.exfs b z hb
theorem Inv.step {g' : Array GenState} {t' : Nat} {d' : Drawn} {ch : List Addr} (I : Inv X pins σ H s)
    (hch : ∀ b ∈ ch, (b ∈ X.ex ∨ X.s_0.heap.objs.size ≤ b) ∧ b ≠ X.env.locals ∧ (∀ x c, X.env.cells.lookup x = some c → c ≠ b) ∧ ∀ p ∈ X.pn ++ pins, p.1 ≠ b)
    (keep : ∀ b o, b ≠ X.env.locals → b ∉ X.fs → b ∉ ch → s.heap.get? b = some o → H b = none → h'.get? b = some o)
    (slot : ∀ b o, b ≠ X.env.locals → b ∈ X.fs → b ∉ ch → s.heap.get? b = some o → H b = none → ∃ sl, h'.get? b = some { o with slots := sl }) (free : ∀ b o, b ∉ ch → s.heap.get? b = some o → H b = none → H' b = none)
    (there : ∀ b o, b ∉ ch → s.heap.get? b = some o → ∃ o', h'.get? b = some o')
    (tups : ∀ b xs, H b = some (.tup xs) → H' b = some (.tup xs)) (frzs : ∀ b o u, H b = some (.frz o u) → H' b = some (.frz o u)) (tbls : ∀ b ps, H b = some (.tbl ps) → ∃ more, H' b = some (.tbl (ps ++ more)))
    (ns : ∀ m, s.heap.Ns X.env.locals m → h'.Ns X.env.locals m) (hok : HOk X.prog X.w H' h') (hg : AllBare g') :
    Inv X pins σ H' { s with heap := h', gens := g', drawn := d', toks := t' } := by
  have neL : ∀ b o, X.s_0.heap.get? b = some o → b ≠ X.env.locals := fun b o e => Nat.ne_of_lt (Nat.lt_of_lt_of_le (Heap.lt_size e) I.ok.above)
  have neC : ∀ b o, X.s_0.heap.get? b = some o → b ∉ X.ex → b ∉ ch := fun b o e hx hb => by
    rcases (hch b hb).1 with z | z
    · exact hx z
    · exact absurd (Nat.lt_of_lt_of_le (Heap.lt_size e) z) (Nat.lt_irrefl _)
  have cellK : ∀ x c, X.env.cells.lookup x = some c → ∀ v, s.heap.IsCell c v → h'.IsCell c v := fun x c e v ⟨o, ho, hd⟩ => by
    have nch : c ∉ ch := fun z => (hch c z).2.2.1 x c e rfl
    by_cases hc : c ∈ X.fs
    · obtain ⟨sl, q⟩ := slot c o (I.cne x c e) hc nch ho (I.freeC x c e)
      exact ⟨_, q, hd⟩
    · exact ⟨o, keep c o (I.cne x c e) hc nch ho (I.freeC x c e), hd⟩
  refine ⟨I.ok, I.os, hg, ⟨fun b o e n hb hx => ?_, fun b o e n hb hx => ?_, fun b o e n hx => ?_, fun b o e hx => ?_, fun b xs e => tups b xs (I.base.tups b xs e), fun b o xs e => frzs b o xs (I.base.frzs b o xs e), fun b ps e => ?_⟩, ?_, fun x c e => ?_, ?_, fun x c e => ?_, fun p hp => ?_, hok, I.len⟩
  · exact keep b o (neL b o e) hb (neC b o e hx) (I.base.keep b o e n hb hx) (I.base.free b o e n hx)
  · obtain ⟨sl, e1⟩ := I.base.slot b o e n hb hx
    obtain ⟨sl', e2⟩ := slot b _ (neL b o e) hb (neC b o e hx) e1 (I.base.free b o e n hx)
    exact ⟨sl', e2⟩
  · obtain ⟨o', e1⟩ := I.base.there b o e hx
    exact free b o' (neC b o e hx) e1 (I.base.free b o e n hx)
  · obtain ⟨o', e1⟩ := I.base.there b o e hx
    exact there b o' (neC b o e hx) e1
  · obtain ⟨m1, e1⟩ := I.base.tbls b ps e
    obtain ⟨m2, e2⟩ := tbls b _ e1
    exact ⟨m1 ++ m2, by rw [e2, Array.append_assoc]⟩
  · obtain ⟨m, hn, hl⟩ := I.loc
    refine ⟨m, ns m hn, fun i x v e1 e2 e3 => ?_⟩
    obtain ⟨u, r, l⟩ := hl i x v e1 e2 e3
    refine ⟨u, r, ?_⟩
    rcases l with l | ⟨k, c, e, z⟩
    · exact .inl l
    · exact .inr ⟨k, c, e, cellK x c e _ z⟩
  · obtain ⟨v, z⟩ := I.cell x c e
    exact ⟨v, cellK x c e v z⟩
  · obtain ⟨m, ⟨o, _, _, ho, _⟩, _⟩ := I.loc
    exact free _ o (fun z => (hch _ z).2.1 rfl) ho I.free
  · obtain ⟨v, o, ho, hd⟩ := I.cell x c e
    exact free c o (fun z => (hch c z).2.2.1 x c e rfl) ho (I.freeC x c e)
  · obtain ⟨e, n, ne, nf, d⟩ := I.pin p hp
    have nch : p.1 ∉ ch := fun z => (hch p.1 z).2.2.2 p hp rfl
    exact ⟨keep p.1 p.2 ne nf nch e n, free p.1 p.2 nch e n, ne, nf, d⟩
theorem Inv.un {t' : Nat} (I : Inv X pins σ H s) (u : Un X.fs [] H H' s.heap h') (hok : HOk X.prog X.w H' h') : Inv X pins σ H' { s with heap := h', toks := t' } := by
  obtain ⟨m, ⟨o, es, ep, ho, r⟩, _⟩ := id I.loc
  obtain ⟨sl, hL⟩ := u.any ho I.free (by simp)
  exact I.step (g' := s.gens) (d' := s.drawn) (ch := []) (fun _ z => nomatch z) (fun b o _ hb _ e n => u.keep b o e n hb (by simp)) (fun b o _ hb _ e n => u.slot b o e n hb (by simp)) (fun b o _ e n => u.free b o e n (by simp)) (fun b o _ e => u.there b o e (by simp)) u.tups u.frzs u.tbls (fun m' hm => by
    obtain ⟨o', es', ep', ho', r'⟩ := hm
    rw [ho] at ho'; cases ho'
    exact ⟨_, es', ep', hL, r'⟩) hok I.bare
theorem Inv.call {g' : Array GenState} {t' : Nat} {d' : Drawn} {ch : List Addr} (I : Inv X pins σ H s) (u : Un (frs X.stack) ch H H' s.heap h') (hok : HOk X.prog X.w H' h') (hg : AllBare g')
    (hch : ∀ b ∈ ch, (b ∈ X.ex ∨ X.s_0.heap.objs.size ≤ b) ∧ b ≠ X.env.locals ∧ (∀ x c, X.env.cells.lookup x = some c → c ≠ b) ∧ ∀ p ∈ X.pn ++ pins, p.1 ≠ b) :
    Inv X pins σ H' { s with heap := h', gens := g', drawn := d', toks := t' } := by
  obtain ⟨m, ⟨o, es, ep, ho, r⟩, _⟩ := id I.loc
  obtain ⟨sl, hL⟩ := u.any ho I.free fun z => (hch _ z).2.1 rfl
  exact I.step (ch := ch) hch (fun b o hL hb hc e n => u.keep b o e n (fun z => (List.mem_cons.mp (I.stkSub b z)).elim hL hb) hc) (fun b o _ _ hc e n => u.any e n hc) (fun b o hc e n => u.free b o e n hc) (fun b o hc e => u.there b o e hc) u.tups u.frzs u.tbls (fun m' hm => by
    obtain ⟨o', es', ep', ho', r'⟩ := hm
    rw [ho] at ho'; cases ho'
    exact ⟨_, es', ep', hL, r'⟩) hok hg
theorem Inv.turned {t' : Nat} {it : Addr} (I : Inv X pins σ H s) (k : ∀ b o, b ≠ it → s.heap.get? b = some o → h'.get? b = some o) (hn : H it = none) (hL : it ≠ X.env.locals)
    (h1 : it ∈ X.ex ∨ X.s_0.heap.objs.size ≤ it) (h2 : ∀ x c, X.env.cells.lookup x = some c → c ≠ it) (h3 : ∀ p ∈ X.pn ++ pins, p.1 ≠ it) : Inv X pins σ H { s with heap := h', toks := t' } := by
  have nit : ∀ b u, H b = some u → b ≠ it := fun b u e z => by rw [z, hn] at e; cases e
  refine I.step (g' := s.gens) (d' := s.drawn) (ch := [it]) (fun b hb => ?_) (fun b o _ _ hc e _ => k b o (fun z => hc (by simp [z])) e) (fun b o _ _ hc e _ => ⟨o.slots, k b o (fun z => hc (by simp [z])) e⟩) (fun _ _ _ _ n => n)
    (fun b o hc e => ⟨o, k b o (fun z => hc (by simp [z])) e⟩) (fun _ _ e => e) (fun _ _ _ e => e) (fun b ps e => ⟨#[], by rw [e]; simp⟩) (fun m hm => ?_) (fun b u e => ?_) I.bare
  · have e : b = it := by simpa using hb
    subst e
    exact ⟨h1, hL, h2, h3⟩
  · obtain ⟨o, es, ep, ho, r⟩ := hm
    exact ⟨o, es, ep, k _ o (Ne.symm hL) ho, r⟩
  · refine (I.hok b u e).stay (fun c v hc q => k c v ?_ q) (fun _ q => q) fun _ _ q => q
    rcases hc with z | z
    · rw [z]; exact nit b u e
    · exact nit c _ z
theorem Inv.tok (I : Inv X pins σ H s) (t : Nat) : Inv X pins σ H { s with toks := t } := I.un (h' := s.heap) (t' := t) Un.refl I.hok
theorem Inv.kept {t' : Nat} (I : Inv X pins σ H s) (k : ∀ b u, s.heap.get? b = some u → h'.get? b = some u) : Inv X pins σ H { s with heap := h', toks := t' } := I.un (Un.kept k) (I.hok.kept k)
theorem Inv.laid {a : Addr} {o : HO} {t' : Nat} (I : Inv X pins σ H s) (k : ∀ b u, s.heap.get? b = some u → h'.get? b = some u) (hp : s.heap.objs.size ≤ a) (new : ObjOk X.prog X.w (upd H a o) h' a o) :
    Inv X pins σ (upd H a o) { s with heap := h', toks := t' } := I.un (Un.laid k hp (I.hok.fresh hp)) (I.hok.laid k hp new)
theorem Inv.write {x e : Addr} {o : HO} {t' : Nat} (I : Inv X pins σ H s) (mu : Mut (H x)) (he : e = x ∨ H e = some (.own x)) (k : ∀ b u, b ≠ e → s.heap.get? b = some u → h'.get? b = some u) (heo : ∃ u, h'.get? e = some u)
    (new : ObjOk X.prog X.w (upd H x o) h' x o) : Inv X pins σ (upd H x o) { s with heap := h', toks := t' } := I.un (Un.write mu he k heo) (I.hok.write mu he k heo new)
theorem Inv.weak {σ' : List (Option V)} (I : Inv X pins σ H s) (hl : σ'.length = σ.length) (w : ∀ (i : Nat) v, σ'[i]? = some (some v) → σ[i]? = some (some v)) : Inv X pins σ' H s :=
  ⟨I.ok, I.os, I.bare, I.base, let ⟨m, hn, hl'⟩ := I.loc; ⟨m, hn, fun i x v e1 e2 e3 => hl' i x v e1 (w i v e2) e3⟩, I.cell, I.free, I.freeC, I.pin, I.hok, hl.trans I.len⟩
theorem Inv.pins_of {pins' : List (Addr × Obj)} (I : Inv X pins σ H s) (h : ∀ p ∈ pins', s.heap.get? p.1 = some p.2 ∧ H p.1 = none ∧ p.1 ≠ X.env.locals ∧ p.1 ∉ X.fs ∧ ∀ v, p.2.data ≠ .cell v) : Inv X pins' σ H s :=
  ⟨I.ok, I.os, I.bare, I.base, I.loc, I.cell, I.free, I.freeC, fun p hp => (List.mem_append.mp hp).elim (fun z => I.pin p (List.mem_append_left _ z)) (h p), I.hok, I.len⟩
theorem nodup_ix {N : List Str} (hN : N.Nodup) {i j : Nat} {x : Str} (a : N[i]? = some x) (b : N[j]? = some x) : i = j := by
  obtain ⟨h1, e1⟩ := List.getElem?_eq_some_iff.mp a
  obtain ⟨h2, e2⟩ := List.getElem?_eq_some_iff.mp b
  exact (List.getElem_inj hN).mp (e1.trans e2.symm)
theorem store_ok2 {M : Model} {A : Around} {E : Value → Shared → Prop} {i : Nat} {x : Str} {v : V} {u : Value} {Q : Unit → Shared → Prop} (I : Inv X pins σ H s) (hN : X.N.Nodup) (hi : X.N[i]? = some x) (hx : Loc X.env.scope x) (r : RelV v u)
    (h : ∀ s', Inv X pins (σ.set i (some v)) H s' → (∃ a, Heap.SameBut a s.heap s'.heap ∧ (a = X.env.locals ∨ X.env.cells.lookup x = some a)) → Q () s') (hf : X.fn x = true ∨ X.env.scope.names.lookup x = some .local := by first | exact .inl rfl | exact .inr rfl | assumption) : wpAny M A (storeName X.env x u) Q E s := by
  obtain ⟨m, hn, hl⟩ := id I.loc
  have hcls : (X.env.scope.kind == .class || (X.env.scope.kind == .module && X.env.locals != X.env.globals)) = false := by rw [I.ok.kind]; rfl
  have hiσ : i < σ.length := by rw [I.len]; exact (List.getElem?_eq_some_iff.mp hi).1
  have cne := I.cne
  have tracked : ∀ {a : Addr} {h' : Heap}, (∃ o, s.heap.get? a = some o ∧ H a = none) → Heap.SameBut a s.heap h' → HOk X.prog X.w H h' := fun {a h'} ha hs b ob e => by
    obtain ⟨_, _, hfree⟩ := ha
    refine (I.hok b ob e).stay (fun c w' hc q => (hs.2 c ?_).trans q) (fun _ q => q) fun _ _ q => q
    rintro rfl
    rcases hc with rfl | hc
    · rw [hfree] at e; cases e
    · rw [hfree] at hc; cases hc
  rcases hx with hk | hk
  · refine wpAny_storeName_local hk hn (fun h' hn' hs => ?_) hcls
    obtain ⟨oL, _, _, hoL, _⟩ := id hn
    refine h _ ⟨I.ok, I.os, I.bare, ⟨fun b o e n hb hx => ?_, fun b o e n hb hx => ?_, I.base.free, fun b o e hx => ?_, I.base.tups, I.base.frzs, I.base.tbls⟩, ⟨_, hn', fun j y v' e1 e2 e3 => ?_⟩, fun y c e => ?_, I.free, I.freeC, fun p hp => ?_, tracked ⟨oL, hoL, I.free⟩ hs, by simpa using I.len⟩ ⟨_, hs, .inl rfl⟩
    · exact (hs.2 b (Nat.ne_of_lt (Nat.lt_of_lt_of_le (Heap.lt_size e) I.ok.above))).trans (I.base.keep b o e n hb hx)
    · obtain ⟨sl, e1⟩ := I.base.slot b o e n hb hx
      exact ⟨sl, (hs.2 b (Nat.ne_of_lt (Nat.lt_of_lt_of_le (Heap.lt_size e) I.ok.above))).trans e1⟩
    · obtain ⟨o', e1⟩ := I.base.there b o e hx
      exact ⟨o', (hs.2 b (Nat.ne_of_lt (Nat.lt_of_lt_of_le (Heap.lt_size e) I.ok.above))).trans e1⟩
    · by_cases hj : j = i
      · subst hj
        rw [hi] at e1; cases e1
        rw [List.getElem?_set_self hiσ] at e2
        cases e2
        exact ⟨u, r, .inl ⟨hk, by simp⟩⟩
      · rw [List.getElem?_set_ne (Ne.symm hj)] at e2
        obtain ⟨u', r', q⟩ := hl j y v' e1 e2 e3
        refine ⟨u', r', ?_⟩
        rcases q with ⟨k, e⟩ | ⟨k, c, e, z⟩
        · refine .inl ⟨k, ?_⟩
          have : y ≠ x := fun e => hj (nodup_ix hN e1 (e ▸ hi))
          simp [this, e]
        · exact .inr ⟨k, c, e, z.sameBut hs (cne y c e)⟩
    · obtain ⟨w', z⟩ := I.cell y c e
      exact ⟨w', z.sameBut hs (cne y c e)⟩
    · obtain ⟨e, n, ne, nf, d⟩ := I.pin p hp
      exact ⟨(hs.2 p.1 ne).trans e, n, ne, nf, d⟩
  · have hfn : X.fn x = true := by
      rcases hf with z | z
      · exact z
      · rw [z] at hk; cases hk
    obtain ⟨c, hc⟩ := I.ok.has x (.inl hk)
    obtain ⟨w', z⟩ := I.cell x c hc
    refine wpAny_storeName_cell I.ok.kind hk hc z (fun h' hc' hs => ?_)
    obtain ⟨oc, hoc, hocd⟩ := id z
    refine h { s with heap := h' } ⟨I.ok, I.os, I.bare, ⟨fun b o e n hb hx => ?_, fun b o e n hb hx => ?_, I.base.free, fun b o e hx => ?_, I.base.tups, I.base.frzs, I.base.tbls⟩, ⟨m, hn.sameBut hs (Ne.symm (cne x c hc)), fun j y v' e1 e2 e3 => ?_⟩, fun y c' e => ?_, I.free, I.freeC, fun p hp => ?_, tracked ⟨oc, hoc, I.freeC x c hc⟩ hs, by simpa using I.len⟩ ⟨c, hs, .inr hc⟩
    · exact (hs.2 b (Nat.ne_of_lt (Nat.lt_of_lt_of_le (Heap.lt_size e) (I.ok.cab x c hfn hc)))).trans (I.base.keep b o e n hb hx)
    · obtain ⟨sl, e1⟩ := I.base.slot b o e n hb hx
      exact ⟨sl, (hs.2 b (Nat.ne_of_lt (Nat.lt_of_lt_of_le (Heap.lt_size e) (I.ok.cab x c hfn hc)))).trans e1⟩
    · obtain ⟨o', e1⟩ := I.base.there b o e hx
      exact ⟨o', (hs.2 b (Nat.ne_of_lt (Nat.lt_of_lt_of_le (Heap.lt_size e) (I.ok.cab x c hfn hc)))).trans e1⟩
    · by_cases hj : j = i
      · subst hj
        rw [hi] at e1; cases e1
        rw [List.getElem?_set_self hiσ] at e2
        cases e2
        exact ⟨u, r, .inr ⟨.inl hk, c, hc, hc'⟩⟩
      · rw [List.getElem?_set_ne (Ne.symm hj)] at e2
        obtain ⟨u', r', q⟩ := hl j y v' e1 e2 e3
        refine ⟨u', r', ?_⟩
        rcases q with q | ⟨k, c', e, z'⟩
        · exact .inl q
        · refine .inr ⟨k, c', e, z'.sameBut hs ?_⟩
          rintro rfl
          exact hj (nodup_ix hN e1 (I.ok.inj _ _ _ e hc ▸ hi))
    · by_cases hcc : c' = c
      · subst hcc; exact ⟨_, hc'⟩
      · obtain ⟨w2, z2⟩ := I.cell y c' e
        exact ⟨w2, z2.sameBut hs hcc⟩
    · obtain ⟨e, n, ne, nf, d⟩ := I.pin p hp
      refine ⟨(hs.2 p.1 ?_).trans e, n, ne, nf, d⟩
      intro q
      rw [q, hoc] at e
      have q' : oc = p.2 := Option.some.inj e
      exact d w' (by rw [← q']; exact hocd)
theorem store_ok {M : Model} {A : Around} {E : Value → Shared → Prop} {i : Nat} {x : Str} {v : V} {u : Value} {Q : Unit → Shared → Prop} (I : Inv X pins σ H s) (hN : X.N.Nodup) (hi : X.N[i]? = some x) (hx : Loc X.env.scope x) (r : RelV v u)
    (h : ∀ s', Inv X pins (σ.set i (some v)) H s' → Q () s') (hf : X.fn x = true ∨ X.env.scope.names.lookup x = some .local := by first | exact .inl rfl | exact .inr rfl | assumption) : wpAny M A (storeName X.env x u) Q E s :=
  store_ok2 I hN hi hx r (fun s' I' _ => h s' I') hf
theorem Inv.call' {s' : Shared} {ch : List Addr} (I : Inv X pins σ H s) (ho : s'.os = s.os) (u : Un (frs X.stack) ch H H' s.heap s'.heap) (hok : HOk X.prog X.w H' s'.heap) (hg : AllBare s'.gens)
    (hch : ∀ b ∈ ch, (b ∈ X.ex ∨ X.s_0.heap.objs.size ≤ b) ∧ b ≠ X.env.locals ∧ (∀ x c, X.env.cells.lookup x = some c → c ≠ b) ∧ ∀ p ∈ X.pn ++ pins, p.1 ≠ b) : Inv X pins σ H' s' := by
  obtain ⟨h', g', d', t', o'⟩ := s'
  have e : o' = s.os := ho
  subst e
  exact I.call (g' := g') (t' := t') (d' := d') u hok hg hch
end
abbrev XK := Value → Option Addr → Hp → Prop
abbrev St := List (Option V)
abbrev VK := V → Hp → Prop
abbrev TE := St → Hp → VK → Prop
abbrev TT := St → Hp → (Bool → Hp → Prop) → Prop
abbrev TA := St → Hp → (List V → Hp → Prop) → Prop
structure Ends where
  nx : St → Hp → Prop
  rt : VK
  bk : St → Hp → Prop := fun _ _ => False
  ct : St → Hp → Prop := fun _ _ => False
abbrev TS := Ends → St → Hp → Prop
def EP (X : Cx) (pins : List (Addr × Obj)) (σ : St) (Q : VK) (u : Value) (s' : Shared) : Prop := ∃ v H', Inv X pins σ H' s' ∧ RelV v u ∧ Q v H'
def TP (X : Cx) (pins : List (Addr × Obj)) (σ : St) (Q : Bool → Hp → Prop) (b : Bool) (s' : Shared) : Prop := ∃ H', Inv X pins σ H' s' ∧ Q b H'
def AP (X : Cx) (pins : List (Addr × Obj)) (σ : St) (Q : List V → Hp → Prop) (us : List Value) (s' : Shared) : Prop := ∃ vs H', Inv X pins σ H' s' ∧ Vals vs us ∧ Q vs H'
def SP (X : Cx) (pins : List (Addr × Obj)) (D : Ends) (f : Flow) (s' : Shared) : Prop :=
  match f with
  | .next => ∃ σ' H', Inv X pins σ' H' s' ∧ D.nx σ' H'
  | .brk => ∃ σ' H', Inv X pins σ' H' s' ∧ D.bk σ' H'
  | .cont => ∃ σ' H', Inv X pins σ' H' s' ∧ D.ct σ' H'
  | .ret u => ∃ v σ' H', Inv X pins σ' H' s' ∧ RelV v u ∧ D.rt v H'
def PE (X : Cx) (e : Expr) (t : TE) : Prop :=
  ∀ (pins : List (Addr × Obj)) (s : Shared) (σ : St) (H : Hp) (Q : VK), Inv X pins σ H s → t σ H Q → wpAny (model X.prog X.w) X.A (eval e X.env) (EP X pins σ Q) X.xe s
def PT (X : Cx) (e : Expr) (t : TT) : Prop :=
  ∀ (pins : List (Addr × Obj)) (s : Shared) (σ : St) (H : Hp) (Q : Bool → Hp → Prop), Inv X pins σ H s → t σ H Q → wpAny (model X.prog X.w) X.A (isTrue e X.env (eval e X.env)) (TP X pins σ Q) X.xe s
def PW (X : Cx) (e : Expr) (t : TT) : Prop :=
  ∀ (whole : Sem Value) (pins : List (Addr × Obj)) (s : Shared) (σ : St) (H : Hp) (Q : Bool → Hp → Prop), Inv X pins σ H s → t σ H Q → wpAny (model X.prog X.w) X.A (isTrue e X.env whole) (TP X pins σ Q) X.xe s
theorem PW.pt {X : Cx} {e : Expr} {t : TT} (h : PW X e t) : PT X e t := h _
def PA (X : Cx) (es : List Expr) (t : TA) : Prop :=
  ∀ (pos : Pos) (pins : List (Addr × Obj)) (s : Shared) (σ : St) (H : Hp) (Q : List V → Hp → Prop), Inv X pins σ H s → t σ H Q → wpAny (model X.prog X.w) X.A (spliced (backTo pos (starEach es X.env))) (AP X pins σ Q) X.xe s
def PS (X : Cx) (st : Stmt) (t : TS) : Prop :=
  ∀ (pins : List (Addr × Obj)) (s : Shared) (σ : St) (H : Hp) (D : Ends), Inv X pins σ H s → t D σ H → wpAny (model X.prog X.w) X.A (exec st X.env) (SP X pins D) X.xe s
def PSs (X : Cx) (st : List Stmt) (t : TS) : Prop :=
  ∀ (pins : List (Addr × Obj)) (s : Shared) (σ : St) (H : Hp) (D : Ends), Inv X pins σ H s → t D σ H → wpAny (model X.prog X.w) X.A (execs st X.env) (SP X pins D) X.xe s
theorem thn {α : Type} {t : Sem α} {Q Q' : α → Shared → Prop} {M : Model} {A : Around} {E : Value → Shared → Prop} {s : Shared} (h : wpAny M A t Q E s) (hQ : ∀ a s, Q a s → Q' a s) : wpAny M A t Q' E s := wpAny_mono h hQ fun _ _ x => x
end L2
namespace L2
open PySem PySem.Spec PyProof.Rows
section
variable {X : Cx}
def tVar (i : Nat) : TE := fun σ H Q => ∃ v, σ[i]? = some (some v) ∧ Q v H
def tC (v : V) : TE := fun _ H Q => Q v H
theorem pe_var {i : Nat} {x : Str} {pos : Pos} (hN : X.N[i]? = some x) (hv : Vis X.env.scope x) (hd : (x == ("__debug__" : Str)) = false := by decide) (hcd : (x == ("__classdict__" : Str)) = false := by decide) : PE X (.Name x pos) (tVar i) := by
  intro pins s σ H Q I h
  obtain ⟨v, e, h⟩ := h
  obtain ⟨m, hn, hl⟩ := I.loc
  obtain ⟨u, r, l⟩ := hl i x v hN e hv
  have fin : EP X pins σ Q u s := ⟨v, H, I, r, h⟩
  rcases l with ⟨hk, hm⟩ | ⟨hk, c, hc, hcell⟩
  · exact wpAny_Name (wpAny_loadName_local I.ok.kind hk hn hm fin) hd
  · rcases hk with hk | hk
    · exact wpAny_Name (wpAny_loadName_cell I.ok.kind hk hc hcell fin) hd
    · exact wpAny_Name (wpAny_loadName_free I.ok.kind hk hc hcell fin hcd) hd
theorem pe_int {i j pos} : PE X (.Constant (.int i) j pos) (tC (.int i)) := fun _ _ _ H _ I h => wpAny_Constant_int ⟨.int i, H, I.tok _, ⟨_, rfl⟩, h⟩
theorem pe_bl {b j pos} : PE X (.Constant (.bool b) j pos) (tC (.bl b)) := fun _ _ _ H _ I h => Constant_bool ⟨.bl b, H, I, rfl, h⟩
theorem pe_non {j pos} : PE X (.Constant .none j pos) (tC .non) := fun _ _ _ H _ I h => Constant_none ⟨.non, H, I, rfl, h⟩
def Gl (X : Cx) (x : Str) : Prop := X.env.kindOf x = some .globalImplicit
theorem ld_glob {E : Value → Shared → Prop} {pins : List (Addr × Obj)} {s : Shared} {σ : St} {H : Hp} {x : Str} {u : Value} {pos : Pos} {Q : Value → Shared → Prop} (I : Inv X pins σ H s) (hg : Gl X x) (hm : X.mg x = some u) (h : Q u s)
    (hd : (x == ("__debug__" : Str)) = false := by decide) : wpAny (model X.prog X.w) X.A (eval (.Name x pos) X.env) Q E s :=
  Calls.Name_function_global I.ok.kind hg (Calls.loadGlobal_global (by rw [I.ok.glob]; exact I.mod.glob.keeps I.bk) hm h) hd
theorem ld_blt {E : Value → Shared → Prop} {pins : List (Addr × Obj)} {s : Shared} {σ : St} {H : Hp} {x : Str} {u : Value} {pos : Pos} {Q : Value → Shared → Prop} (I : Inv X pins σ H s) (hg : Gl X x) (hm : X.mg x = none) (hv : bootBuiltins x = some u) (h : Q u s)
    (hn : x ≠ "__name__" := by decide) (hd : (x == ("__debug__" : Str)) = false := by decide) : wpAny (model X.prog X.w) X.A (eval (.Name x pos) X.env) Q E s := by
  obtain ⟨mb, h1, h2⟩ := I.mod.blt
  exact Calls.Name_function_global I.ok.kind hg (Calls.loadGlobal_builtin (by rw [I.ok.glob]; exact I.mod.glob.keeps I.bk) hm (by rw [I.ok.blt]; exact h1.keeps I.bk) ((h2 x hn).trans hv) h) hd
theorem pe_glob {x : Str} {v : V} {u : Value} {pos : Pos} (hg : Gl X x) (hm : X.mg x = some u) (r : RelV v u) (hd : (x == ("__debug__" : Str)) = false := by decide) : PE X (.Name x pos) (tC v) :=
  fun _ _ _ H _ I h => ld_glob I hg hm ⟨v, H, I, r, h⟩ hd
variable {a b : Expr} {ta tb : TE} {pos : Pos}
def tB (t : TE) : TT := fun σ H Q => t σ H fun x H1 => ∃ c, x = .bl c ∧ Q c H1
theorem pt_val {e : Expr} {t : TE} (h : PE X e t) (he : ∀ whole, isTrue e X.env whole = (do let v ← whole; standAt e.pos; holding [v] (truthy v)) := by intro _; rfl) : PT X e (tB t) := by
  intro pins s σ H Q I hw
  refine isTrue_plain (thn (h pins s σ H _ I hw) fun v s1 ⟨x, H1, I1, r1, q1⟩ => ?_) (he _)
  obtain ⟨d, rfl, q⟩ := q1
  cases r1
  exact wpAny_truthy_bool ⟨H1, I1, q⟩
variable {tA tB' : TT} {rest : List Expr}
def tOr (t u : TT) : TT := fun σ H Q => t σ H fun c H1 => if c = true then Q true H1 else u σ H1 Q
def tNot (t : TT) : TT := fun σ H Q => t σ H fun c H1 => Q (!c) H1
theorem pw_or1 (ha : PT X a tA) : PW X (.BoolOp .Or [a] pos) tA := by
  intro wh pins s σ H Q I h
  refine isTrue_or (thn (ha pins s σ H Q I h) fun c s1 e => ?_)
  cases c with
  | false => exact isTrue_or_nil e
  | true => exact e
theorem pw_or (ha : PT X a tA) (hb : PW X (.BoolOp .Or (b :: rest) pos) tB') : PW X (.BoolOp .Or (a :: b :: rest) pos) (tOr tA tB') := by
  intro wh pins s σ H Q I h
  refine isTrue_or (thn (ha pins s σ H _ I h) fun c s1 ⟨H1, I1, q1⟩ => ?_)
  cases c with
  | true => exact ⟨H1, I1, q1⟩
  | false => exact hb wh pins s1 σ H1 Q I1 q1
theorem pt_not (ha : PT X a tA) : PT X (.UnaryOp .Not a pos) (tNot tA) := by
  intro pins s σ H Q I h
  exact isTrue_not (ha pins s σ H (fun c H1 => Q (!c) H1) I h)
def tAndV (ta tb : TE) : TE := fun σ H Q => ta σ H fun x H1 => ∃ c, x = .bl c ∧ if c = true then tb σ H1 Q else Q (.bl false) H1
theorem pe_one {op} {t : TE} (h : PE X a t) : PE X (.BoolOp op [a] pos) t := fun pins s σ H Q I hw => BoolOp_one (h pins s σ H Q I hw)
theorem pe_and (ha : PE X a ta) (hb : PE X (.BoolOp .And (b :: rest) pos) tb) : PE X (.BoolOp .And (a :: b :: rest) pos) (tAndV ta tb) := by
  intro pins s σ H Q I h
  refine BoolOp_and (thn (ha pins s σ H _ I h) fun v s1 ⟨x, H1, I1, r1, q1⟩ => ?_)
  obtain ⟨c, rfl, q1⟩ := q1
  cases r1
  refine wpAny_truthy_bool ?_
  cases c with
  | true => exact hb pins s1 σ H1 Q I1 q1
  | false => exact ⟨.bl false, H1, I1, rfl, q1⟩
def tIf (t : TT) (ta tb : TE) : TE := fun σ H Q => t σ H fun c H1 => if c = true then ta σ H1 Q else tb σ H1 Q
theorem pe_ifExp {c : Expr} (hc : PT X c tA) (ha : PE X a ta) (hb : PE X b tb) : PE X (.IfExp c a b pos) (tIf tA ta tb) := by
  intro pins s σ H Q I h
  refine wpAny_IfExp (thn (hc pins s σ H _ I h) fun d s1 ⟨H1, I1, q1⟩ => ?_)
  cases d with
  | true => exact ha pins s1 σ H1 Q I1 q1
  | false => exact hb pins s1 σ H1 Q I1 q1
end
end L2
namespace L2
open PySem PySem.Spec PyProof.Rows
def SqL (K : PySem.W.Frag) (H : Hp) (a : Addr) (xs : List V) : Prop :=
  Rd H a (.lst xs) ∨
    ∃ (o : Obj) (its : Array Value) (n : Nat), K.lookup a = some o ∧ o.cls = .type "list" ∧ o.dict = none ∧ o.data = .seq its n ∧ its.size ≤ sizeLine ∧ Vals xs its.toList
def SqT (K : PySem.W.Frag) (H : Hp) (a : Addr) (xs : List V) : Prop :=
  Rd H a (.tup xs) ∨
    ∃ (o : Obj) (its : Array Value) (n : Nat), K.lookup a = some o ∧ o.cls = .type "tuple" ∧ o.data = .seq its n ∧ its.size ≤ sizeLine ∧ Vals xs its.toList
def absV : Value → Option V
  | .none => some .non
  | .bool b => some (.bl b)
  | .int i _ => some (.int i)
  | .str x _ => some (.str x)
  | .bytes b _ => some (.byt b)
  | .float b _ => some (.flt b)
  | .ref a => some (.ref a)
  | .type n => some (.ty n)
  | _ => none
theorem RelV.abs {x : V} {u : Value} (r : RelV x u) : absV u = some x := by
  cases x with
  | non => cases r; rfl
  | bl _ => cases r; rfl
  | int _ => obtain ⟨t, rfl⟩ := r; rfl
  | str _ => obtain ⟨t, rfl⟩ := r; rfl
  | byt _ => obtain ⟨t, rfl⟩ := r; rfl
  | flt _ => obtain ⟨t, rfl⟩ := r; rfl
  | ref _ => cases r; rfl
  | ty _ => cases r; rfl
theorem RelV.inj {x y : V} {u : Value} (r : RelV x u) (q : RelV y u) : x = y := Option.some.inj (r.abs.symm.trans q.abs)
theorem Vals.inj : ∀ {xs ys : List V} {us : List Value}, Vals xs us → Vals ys us → xs = ys
  | _, _, _, .nil, .nil => rfl
  | _, _, _, .cons r t, .cons r' t' => by rw [r.inj r', Vals.inj t t']
section
variable {X : Cx} {pins : List (Addr × Obj)} {σ : St} {H : Hp} {s : Shared} {a : Addr} {xs ys : List V}
theorem SqL.of {K : PySem.W.Frag} (h : H a = some (.lst xs)) : SqL K H a xs := .inl (.inl h)
theorem SqT.of {K : PySem.W.Frag} (h : H a = some (.tup xs)) : SqT K H a xs := .inl (.inl h)
theorem Inv.list (I : Inv X pins σ H s) (h : SqL X.K H a xs) : ∃ its : List Value, Vals xs its ∧ PlainL s.heap a its.toArray ∧ xs.length ≤ sizeLine := by
  rcases h with h | ⟨o, its, n, hk, hc, hd, hs, hz, r⟩
  · obtain ⟨z, its, n, r, e⟩ := h.ok I.hok
    exact ⟨its, r, ⟨_, n, e, rfl, rfl, rfl⟩, z⟩
  · refine ⟨its.toList, r, ⟨o, n, I.kIn a o hk, hc, hd, by simpa using hs⟩, ?_⟩
    have e := r.length
    simp only [Array.length_toList] at e
    omega
theorem Inv.tuple (I : Inv X pins σ H s) (h : SqT X.K H a xs) : ∃ its : List Value, Vals xs its ∧ IsTup s.heap a its.toArray ∧ xs.length ≤ sizeLine := by
  rcases h with h | ⟨o, its, n, hk, hc, hs, hz, r⟩
  · obtain ⟨z, its, r, p⟩ := h.ok I.hok
    exact ⟨its, r, p, z⟩
  · refine ⟨its.toList, r, ⟨o, I.kIn a o hk, hc, n, by simpa using hs⟩, ?_⟩
    have e := r.length
    simp only [Array.length_toList] at e
    omega
theorem Inv.list_inj (I : Inv X pins σ H s) (h : SqL X.K H a xs) (h' : SqL X.K H a ys) : xs = ys := by
  obtain ⟨its, r, ⟨o, n, e, _, _, d⟩, _⟩ := I.list h
  obtain ⟨its', r', ⟨o', n', e', _, _, d'⟩, _⟩ := I.list h'
  rw [e] at e'; cases e'
  rw [d] at d'
  injection d' with d1 _
  have : its = its' := by simpa using congrArg Array.toList d1
  subst this
  exact r.inj r'
end
abbrev Cx.wish (X : Cx) (E : Value → Shared → Prop) : Cx := { X with xe := E }
abbrev Cx.nox (X : Cx) : Cx := X.wish fun _ _ => False
theorem Cx.Ok.wish {X : Cx} (ok : X.Ok) (E : Value → Shared → Prop) : (X.wish E).Ok :=
  ⟨ok.mod, ok.kind, ok.glob, ok.blt, ok.above, ok.inj, ok.has, ok.cab, ok.hd, ok.frames, ok.stk, ok.exf, ok.bs, ok.bsz, ok.noex, ok.exfs, ok.funs, ok.frf⟩
theorem Cx.Ok.unwish {X : Cx} {E : Value → Shared → Prop} (ok : (X.wish E).Ok) : X.Ok :=
  ⟨ok.mod, ok.kind, ok.glob, ok.blt, ok.above, ok.inj, ok.has, ok.cab, ok.hd, ok.frames, ok.stk, ok.exf, ok.bs, ok.bsz, ok.noex, ok.exfs, ok.funs, ok.frf⟩
section
variable {X : Cx} {pins : List (Addr × Obj)} {σ : St} {H : Hp} {s : Shared} {E : Value → Shared → Prop}
theorem Inv.wish (I : Inv X pins σ H s) (E : Value → Shared → Prop) : Inv (X.wish E) pins σ H s := ⟨I.ok.wish E, I.os, I.bare, I.base, I.loc, I.cell, I.free, I.freeC, I.pin, I.hok, I.len⟩
theorem Inv.unwish (I : Inv (X.wish E) pins σ H s) : Inv X pins σ H s := ⟨I.ok.unwish, I.os, I.bare, I.base, I.loc, I.cell, I.free, I.freeC, I.pin, I.hok, I.len⟩
theorem SP.unwish {D : Ends} {f : Flow} {s' : Shared} (h : SP (X.wish E) pins D f s') : SP X pins D f s' := by
  cases f with
  | next => obtain ⟨σ', H', I, q⟩ := h; exact ⟨σ', H', I.unwish, q⟩
  | brk => obtain ⟨σ', H', I, q⟩ := h; exact ⟨σ', H', I.unwish, q⟩
  | cont => obtain ⟨σ', H', I, q⟩ := h; exact ⟨σ', H', I.unwish, q⟩
  | ret u => obtain ⟨v, σ', H', I, r, q⟩ := h; exact ⟨v, σ', H', I.unwish, r, q⟩
theorem PE.nox {e : Expr} {t : TE} (h : PE X.nox e t) : PE X e t := fun pins s σ H Q I hw =>
  wpAny_mono (h pins s σ H Q (I.wish _) hw) (fun _ _ ⟨v, H', I', r, q⟩ => ⟨v, H', I'.unwish, r, q⟩) fun _ _ z => False.elim z
theorem PT.nox {e : Expr} {t : TT} (h : PT X.nox e t) : PT X e t := fun pins s σ H Q I hw =>
  wpAny_mono (h pins s σ H Q (I.wish _) hw) (fun _ _ ⟨H', I', q⟩ => ⟨H', I'.unwish, q⟩) fun _ _ z => False.elim z
theorem PSs.nox {st : List Stmt} {t : TS} (h : PSs X.nox st t) : PSs X st t := fun pins s σ H D I hw =>
  wpAny_mono (h pins s σ H D (I.wish _) hw) (fun _ _ q => q.unwish) fun _ _ z => False.elim z
end
section
variable {X : Cx} {st : Stmt} {rest : List Stmt} {t u : TS} {e : Expr} {te : TE} {pos : Pos}
def tNext : TS := fun D σ H => D.nx σ H
def tSeq (t u : TS) : TS := fun D σ H => t { D with nx := u D } σ H
theorem pss_nil : PSs X [] tNext := fun _ _ σ H _ I h => wpAny_execs_nil ⟨σ, H, I, h⟩
theorem pss_cons (h1 : PS X st t) (h2 : PSs X rest u) : PSs X (st :: rest) (tSeq t u) := by
  intro pins s σ H D I h
  refine wpAny_execs_cons (thn (h1 pins s σ H { D with nx := u D } I h) fun f s1 q => ?_)
  cases f with
  | next =>
    obtain ⟨σ', H', I', q⟩ := q
    exact h2 pins s1 σ' H' D I' q
  | ret v => exact q
  | brk => exact q
  | cont => exact q
theorem pss_one (h1 : PS X st t) : PSs X [st] t := by
  intro pins s σ H D I h
  refine wpAny_execs_cons (thn (h1 pins s σ H D I h) fun f s1 q => ?_)
  cases f with
  | next => exact wpAny_execs_nil q
  | ret v => exact q
  | brk => exact q
  | cont => exact q
theorem Inv.quiet {pins : List (Addr × Obj)} {σ : St} {H : Hp} {s : Shared} (I : Inv X pins σ H s) : interactive X.env = false := by simp [interactive, I.ok.kind]
def tDrop (te : TE) : TS := fun D σ H => te σ H fun _ H1 => D.nx σ H1
theorem ps_expr (he : PE X e te) (hs : swapsWith e none pos.line X.env = pure false := by rfl) : PS X (.Expr e pos) (tDrop te) := by
  intro pins s σ H D I h
  exact wpAny_Expr_any (thn (he pins s σ H _ I h) fun v s1 ⟨x, H1, I1, r1, q1⟩ => ⟨σ, H1, I1, q1⟩) I.quiet hs
def tRet (te : TE) : TS := fun D σ H => te σ H D.rt
theorem ps_ret (he : PE X e te) : PS X (.Return (some e) pos) (tRet te) := by
  intro pins s σ H D I h
  exact wpAny_Return_some (thn (he pins s σ H _ I h) fun v s1 ⟨x, H1, I1, r1, q1⟩ => ⟨x, σ, H1, I1, r1, q1⟩)
def tIfS (c : TT) (t u : TS) : TS := fun D σ H => c σ H fun b H1 => if b = true then t D σ H1 else u D σ H1
theorem ps_if {c : Expr} {a b : List Stmt} {tc : TT} (hc : PT X c tc) (ha : PSs X a t) (hb : PSs X b u) : PS X (.If c a b pos) (tIfS tc t u) := by
  intro pins s σ H D I h
  refine wpAny_If (thn (hc pins s σ H _ I h) fun d s1 ⟨H1, I1, q1⟩ => ?_)
  cases d with
  | true => exact ha pins s1 σ H1 D I1 q1
  | false => exact hb pins s1 σ H1 D I1 q1
end
abbrev TG := V → St → Hp → (St → Hp → Prop) → Prop
abbrev TGs := List V → St → Hp → (St → Hp → Prop) → Prop
def PG (X : Cx) (target : Expr) (t : TG) : Prop :=
  ∀ (pins : List (Addr × Obj)) (s : Shared) (σ : St) (H : Hp) (v : V) (u : Value) (Q : St → Hp → Prop), Inv X pins σ H s → RelV v u → t v σ H Q →
    wpAny (model X.prog X.w) X.A (assign target X.env u) (fun _ s' => ∃ σ' H', Inv X pins σ' H' s' ∧ Q σ' H') X.xe s
def PGs (X : Cx) (ts : List Expr) (t : TGs) : Prop :=
  ∀ (pins : List (Addr × Obj)) (s : Shared) (σ : St) (H : Hp) (vs : List V) (us : List Value) (Q : St → Hp → Prop), Inv X pins σ H s → Vals vs us → t vs σ H Q →
    wpAny (model X.prog X.w) X.A (assignInOrder ((assignEach ts X.env).map (·.2)) us) (fun _ s' => ∃ σ' H', Inv X pins σ' H' s' ∧ Q σ' H') X.xe s
section
variable {X : Cx} {pos : Pos}
def gName (i : Nat) : TG := fun v σ H Q => Q (σ.set i (some v)) H
theorem pg_name {i : Nat} {x : Str} (hN : X.N.Nodup) (hi : X.N[i]? = some x) (hx : Loc X.env.scope x) (hf : X.fn x = true ∨ X.env.scope.names.lookup x = some .local := by first | exact .inl rfl | exact .inr rfl | assumption) : PG X (.Name x pos) (gName i) := by
  intro pins s σ H v u Q I r h
  exact wpAny_assign_Name (store_ok I hN hi hx r (fun s' I' => ⟨_, H, I', h⟩) hf)
def gNil : TGs := fun vs σ H Q => vs = [] ∧ Q σ H
def gCons (t : TG) (u : TGs) : TGs := fun vs σ H Q => ∃ v r, vs = v :: r ∧ t v σ H fun σ' H' => u r σ' H' Q
theorem pgs_nil : PGs X [] gNil := by
  intro pins s σ H vs us Q I r h
  obtain ⟨e, h⟩ := h
  subst e
  cases r
  exact assignInOrder_nil ⟨σ, H, I, h⟩
theorem pgs_cons {e : Expr} {es : List Expr} {t : TG} {u : TGs} (h1 : PG X e t) (h2 : PGs X es u)
    (hs : (assignEach (e :: es) X.env).map (·.2) = assign e X.env :: (assignEach es X.env).map (·.2) := by rfl) : PGs X (e :: es) (gCons t u) := by
  intro pins s σ H vs us Q I r h
  obtain ⟨v, vr, e1, h⟩ := h
  subst e1
  cases r with
  | cons r rr =>
    rw [hs]
    refine assignInOrder_cons (thn (h1 pins s σ H _ _ _ I r h) fun _ s1 ⟨σ1, H1, I1, q1⟩ => ?_)
    exact h2 pins s1 σ1 H1 _ _ Q I1 rr q1
def gTup (K : PySem.W.Frag) (n : Nat) (t : TGs) : TG := fun v σ H Q => ∃ a xs, v = .ref a ∧ SqT K H a xs ∧ xs.length = n ∧ t xs σ H Q
theorem pg_tup {es : List Expr} {k : Nat} {t : TGs} {n : Nat} (hc : X.calm = true) (h : PGs X es t)
    (hn : (assignEach es X.env).length = n := by rfl) (hst : (assignEach es X.env).findIdx? (·.1) = none := by rfl) : PG X (.Tuple es k pos) (gTup X.K n t) := by
  intro pins s σ H v u Q I r hw
  obtain ⟨a, xs, e1, hq, hl, hw⟩ := hw
  subst e1
  cases r
  obtain ⟨its, rv, ht, hz⟩ := I.tuple hq
  refine assign_Tuple_tuple (I.ok.hd hc) ht (by simp [hn, ← hl, rv.length]) hst fun h' hx => ?_
  have I1 : Inv X pins σ H { s with heap := h' } := I.kept (t' := s.toks) fun b o e => hx b o (Nat.ne_of_lt (Heap.lt_size e)) e
  exact h pins _ σ H xs _ Q I1 (by simpa using rv) hw
def tAsg (te : TE) (g : TG) : TS := fun D σ H => te σ H fun x H1 => g x σ H1 D.nx
theorem ps_set {i : Nat} {x : Str} {e : Expr} {te : TE} {pos' : Pos} (hN : X.N.Nodup) (hi : X.N[i]? = some x) (hx : Loc X.env.scope x) (he : PE X e te) (hs : swapsWith e (some (.Name x pos')) pos.line X.env = pure false := by rfl) (hf : X.fn x = true ∨ X.env.scope.names.lookup x = some .local := by first | exact .inl rfl | exact .inr rfl | assumption) :
    PS X (.Assign [.Name x pos'] e pos) (tAsg te (gName i)) := by
  intro pins s σ H D I h
  refine wpAny_Assign_Name (thn (he pins s σ H _ I h) fun v s1 ⟨y, H1, I1, r1, q1⟩ => ?_) hs
  exact store_ok I1 hN hi hx r1 (fun s2 I2 => ⟨_, H1, I2, q1⟩) hf
end
section
variable {X : Cx} {pos : Pos}
def tWhile (c : TT) (tb : TS) : TS := fun D σ H => ∃ W : Nat → St → Hp → Prop, (∃ m, W m σ H) ∧ ∀ m σ H, W m σ H →
  c σ H fun b H1 => if b = true then ∃ N : St → Hp → Prop, (∀ σ' H', N σ' H' → ∃ m', m' < m ∧ W m' σ' H') ∧ tb { D with nx := N, ct := N, bk := D.nx } σ H1 else D.nx σ H1
theorem ps_while {c : Expr} {body : List Stmt} {tc : TT} {tb : TS} (hp : PassesOwn (model X.prog X.w) X.A X.env X.xe) (hc : PT X c tc) (hb : PSs X body tb) : PS X (.While c body [] pos) (tWhile tc tb) := by
  intro pins s σ H D I h
  obtain ⟨W, ⟨m0, w0⟩, turn⟩ := h
  refine wpAny_While (codeAny_whileLoop (fun n s' => ∃ σ' H', Inv X pins σ' H' s' ∧ W n σ' H') ?_ m0 ⟨σ, H, I, w0⟩)
  rintro n s1 ⟨σ1, H1, I1, w1⟩
  refine wpAny_passesOwn hp (thn (hc pins s1 σ1 H1 _ I1 (turn n σ1 H1 w1)) fun b s2 ⟨H2, I2, q2⟩ => ?_)
  cases b with
  | true =>
    obtain ⟨N, hN, q2⟩ := q2
    rw [if_pos rfl]
    refine wpAny_passesOwn hp (thn (hb pins s2 σ1 H2 _ I2 q2) fun f s3 q3 => ?_)
    cases f with
    | next =>
      obtain ⟨σ3, H3, I3, n3⟩ := q3
      obtain ⟨m', hm, w3⟩ := hN σ3 H3 n3
      exact ⟨m', hm, σ3, H3, I3, w3⟩
    | cont =>
      obtain ⟨σ3, H3, I3, n3⟩ := q3
      obtain ⟨m', hm, w3⟩ := hN σ3 H3 n3
      exact ⟨m', hm, σ3, H3, I3, w3⟩
    | brk => exact q3
    | ret v => exact q3
  | false =>
    rw [if_neg Bool.false_ne_true]
    exact wpAny_execs_nil ⟨σ1, H2, I2, q2⟩
end
structure It where
  go : Nat → Hp → Prop
  yld : Nat → Hp → V → Hp → Prop
  stop : Nat → Hp → Prop
def FpOk (X : Cx) (pins : List (Addr × Obj)) (H : Hp) (b : Addr) : Prop :=
  H b = none ∧ b ≠ X.env.locals ∧ b ∉ X.fs ∧ (b ∈ X.ex ∨ X.s_0.heap.objs.size ≤ b) ∧ (∀ x c, X.env.cells.lookup x = some c → c ≠ b) ∧ ∀ p ∈ X.pn ++ pins, p.1 ≠ b
theorem Inv.fpOk {X : Cx} {pins : List (Addr × Obj)} {σ : St} {H H' : Hp} {s : Shared} {b : Addr} (I : Inv X pins σ H s) (hb : s.heap.objs.size ≤ b) (hn : H' b = none) : FpOk X pins H' b := by
  refine ⟨hn, Nat.ne_of_gt (Nat.lt_of_lt_of_le I.lt hb), I.nofs hb, .inr (Nat.le_trans I.sz hb), fun x c e z => ?_, fun p hp z => ?_⟩
  · obtain ⟨v, q⟩ := I.cell x c e
    exact absurd (Nat.lt_of_lt_of_le q.lt (by rw [z]; exact hb)) (Nat.lt_irrefl _)
  · exact absurd (Nat.lt_of_lt_of_le (Heap.lt_size (I.pin p hp).1) (by rw [z]; exact hb)) (Nat.lt_irrefl _)
structure Turn (P : Program) (w : World) (K : PySem.W.Frag) (tg : Expr) (J : It) (fp : List Addr) (it : Addr) (tn : Nat → Heap → Prop) : Prop where
  mem : it ∈ fp
  obj : ∀ i h, tn i h → ∀ b ∈ fp, ∃ o, h.get? b = some o ∧ ∀ v, o.data ≠ .cell v
  keep : ∀ i h h', tn i h → (∀ b ∈ fp, ∀ o, h.get? b = some o → h'.get? b = some o) → tn i h'
  item : ∀ (X : Cx), X.prog = P → X.w = w → X.K = K → X.calm = true → ∀ (i : Nat) (pins : List (Addr × Obj)) (s : Shared) (σ : St) (H : Hp) (E : Value → Shared → Prop), Inv X pins σ H s → (∀ b ∈ fp, FpOk X pins H b) → tn i s.heap → J.go i H →
    wpAny (model P w) X.A (pyNext (.ref it)) (fun r s1 => ∃ u, r = some u ∧
      wpAny (model P w) X.A (letOwnedTupleGo tg (.ref it) u) (fun _ s2 => ∃ x H', Inv X pins σ H' s2 ∧ RelV x u ∧ J.yld i H x H' ∧ tn (i + 1) s2.heap ∧ ∀ b ∈ fp, H' b = none) E s1) E s
  done : ∀ (X : Cx), X.prog = P → X.w = w → X.K = K → X.calm = true → ∀ (i : Nat) (pins : List (Addr × Obj)) (s : Shared) (σ : St) (H : Hp) (E : Value → Shared → Prop), Inv X pins σ H s → (∀ b ∈ fp, FpOk X pins H b) → tn i s.heap → J.stop i H →
    wpAny (model P w) X.A (pyNext (.ref it)) (fun r s1 => r = none ∧ Inv X pins σ H s1) E s
  self : ∀ (A : Around) (i : Nat) (s : Shared) (Q : Value → Shared → Prop) (E : Value → Shared → Prop), tn i s.heap → Q (.ref it) s → wpAny (model P w) A (pyIter (.ref it)) Q E s
abbrev TI := St → Hp → (It → Hp → Prop) → Prop
def PIE (X : Cx) (pins : List (Addr × Obj)) (σ : St) (tg : Expr) (R : It → Hp → Prop) (itv : Value) (s2 : Shared) : Prop :=
  ∃ (it : Addr) (fp : List Addr) (tn : Nat → Heap → Prop) (J : It) (H' : Hp), itv = .ref it ∧ Inv X pins σ H' s2 ∧ Turn X.prog X.w X.K tg J fp it tn ∧ tn 0 s2.heap ∧ (∀ b ∈ fp, FpOk X pins H' b) ∧ R J H'
def PI (X : Cx) (tg iter : Expr) (wi : TI) : Prop :=
  ∀ (pins : List (Addr × Obj)) (s : Shared) (σ : St) (H : Hp) (R : It → Hp → Prop), Inv X pins σ H s → wi σ H R →
    wpAny (model X.prog X.w) X.A (eval iter X.env) (fun v s1 => wpAny (model X.prog X.w) X.A (pyIter v) (PIE X pins σ tg R) X.xe s1) X.xe s
theorem go_of {M : Model} {A : Around} {E : Value → Shared → Prop} {s : Shared} {tg : Expr} {it : Addr} {u : Value} {o : Obj} {n : String} {vs : Array Value} {Q : Unit → Shared → Prop} (ho : s.heap.get? it = some o) (hc : o.cls = .type n) (hd : o.data = .fields vs)
    (hn : ["enumerate", "zip", "dict_itemiterator", "dict_reverseitemiterator", "odict_iterator", "itertools.zip_longest", "itertools.pairwise"].contains n = false) (hQ : Q () s) : wpAny M A (letOwnedTupleGo tg (.ref it) u) Q E s := by
  unfold letOwnedTupleGo
  cases tg <;> first
    | exact wpAny_pure hQ
    | (cases u <;> first
        | exact wpAny_pure hQ
        | (refine wpAny_bind (wpAny_load ho ?_)
           rw [hc, hd]
           show wpAny M A (if (["enumerate", "zip", "dict_itemiterator", "dict_reverseitemiterator", "odict_iterator", "itertools.zip_longest", "itertools.pairwise"].contains n && vs[0]? == some (rawInt _)) = true then _ else _) Q E s
           rw [if_neg (by intro h; rw [hn, Bool.false_and] at h; cases h)]
           exact wpAny_pure hQ))
def Itl (K : PySem.W.Frag) (a : Addr) : It :=
  ⟨fun i H => ∃ xs x, SqL K H a xs ∧ xs[i]? = some x, fun i H x H' => H' = H ∧ ∀ xs, SqL K H a xs → xs[i]? = some x, fun i H => ∃ xs, SqL K H a xs ∧ xs.length ≤ i⟩
def Itr (lo : Int) (n : Nat) : It := ⟨fun i _ => i < n, fun i H x H' => H' = H ∧ x = .int (lo + i), fun i _ => n ≤ i⟩
theorem turn_list {P : Program} {w : World} {K : PySem.W.Frag} {tg : Expr} (a it : Addr) : Turn P w K tg (Itl K a) [it] it (fun i h => h.IsListIter it a i) where
  mem := by simp
  obj := fun i h st b hb => by
    have e : b = it := by simpa using hb
    subst e
    obtain ⟨o, e, c, d⟩ := st
    exact ⟨o, e, fun v z => by rw [d] at z; cases z⟩
  keep := fun i h h' st k => st.at fun o e => k it (by simp) o e
  item := by
    intro X hP hw hK hc i pins s σ H E I hf st hg
    subst hP hw hK
    obtain ⟨xs, x, hq, hx⟩ := hg
    obtain ⟨its, rv, p, hz⟩ := I.list hq
    obtain ⟨u, hu, ru⟩ := rv.get hx
    obtain ⟨f0, f1, f2, f3, f4, f5⟩ := hf it (by simp)
    refine wpAny_pyNext_list_item st p.isList (x := u) (by simpa using hu) fun h' st' sb => ?_
    have I1 : Inv X pins σ H { s with heap := h' } := I.turned (t' := s.toks) (fun b o hb e => (sb.2 b hb).trans e) f0 f1 f3 f4 f5
    obtain ⟨o, e, c, d⟩ := id st'
    exact ⟨u, rfl, go_of (s := { s with heap := h' }) e c d (by decide) ⟨x, H, I1, ru, ⟨rfl, fun ys hy => by rw [I.list_inj hy hq]; exact hx⟩, st', fun b hb => (hf b hb).1⟩⟩
  done := by
    intro X hP hw hK hc i pins s σ H E I hf st hg
    subst hP hw hK
    obtain ⟨xs, hq, hx⟩ := hg
    obtain ⟨its, rv, p, hz⟩ := I.list hq
    obtain ⟨f0, f1, f2, f3, f4, f5⟩ := hf it (by simp)
    have hl := rv.length
    exact wpAny_pyNext_list_end (I.ok.hd hc) st p.isList (by simp; omega) fun h' eb => ⟨rfl, I.turned (t' := s.toks) (fun b o hb e => eb b o hb e) f0 f1 f3 f4 f5⟩
  self := fun _ _ _ _ _ st h => wpAny_pyIter_listiter st h
theorem turn_range {P : Program} {w : World} {K : PySem.W.Frag} {tg : Expr} (it : Addr) (lo : Int) (n : Nat) : Turn P w K tg (Itr lo n) [it] it (fun i h => IsRangeIter h it (lo + (i : Nat) * 1) ((n : Int) - (i : Nat)) 1) where
  mem := by simp
  obj := fun i h st b hb => by
    have e : b = it := by simpa using hb
    subst e
    exact ⟨_, st, fun v z => by
      have z' : Data.fields _ = Data.cell v := z
      cases z'⟩
  keep := fun i h h' st k => k it (by simp) _ st
  item := by
    intro X hP hw hK hc i pins s σ H E I hf st hg
    subst hP hw hK
    obtain ⟨f0, f1, f2, f3, f4, f5⟩ := hf it (by simp)
    have W := Walks.range (prog := X.prog) (w := X.w) (I.ok.hd hc) it lo 1 n
    refine W.item i s _ _ hg st fun v h' tk hv st' kk => ?_
    obtain ⟨t, rfl⟩ := hv
    have I1 : Inv X pins σ H { s with heap := h', toks := tk } := I.turned (fun b o hb e => kk b o (by simpa using hb) e) f0 f1 f3 f4 f5
    refine ⟨_, rfl, go_of (s := { s with heap := h', toks := tk }) (n := "range_iterator") st' rfl rfl (by decide) ⟨.int (lo + i), H, I1, ⟨t, ?_⟩, ⟨rfl, rfl⟩, st', fun b hb => (hf b hb).1⟩⟩
    rw [Int.mul_one]
  done := by
    intro X hP hw hK hc i pins s σ H E I hf st hg
    subst hP hw hK
    obtain ⟨f0, f1, f2, f3, f4, f5⟩ := hf it (by simp)
    exact wpAny_pyNext_range_end (I.ok.hd hc) st (by have : n ≤ i := hg; omega) fun h' eb => ⟨rfl, I.turned (t' := s.toks) (fun b o hb e => eb b o hb e) f0 f1 f3 f4 f5⟩
  self := fun _ _ _ _ _ st h => wpAny_pyIter_rangeiter st h
end L2
namespace L2
open PySem PySem.Spec PyProof.Rows
section
variable {X : Cx} {tg : Expr}
def iList (K : PySem.W.Frag) (tl : TE) : TI := fun σ H R => tl σ H fun x H1 => ∃ a, x = .ref a ∧ (∃ xs, SqL K H1 a xs) ∧ R (Itl K a) H1
theorem pi_list {l : Expr} {tl : TE} (hl : PE X l tl) : PI X tg l (iList X.K tl) := by
  intro pins s σ H R I h
  refine thn (hl pins s σ H _ I h) fun v s1 ⟨x, H1, I1, r1, q1⟩ => ?_
  obtain ⟨a, e, ⟨xs, hq⟩, q⟩ := q1
  subst e
  cases r1
  obtain ⟨its, rv, p, hz⟩ := I1.list hq
  refine wpAny_pyIter_list p.isList ?_
  refine ⟨s1.heap.objs.size, [s1.heap.objs.size], _, _, H1, rfl, I1.kept (t' := s1.toks) fun b o e => Heap.get?_push_of_some _ e, turn_list a _, ⟨_, Heap.get?_push_size _ rfl, rfl, rfl⟩, fun b hb => ?_, q⟩
  have e : b = s1.heap.objs.size := by simpa using hb
  subst e
  exact I1.fpOk (Nat.le_refl _) (I1.hok.fresh (Nat.le_refl _))
theorem range_it {pins : List (Addr × Obj)} {σ : St} {H : Hp} {s : Shared} {R : It → Hp → Prop} {E : Value → Shared → Prop} {lo hi : Int} {t u v : Tok} {tk : Nat} (I : Inv X pins σ H s) (h1 : -(2 ^ 62) ≤ lo) (h2 : lo < 2 ^ 62) (h3 : -(2 ^ 62) ≤ hi) (h4 : hi < 2 ^ 62)
    (q : R (Itr lo (hi - lo).toNat) H) : wpAny (model X.prog X.w) X.A (pyIter (.ref s.heap.objs.size)) (PIE X pins σ tg R) E { s with heap := s.heap.push { cls := .type "range", data := .fields #[.int lo t, .int hi u, .int 1 v] }, toks := tk } := by
  refine wpAny_pyIter_range (IsRange.new ..) (small_one h1 h2 h3 h4) ?_
  have I1 : Inv X pins σ H { s with heap := s.heap.push { cls := .type "range", data := .fields #[.int lo t, .int hi u, .int 1 v] }, toks := tk } := I.kept fun b o e => Heap.get?_push_of_some _ e
  refine ⟨(s.heap.push { cls := .type "range", data := .fields #[.int lo t, .int hi u, .int 1 v] }).objs.size, [(s.heap.push { cls := .type "range", data := .fields #[.int lo t, .int hi u, .int 1 v] }).objs.size], _, _, H, rfl,
    I1.kept (t' := tk) fun b o e => Heap.get?_push_of_some _ e, turn_range _ lo (hi - lo).toNat, ?_, fun b hb => ?_, q⟩
  · have e1 : lo + ((0 : Nat) : Int) * 1 = lo := by simp
    have e2 : (((hi - lo).toNat : Nat) : Int) - ((0 : Nat) : Int) = Builtin.Range.rangeSize lo hi 1 := by rw [rangeSize_one]; split <;> omega
    show IsRangeIter _ _ (lo + ((0 : Nat) : Int) * 1) ((((hi - lo).toNat : Nat) : Int) - ((0 : Nat) : Int)) 1
    rw [e1, e2]
    exact Heap.get?_push_size _ rfl
  · have e : b = (s.heap.push { cls := .type "range", data := .fields #[.int lo t, .int hi u, .int 1 v] }).objs.size := by simpa using hb
    subst e
    exact I1.fpOk (Nat.le_refl _) (I1.hok.fresh (Nat.le_refl _))
def iRng1 (ta : TA) : TI := fun σ H R => ta σ H fun vs H1 => ∃ j : Int, vs = [.int j] ∧ -(2 ^ 62) ≤ j ∧ j < 2 ^ 62 ∧ R (Itr 0 j.toNat) H1
theorem pi_range1 {a : Expr} {ta : TA} {p pos : Pos} (hg : Gl X "range") (hm : X.mg "range" = none) (ha : PA X [a] ta) (hs : starEach [a] X.env = [(false, eval a X.env)] := by rfl) : PI X tg (.Call (.Name "range" p) [a] [] pos) (iRng1 ta) := by
  intro pins s σ H R I h
  refine Call_ (ld_blt I hg hm boot_range (PyProof.Rows.callWith_type1 (thn (ha pos pins s σ H _ I h) fun us s1 ⟨vs, H1, I1, r1, q1⟩ => ?_) hs rfl))
  obtain ⟨j, e, q1, q2, q⟩ := q1
  subst e
  cases r1 with
  | cons r rr =>
    cases rr
    obtain ⟨t, rfl⟩ := r
    exact call_range_1 (range_it I1 (by omega) (by omega) q1 q2 (by simpa using q))
def tFor (wi : TI) (g : TG) (tb : TS) : TS := fun D σ H => wi σ H fun J H1 => ∃ W : Nat → Nat → St → Hp → Prop, (∃ m, W 0 m σ H1) ∧ ∀ i m σ H, W i m σ H →
  (J.stop i H ∧ D.nx σ H) ∨ (J.go i H ∧ ∃ N : St → Hp → Prop, (∀ σ' H', N σ' H' → ∃ m', m' < m ∧ W (i + 1) m' σ' H') ∧ ∀ x H', J.yld i H x H' → g x σ H' fun σ2 H2 => tb { D with nx := N, ct := N, bk := D.nx } σ2 H2)
def pinsAt (fp : List Addr) (h : Heap) : List (Addr × Obj) := fp.filterMap fun b => (h.get? b).map fun o => (b, o)
theorem mem_pinsAt {fp : List Addr} {h : Heap} {b : Addr} {o : Obj} (hb : b ∈ fp) (e : h.get? b = some o) : (b, o) ∈ pinsAt fp h := List.mem_filterMap.mpr ⟨b, hb, by rw [e]; rfl⟩
theorem of_pinsAt {fp : List Addr} {h : Heap} {p : Addr × Obj} (hp : p ∈ pinsAt fp h) : p.1 ∈ fp ∧ h.get? p.1 = some p.2 := by
  obtain ⟨b, hb, e⟩ := List.mem_filterMap.mp hp
  cases q : h.get? b with
  | none => rw [q] at e; cases e
  | some o =>
    rw [q] at e
    have e' : (b, o) = p := Option.some.inj e
    subst e'
    exact ⟨hb, q⟩
theorem Inv.pinned {pins : List (Addr × Obj)} {σ : St} {H : Hp} {s : Shared} {fp : List Addr} (I : Inv X pins σ H s) (hf : ∀ b ∈ fp, FpOk X pins H b) (ho : ∀ b ∈ fp, ∃ o, s.heap.get? b = some o ∧ ∀ v, o.data ≠ .cell v) : Inv X (pins ++ pinsAt fp s.heap) σ H s :=
  I.pins_of fun p hp => (List.mem_append.mp hp).elim (fun z => I.pin p (List.mem_append_right _ z)) fun z => by
    obtain ⟨hb, e⟩ := of_pinsAt z
    obtain ⟨f0, f1, f2, _⟩ := hf p.1 hb
    obtain ⟨o, e', d⟩ := ho p.1 hb
    rw [e] at e'; cases e'
    exact ⟨e, f0, f1, f2, d⟩
theorem Inv.unpinned {pins pl : List (Addr × Obj)} {σ : St} {H : Hp} {s : Shared} (I : Inv X (pins ++ pl) σ H s) : Inv X pins σ H s := I.pins_of fun p hp => I.pin p (List.mem_append_right _ (List.mem_append_left _ hp))
theorem ps_for {iter : Expr} {body : List Stmt} {wi : TI} {g : TG} {tb : TS} {pos : Pos} (hp : PassesOwn (model X.prog X.w) X.A X.env X.xe) (hc : X.calm = true) (hi : PI X tg iter wi) (hg : PG X tg g) (hb : PSs X body tb)
    (hs : ∀ x, foldedSetIterable iter X.env x = pure x := by intro _; rfl) : PS X (.For tg iter body [] pos) (tFor wi g tb) := by
  intro pins s σ H D I h
  refine wpAny_For (thn (hi pins s σ H _ I h) fun v s1 h1 => thn h1 fun itv s2 h2 => ?_) hs
  obtain ⟨it, fp, tn, J, H2, e, I2, T, st2, f2, W, ⟨m0, w0⟩, turn⟩ := h2
  subst e
  -- what stays true of the iterator's objects through the loop
  have stat : ∀ {H' : Hp}, (∀ b ∈ fp, H' b = none) → ∀ b ∈ fp, FpOk X pins H' b := fun hn b hb => ⟨hn b hb, (f2 b hb).2⟩
  refine codeAny_forLoop_any (fun n s' => ∃ i σ' H', Inv X pins σ' H' s' ∧ tn i s'.heap ∧ (∀ b ∈ fp, H' b = none) ∧ W i n σ' H') ?_ m0 ⟨0, σ, H2, I2, st2, fun b hb => (f2 b hb).1, w0⟩
  rintro n s3 ⟨i, σ3, H3, I3, st3, fr3, w3⟩
  rcases turn i n σ3 H3 w3 with ⟨stop, qn⟩ | ⟨go, N, hN, step⟩
  · refine wpAny_passesOwn hp (thn (T.done X rfl rfl rfl hc i pins s3 σ3 H3 X.xe I3 (stat fr3) st3 stop) fun r s4 ⟨hr, I4⟩ => ?_)
    subst hr
    exact wpAny_execs_nil ⟨σ3, H3, I4, qn⟩
  · refine wpAny_passesOwn hp (thn (T.item X rfl rfl rfl hc i pins s3 σ3 H3 X.xe I3 (stat fr3) st3 go) fun r s4 ⟨u, hr, h4⟩ => ?_)
    subst hr
    refine wpAny_passesOwn hp (thn h4 fun _ s5 ⟨x, H5, I5, r5, y5, st5, fr5⟩ => ?_)
    have I5' := I5.pinned (stat fr5) (T.obj _ _ st5)
    refine wpAny_passesOwn hp (thn (hg _ s5 σ3 H5 x u _ I5' r5 (step x H5 y5)) fun _ s6 ⟨σ6, H6, I6, q6⟩ => ?_)
    refine wpAny_passesOwn hp (thn (hb _ s6 σ6 H6 _ I6 q6) fun f s7 q7 => ?_)
    have again : ∀ {σ7 : St} {H7 : Hp}, Inv X (pins ++ pinsAt fp s5.heap) σ7 H7 s7 → N σ7 H7 → ∃ m, m < n ∧ ∃ i σ' H', Inv X pins σ' H' s7 ∧ tn i s7.heap ∧ (∀ b ∈ fp, H' b = none) ∧ W i m σ' H' := fun {σ7 H7} I7 n7 => by
      obtain ⟨m', hm, w7⟩ := hN σ7 H7 n7
      refine ⟨m', hm, i + 1, σ7, H7, I7.unpinned, T.keep _ _ _ st5 fun b hb o e => (I7.pin (b, o) (List.mem_append_right _ (List.mem_append_right _ (mem_pinsAt hb e)))).1, fun b hb => ?_, w7⟩
      obtain ⟨o, e, d⟩ := T.obj _ _ st5 b hb
      exact (I7.pin (b, o) (List.mem_append_right _ (List.mem_append_right _ (mem_pinsAt hb e)))).2.1
    cases f with
    | next => obtain ⟨σ7, H7, I7, n7⟩ := q7; exact again I7 n7
    | cont => obtain ⟨σ7, H7, I7, n7⟩ := q7; exact again I7 n7
    | brk => obtain ⟨σ7, H7, I7, q7⟩ := q7; exact ⟨σ7, H7, I7.unpinned, q7⟩
    | ret v => obtain ⟨x7, σ7, H7, I7, r7, q7⟩ := q7; exact ⟨x7, σ7, H7, I7.unpinned, r7, q7⟩
end
theorem for_list {K : PySem.W.Frag} {a : Addr} {xs : List V} {g : TG} {tb : TS} {D : Ends} {σ : St} {H : Hp} (Pv : Nat → St → Hp → Prop) (h0 : Pv 0 σ H) (hl : ∀ i σ H, i ≤ xs.length → Pv i σ H → SqL K H a xs)
    (hs : ∀ i x σ H, xs[i]? = some x → Pv i σ H → g x σ H fun σ2 H2 => tb { D with nx := Pv (i + 1), ct := Pv (i + 1), bk := D.nx } σ2 H2) (hd : ∀ σ H, Pv xs.length σ H → D.nx σ H) :
    ∃ W : Nat → Nat → St → Hp → Prop, (∃ m, W 0 m σ H) ∧ ∀ i m σ H, W i m σ H →
      ((Itl K a).stop i H ∧ D.nx σ H) ∨ ((Itl K a).go i H ∧ ∃ N : St → Hp → Prop, (∀ σ' H', N σ' H' → ∃ m', m' < m ∧ W (i + 1) m' σ' H') ∧ ∀ x H', (Itl K a).yld i H x H' → g x σ H' fun σ2 H2 => tb { D with nx := N, ct := N, bk := D.nx } σ2 H2) := by
  refine ⟨fun i m σ H => m = xs.length - i ∧ i ≤ xs.length ∧ Pv i σ H, ⟨xs.length, by simp, Nat.zero_le _, h0⟩, ?_⟩
  rintro i m σ H ⟨rfl, hi, p⟩
  have q := hl i σ H hi p
  by_cases hlt : i < xs.length
  · refine .inr ⟨⟨xs, xs[i], q, by simp [hlt]⟩, Pv (i + 1), fun σ' H' p' => ⟨xs.length - (i + 1), by omega, rfl, hlt, p'⟩, fun x H' y => ?_⟩
    obtain ⟨e, y⟩ := y
    subst e
    exact hs i x σ _ (y xs q) p
  · have e : i = xs.length := by omega
    subst e
    exact .inl ⟨⟨xs, q, Nat.le_refl _⟩, hd σ H p⟩
end L2
namespace L2
open PySem PySem.Spec PyProof.Rows
abbrev R2 := V → V → Hp → VK → Prop
def OpR (X : Cx) (f : Value → Value → Sem Value) (r : R2) : Prop :=
  ∀ (pins : List (Addr × Obj)) (s : Shared) (σ : St) (H : Hp) (x y : V) (v u : Value) (Q : VK), Inv X pins σ H s → RelV x v → RelV y u → r x y H Q →
    wpAny (model X.prog X.w) X.A (f v u) (EP X pins σ Q) X.xe s
def UnR (X : Cx) (f : Value → Sem Value) (r : V → Hp → VK → Prop) : Prop :=
  ∀ (pins : List (Addr × Obj)) (s : Shared) (σ : St) (H : Hp) (x : V) (v : Value) (Q : VK), Inv X pins σ H s → RelV x v → r x H Q →
    wpAny (model X.prog X.w) X.A (f v) (EP X pins σ Q) X.xe s
def CallR (X : Cx) (f : Value) (r : List V → Hp → VK → Prop) : Prop :=
  ∀ (pins : List (Addr × Obj)) (s : Shared) (σ : St) (H : Hp) (xs : List V) (us : List Value) (Q : VK), Inv X pins σ H s → Vals xs us → r xs H Q →
    wpAny (model X.prog X.w) X.A (call f us) (EP X pins σ Q) X.xe s
def tOp (r : R2) (ta tb : TE) : TE := fun σ H Q => ta σ H fun x H1 => tb σ H1 fun y H2 => r x y H2 Q
def tUn (r : V → Hp → VK → Prop) (ta : TE) : TE := fun σ H Q => ta σ H fun x H1 => r x H1 Q
def rI (C : Int → Int → Prop) (g : Int → Int → V) : R2 := fun x y H Q => ∃ i j, x = .int i ∧ y = .int j ∧ C i j ∧ Q (g i j) H
def rI0 (g : Int → Int → V) : R2 := fun x y H Q => ∃ i j, x = .int i ∧ y = .int j ∧ Q (g i j) H
def rU (g : Int → V) : V → Hp → VK → Prop := fun x H Q => ∃ i, x = .int i ∧ Q (g i) H
section
variable {X : Cx} {a b c : Expr} {ta tb tc : TE} {pos : Pos}
theorem binT (ha : PE X a ta) (hb : PE X b tb) {pins : List (Addr × Obj)} {s : Shared} {σ : St} {H : Hp} {R : V → V → Hp → Prop} (I : Inv X pins σ H s)
    (h : ta σ H fun x H1 => tb σ H1 fun y H2 => R x y H2) {Q : Value → Shared → Prop} {f : Value → Value → Sem Value}
    (hf : ∀ v u s2 x y H2, Inv X pins σ H2 s2 → RelV x v → RelV y u → R x y H2 → wpAny (model X.prog X.w) X.A (f v u) Q X.xe s2) :
    wpAny (model X.prog X.w) X.A (eval a X.env) (fun v s₁ => wpAny (model X.prog X.w) X.A (eval b X.env) (fun u s₂ => wpAny (model X.prog X.w) X.A (f v u) Q X.xe s₂) X.xe s₁) X.xe s := by
  refine thn (ha pins s σ H _ I h) fun v s1 ⟨x, H1, I1, r1, q1⟩ => ?_
  refine thn (hb pins s1 σ H1 _ I1 q1) fun u s2 ⟨y, H2, I2, r2, q2⟩ => ?_
  exact hf v u s2 x y H2 I2 r1 r2 q2
theorem pe_op {op : Operator} {r : R2} (ho : OpR X (binaryOp op) r) (ha : PE X a ta) (hb : PE X b tb) : PE X (.BinOp a op b pos) (tOp r ta tb) := by
  intro pins s σ H Q I h
  exact wpAny_BinOp (binT ha hb I h fun v u s2 x y H2 I2 rx ry q => ho pins s2 σ H2 x y v u Q I2 rx ry q)
theorem pe_un {op : UnaryOp} {r : V → Hp → VK → Prop} (ho : UnR X (unaryOp op) r) (ha : PE X a ta) : PE X (.UnaryOp op a pos) (tUn r ta) := by
  intro pins s σ H Q I h
  exact UnaryOp_ (thn (ha pins s σ H _ I h) fun v s1 ⟨x, H1, I1, r1, q1⟩ => ho pins s1 σ H1 x v Q I1 r1 q1)
theorem opI {f : Value → Value → Sem Value} {C : Int → Int → Prop} {g : Int → Int → Int}
    (rule : ∀ (i j : Int) (t u : Tok) (s : Shared) (Q : Value → Shared → Prop) (E : Value → Shared → Prop), C i j → Q (.int (g i j) s.toks) { s with toks := s.toks + 1 } → wpAny (model X.prog X.w) X.A (f (.int i t) (.int j u)) Q E s) :
    OpR X f (rI C fun i j => .int (g i j)) := by
  intro pins s σ H x y v u Q I rx ry h
  obtain ⟨i, j, rfl, rfl, hc, q⟩ := h
  obtain ⟨t, rfl⟩ := rx
  obtain ⟨t', rfl⟩ := ry
  exact rule i j t t' s _ _ hc ⟨.int (g i j), H, I.tok _, ⟨_, rfl⟩, q⟩
theorem opI0 {f : Value → Value → Sem Value} {g : Int → Int → Int}
    (rule : ∀ (i j : Int) (t u : Tok) (s : Shared) (Q : Value → Shared → Prop) (E : Value → Shared → Prop), Q (.int (g i j) s.toks) { s with toks := s.toks + 1 } → wpAny (model X.prog X.w) X.A (f (.int i t) (.int j u)) Q E s) :
    OpR X f (rI0 fun i j => .int (g i j)) := by
  intro pins s σ H x y v u Q I rx ry h
  obtain ⟨i, j, rfl, rfl, q⟩ := h
  obtain ⟨t, rfl⟩ := rx
  obtain ⟨t', rfl⟩ := ry
  exact rule i j t t' s _ _ ⟨.int (g i j), H, I.tok _, ⟨_, rfl⟩, q⟩
theorem opB0 {f : Value → Value → Sem Value} {g : Int → Int → Bool}
    (rule : ∀ (i j : Int) (t u : Tok) (s : Shared) (Q : Value → Shared → Prop) (E : Value → Shared → Prop), Q (.bool (g i j)) s → wpAny (model X.prog X.w) X.A (f (.int i t) (.int j u)) Q E s) :
    OpR X f (rI0 fun i j => .bl (g i j)) := by
  intro pins s σ H x y v u Q I rx ry h
  obtain ⟨i, j, rfl, rfl, q⟩ := h
  obtain ⟨t, rfl⟩ := rx
  obtain ⟨t', rfl⟩ := ry
  exact rule i j t t' s _ _ ⟨.bl (g i j), H, I, rfl, q⟩
def CMul (i j : Int) : Prop := (-(2 ^ 64) < i ∧ i < 2 ^ 64) ∨ (-(2 ^ 64) < j ∧ j < 2 ^ 64)
theorem CMul.ok {i j : Int} (h : CMul i j) : IntMulOk i j := by
  rcases h with ⟨h1, h2⟩ | ⟨h1, h2⟩
  · exact .of_left (intBits_le_64 h1 h2)
  · exact .of_right (intBits_le_64 h1 h2)
theorem op_add : OpR X (binaryOp .Add) (rI0 fun i j => .int (i + j)) := opI0 fun _ _ _ _ _ _ _ q => add_int q
theorem op_sub : OpR X (binaryOp .Sub) (rI0 fun i j => .int (i - j)) := opI0 fun _ _ _ _ _ _ _ q => sub_int q
theorem op_mul : OpR X (binaryOp .Mult) (rI CMul fun i j => .int (i * j)) := opI fun _ _ _ _ _ _ _ hc q => mul_int q hc.ok
theorem op_modN : OpR X (binaryOp .Mod) (rI (fun _ j => j ≠ 0) fun i j => .int (i.fmod j)) := opI fun _ _ _ _ _ _ _ hc q => mod_int' hc q
theorem unI {f : Value → Sem Value} {g : Int → Int}
    (rule : ∀ (i : Int) (t : Tok) (s : Shared) (Q : Value → Shared → Prop) (E : Value → Shared → Prop), Q (.int (g i) s.toks) { s with toks := s.toks + 1 } → wpAny (model X.prog X.w) X.A (f (.int i t)) Q E s) :
    UnR X f (rU fun i => .int (g i)) := by
  intro pins s σ H x v Q I rx h
  obtain ⟨i, rfl, q⟩ := h
  obtain ⟨t, rfl⟩ := rx
  exact rule i t s _ _ ⟨.int (g i), H, I.tok _, ⟨_, rfl⟩, q⟩
theorem un_neg : UnR X (unaryOp .USub) (rU fun i => .int (-i)) := unI fun _ _ _ _ _ q => neg_int q
end
def isI : V → Bool
  | .int _ => true
  | _ => false
def scal (x y : V) : Bool := isI x && isI y
def rEq : R2 := fun x y H Q => scal x y = true ∧ Q (.bl (decide (x = y))) H
def rNe : R2 := fun x y H Q => scal x y = true ∧ Q (.bl (!decide (x = y))) H
theorem dec_int {i j : Int} : decide (V.int i = V.int j) = (i == j) := by
  rw [Bool.eq_iff_iff]
  simp
section
variable {X : Cx} {a b c : Expr} {ta tb tc : TE} {pos : Pos}
theorem fin_bl {pins : List (Addr × Obj)} {σ : St} {H : Hp} {s : Shared} {Q : VK} {k k' : Bool} (I : Inv X pins σ H s) (q : Q (.bl k) H) (e : k = k') : EP X pins σ Q (.bool k') s := by
  subst e
  exact ⟨.bl k, H, I, rfl, q⟩
theorem op_eq : OpR X (compareOp .Eq) rEq := by
  intro pins s σ H x y v u Q I rx ry h
  obtain ⟨hs, q⟩ := h
  cases x with
  | int i =>
    obtain ⟨t, rfl⟩ := rx
    cases y with
    | int j => obtain ⟨t', rfl⟩ := ry; exact eq_int (fin_bl I q dec_int)
    | _ => exact absurd (show false = true from hs) Bool.false_ne_true
  | _ => exact absurd (show false = true from hs) Bool.false_ne_true
theorem op_ne : OpR X (compareOp .NotEq) rNe := by
  intro pins s σ H x y v u Q I rx ry h
  obtain ⟨hs, q⟩ := h
  cases x with
  | int i =>
    obtain ⟨t, rfl⟩ := rx
    cases y with
    | int j => obtain ⟨t', rfl⟩ := ry; exact ne_int (fin_bl I q (congrArg not dec_int))
    | _ => exact absurd (show false = true from hs) Bool.false_ne_true
  | _ => exact absurd (show false = true from hs) Bool.false_ne_true
theorem op_lt : OpR X (compareOp .Lt) (rI0 fun i j => .bl (decide (i < j))) := opB0 fun _ _ _ _ _ _ _ q => lt_int q
theorem op_le : OpR X (compareOp .LtE) (rI0 fun i j => .bl (decide (i ≤ j))) := opB0 fun _ _ _ _ _ _ _ q => le_int q
theorem op_gt : OpR X (compareOp .Gt) (rI0 fun i j => .bl (decide (j < i))) := opB0 fun _ _ _ _ _ _ _ q => gt_int q
theorem op_isN : OpR X (compareOp .Is) (fun x y H Q => y = .non ∧ Q (.bl (decide (x = .non))) H) := by
  intro pins s σ H x y v u Q I rx ry h
  obtain ⟨rfl, q⟩ := h
  cases ry
  refine is_none_gen (fin_bl I q ?_)
  cases x <;> first
    | (cases rx; rfl)
    | (obtain ⟨t, rfl⟩ := rx; rfl)
theorem nomark (b : Expr) {op : CmpOp} (h : op ≠ .In := by decide) (h2 : op ≠ .NotIn := by decide) : behindInMarks op b = false := by
  have e1 : (op == CmpOp.In) = false := by cases op <;> first | rfl | exact absurd rfl h
  have e2 : (op == CmpOp.NotIn) = false := by cases op <;> first | rfl | exact absurd rfl h2
  cases b <;> simp [behindInMarks, e1, e2]
theorem pe_cmpR {op : CmpOp} {r : R2} (ho : OpR X (compareOp op) r) (ha : PE X a ta) (hb : PE X b tb) (hm : behindInMarks op b = false) : PE X (.Compare a [op] [b] pos) (tOp r ta tb) := by
  intro pins s σ H Q I h
  exact wpAny_Compare1 (binT ha hb I h fun v u s2 x y H2 I2 rx ry q => ho pins s2 σ H2 x y v u Q I2 rx ry q) hm
def tTest (t : TE) : TT := fun σ H Q => t σ H fun x H' => ∃ k, x = .bl k ∧ Q k H'
theorem pt_cmpR {op : CmpOp} {r : R2} (ho : OpR X (compareOp op) r) (ha : PE X a ta) (hb : PE X b tb) (hm : behindInMarks op b = false) : PT X (.Compare a [op] [b] pos) (tTest (tOp r ta tb)) := by
  intro pins s σ H Q I h
  refine wpAny_isTrue_Compare1 (thn (ha pins s σ H _ I h) fun v s1 ⟨x, H1, I1, r1, q1⟩ => thn (hb pins s1 σ H1 _ I1 q1) fun u s2 ⟨y, H2, I2, r2, q2⟩ =>
    thn (ho pins s2 σ H2 x y v u _ I2 r1 r2 q2) fun c s3 ⟨z, H3, I3, r3, k, e, q3⟩ => ?_) hm
  subst e
  cases r3
  exact wpAny_truthy_bool ⟨H3, I3, q3⟩
theorem line63 : (sizeLine : Nat) < 2 ^ 63 := by rw [sizeLine_eq]; decide
theorem vals1 {x : V} {us : List Value} (r : Vals [x] us) : ∃ u, us = [u] ∧ RelV x u := by
  cases r with
  | cons r1 r2 => cases r2; exact ⟨_, rfl, r1⟩
theorem call_abs : CallR X (.builtin "abs") (fun xs H Q => ∃ i, xs = [.int i] ∧ Q (.int (if i < 0 then -i else i)) H) := by
  intro pins s σ H xs us Q I r h
  obtain ⟨i, rfl, q⟩ := h
  obtain ⟨u, rfl, t, rfl⟩ := vals1 r
  exact call_abs_int fun u tk => ⟨.int (if i < 0 then -i else i), H, I.tok _, ⟨_, rfl⟩, q⟩
end
end L2
namespace L2
open PySem PySem.Spec PyProof.Rows
structure ObjM (h : Heap) (x dx C : Addr) (mA : Str → Option Value) : Prop where
  obj : h.get? x = some (PySem.W.instObj C dx)
  ns : h.Ns1 dx mA
  ne : dx ≠ x
theorem lookIn_ns {h : Heap} {dx : Addr} {mA : Str → Option Value} (n : h.Ns1 dx mA) : ∃ od, h.get? dx = some od ∧ ∀ name, PySem.W.lookIn name od = some (mA name) := by
  obtain ⟨o, es, ep, ho, hd, hk, _, hm⟩ := n
  refine ⟨o, ho, fun name => ?_⟩
  have e := hm name
  unfold nsFind findBy at e
  rw [← Array.find?_toList] at e
  unfold PySem.W.lookIn
  rw [hd]
  dsimp only
  split
  · rename_i y q
    rw [q] at e
    exact congrArg some e
  · rename_i q
    rw [q] at e
    have a : es.toList.any (·.refKey) = false := by
      rw [List.any_eq_false]
      intro y hy
      obtain ⟨z, t, hkey⟩ := hk y (Array.mem_toList_iff.mp hy)
      simp [DictEntry.refKey, hkey]
    have a' : ¬ es.toList.any (·.refKey) = true := by rw [a]; exact Bool.false_ne_true
    rw [if_neg a']
    exact congrArg some e
theorem ObjM.look {h : Heap} {x dx C : Addr} {mA : Str → Option Value} (I : ObjM h x dx C mA) : ∃ od, PySem.W.InstAt h x (PySem.W.instObj C dx) C (some od) ∧ ∀ name, PySem.W.lookIn name od = some (mA name) :=
  let ⟨od, ho, hl⟩ := lookIn_ns I.ns
  ⟨od, ⟨I.obj, rfl, rfl, ho⟩, hl⟩
section
variable {prog : Program} {w : World} {A : Around} {E : Value → Shared → Prop} {s : Shared} {K : PySem.W.Frag} {x dx C f : Addr} {mA : Str → Option Value} {name : Str} {v : Value}
theorem get_map {expr : Bool} {Q : Value → Shared → Prop} (X : K.In s.heap) (I : ObjM s.heap x dx C mA) (hg : PySem.W.plainGet K C name = true) (hh : PySem.W.hasDictIn K C = true)
    (ha : PySem.W.findIn K (.ref C) name = some none) (hv : mA name = some v) (hv' : PySem.W.handedIn v = true) (h : Q v { s with toks := s.toks + 1 }) :
    wpAny (model prog w) A (getAttr (.ref x) name expr) Q E s := by
  obtain ⟨od, J, hl⟩ := I.look
  exact PySem.W.get_value X J (PySem.W.plainGet_of hg).1 (PySem.W.findObj_own hh ha rfl (by rw [hl, hv])) hv' h
theorem get_meth {pl : Sem Bool} {Q : Value × List Value → Shared → Prop} (X : K.In s.heap) (I : ObjM s.heap x dx C mA) (hg : PySem.W.plainGet K C name = true)
    (hf : PySem.W.findIn K (.ref C) name = some (some (.ref f))) (ht : PySem.W.isFn K (.ref f) = true) (hv : mA name = none) (h : Q (.ref f, [.ref x]) s) :
    wpAny (model prog w) A (getMethod (.ref x) name pl) Q E s := by
  obtain ⟨od, J, hl⟩ := I.look
  exact PySem.W.method_fn X J (PySem.W.plainGet_of hg).1 (PySem.W.plainGet_of hg).2 hf (beq_iff_eq.mp ht) (by show (PySem.W.lookIn name od).map (·.isSome) = some false; rw [hl, hv]; rfl) h
theorem set_map {ns : List Str} {Q : Unit → Shared → Prop} (X : K.In s.heap) (I : ObjM s.heap x dx C mA)
    (hs : PySem.W.findIn K (.ref C) "__setattr__" = some (some (.builtin "object.__setattr__"))) (hp : PySem.W.plainOver K C = true) (ht : PySem.W.takerIn K C name = some none) (hh : PySem.W.hasDictIn K C = true)
    (hw : PySem.Within mA ns) (hsz : ns.length ≤ sizeLine)
    (h : ∀ h', ObjM h' x dx C (fun y => if y = name then some v else mA y) → Heap.SameBut dx s.heap h' → Q () { s with heap := h', toks := s.toks + 2 }) :
    wpAny (model prog w) A (setAttr (.ref x) name v) Q E s := by
  obtain ⟨od, J, hl⟩ := I.look
  refine PySem.W.set_plain X J hs (PySem.W.osa_open (s := { s with toks := s.toks + 1 }) (r := none) X J hp ht fun b => ?_)
  obtain ⟨cd, hc, hd'⟩ := PySem.W.any_some hh
  have hx : s.heap.get? x = some ⟨.ref C, some dx, .plain, #[]⟩ := I.obj
  refine wpAny_bind (wpAny_pure (wpAny_bind (wpAny_bind (wpAny_loadPart hx (wpAny_bind (PySem.W.Looks.here (s := { s with toks := s.toks + 1 }) (PySem.W.looks_clsIn X hc) ?_))))))
  rw [hd']
  refine wpAny_pure (a := some dx) (wpAny_bind (wpAny_pure (wpAny_bind ?_)))
  refine wpAny_nsSet1 (s := { s with toks := s.toks + 1 }) I.ns fun h' hn2 hs2 => ?_
  obtain ⟨oD, esD, epD, hoD, hdD, hcD⟩ := hn2.count (PySem.Within.cons name v hw)
  refine wpAny_bind (wpAny_lookBehind hoD (by rw [hdD]; exact pastItsLine_dict (Nat.le_trans hcD (by rw [List.length_cons]; omega))) ?_)
  exact wpAny_pure (h _ ⟨(hs2.2 _ (Ne.symm I.ne)).trans I.obj, hn2, I.ne⟩ hs2)
theorem make_map {R : Result → Shared → Prop} {vs : List Value} {kw : List (Str × Value)} (X : K.In s.heap) (hm : PySem.W.makesIn K C = true)
    (hi : PySem.W.findIn K (.ref C) "__init__" = some (some (.ref f))) (hf : PySem.W.typeIn K (.ref f) = some (.type "function"))
    (h : codeAny (model prog w) (A.under (.builtin "type.__call__" ⟨.ref C :: vs, kw⟩)) (.call (.ref f) ⟨.ref (s.heap.objs.size + 1) :: vs, kw⟩) (PySem.W.InitBack (s.heap.objs.size + 1) R)
      { s with heap := (s.heap.push PySem.W.emptyDict).push (PySem.W.instObj C s.heap.objs.size) }) :
    codeAny (model prog w) A (.call (.ref C) ⟨vs, kw⟩) R s := by
  obtain ⟨hh, g, d, t, os⟩ := s
  exact PySem.W.make_core (PySem.W.makes_of X hm) (PySem.W.looks_findIn X hi) (fun self => PySem.W.bind_fn X self hf) (.inl rfl) h
end
def putF (f : Str) (v : V) : List (Str × V) → List (Str × V)
  | [] => [(f, v)]
  | (g, x) :: r => if g = f then (g, v) :: r else (g, x) :: putF f v r
theorem lookup_putF (f g : Str) (v : V) : ∀ fs : List (Str × V), (putF f v fs).lookup g = if g = f then some v else fs.lookup g
  | [] => by
    show List.lookup g [(f, v)] = _
    by_cases h : g = f
    · have hb : (g == f) = true := beq_iff_eq.mpr h
      simp only [List.lookup, hb, if_pos h]
    · have hb : (g == f) = false := beq_eq_false_iff_ne.mpr h
      simp only [List.lookup, hb, if_neg h]
  | (k, x) :: r => by
    have ih := lookup_putF f g v r
    rw [show putF f v ((k, x) :: r) = (if k = f then (k, v) :: r else (k, x) :: putF f v r) from rfl]
    by_cases hk : k = f
    · rw [if_pos hk]
      by_cases h : g = k
      · have hb : (g == k) = true := beq_iff_eq.mpr h
        simp only [List.lookup, hb, if_pos (h.trans hk)]
      · have hb : (g == k) = false := beq_eq_false_iff_ne.mpr h
        simp only [List.lookup, hb, if_neg (fun e : g = f => h (e.trans hk.symm))]
    · rw [if_neg hk]
      by_cases h : g = k
      · have hb : (g == k) = true := beq_iff_eq.mpr h
        simp only [List.lookup, hb, if_neg (fun e : g = f => hk (h.symm.trans e))]
      · have hb : (g == k) = false := beq_eq_false_iff_ne.mpr h
        simp only [List.lookup, hb]
        exact ih
theorem keys_putF (f : Str) (v : V) : ∀ fs : List (Str × V), f ∈ (putF f v fs).map (·.1) ∧ ∀ g, g ∈ fs.map (·.1) → g ∈ (putF f v fs).map (·.1)
  | [] => ⟨by simp [putF], fun g h => by simp at h⟩
  | (k, x) :: r => by
    obtain ⟨i1, i2⟩ := keys_putF f v r
    rw [show putF f v ((k, x) :: r) = (if k = f then (k, v) :: r else (k, x) :: putF f v r) from rfl]
    by_cases hk : k = f
    · rw [if_pos hk]
      subst hk
      exact ⟨by simp, fun g h => by simpa using h⟩
    · rw [if_neg hk]
      refine ⟨?_, fun g h => ?_⟩
      · rw [List.map_cons]
        exact List.mem_cons_of_mem _ i1
      · rw [List.map_cons] at h ⊢
        rcases List.mem_cons.mp h with e | e
        · exact List.mem_cons.mpr (.inl e)
        · exact List.mem_cons_of_mem _ (i2 g e)
theorem length_putF (f : Str) (v : V) : ∀ fs : List (Str × V), (putF f v fs).length ≤ fs.length + 1
  | [] => by simp [putF]
  | (k, x) :: r => by
    have ih := length_putF f v r
    rw [show putF f v ((k, x) :: r) = (if k = f then (k, v) :: r else (k, x) :: putF f v r) from rfl]
    by_cases hk : k = f
    · rw [if_pos hk, List.length_cons, List.length_cons]; omega
    · rw [if_neg hk, List.length_cons, List.length_cons]; omega
theorem RelO.some_of {v : V} {o : Option Value} (r : RelO (some v) o) : ∃ u, o = some u ∧ RelV v u := by
  cases o with
  | none => exact (show False from r).elim
  | some u => exact ⟨u, rfl, r⟩
theorem RelO.none_of {o : Option Value} (r : RelO none o) : o = none := by
  cases o with
  | none => rfl
  | some u => exact (show False from r).elim
theorem handed_of {v : V} {u : Value} (r : RelV v u) : PySem.W.handedIn u = true := by
  cases v with
  | non => cases (show u = Value.none from r); rfl
  | bl b => cases (show u = Value.bool b from r); rfl
  | int i => obtain ⟨t, e⟩ := (show ∃ t, u = Value.int i t from r); cases e; rfl
  | str x => obtain ⟨t, e⟩ := (show ∃ t, u = Value.str x t from r); cases e; rfl
  | byt b => obtain ⟨t, e⟩ := (show ∃ t, u = Value.bytes b t from r); cases e; rfl
  | flt b => obtain ⟨t, e⟩ := (show ∃ t, u = Value.float b t from r); cases e; rfl
  | ref a => cases (show u = Value.ref a from r); rfl
  | ty n => cases (show u = Value.type n from r); rfl
section
variable {P : Program} {w : World} {H H' : Hp} {h h' : Heap} {a C dx : Addr} {fs fs' : List (Str × V)}
theorem ins_get (hok : HOk P w H h) (e : H a = some (.ins C dx fs)) : ∃ mA, ObjM h a dx C mA ∧ (∀ f, RelO (fs.lookup f) (mA f)) ∧ PySem.Within mA (fs.map (·.1)) ∧ fs.length ≤ 1000 ∧ H dx = some (.own a) := by
  obtain ⟨d, z, ne, ob, mA, n, r, q⟩ := (show ObjOk P w H h a (.ins C dx fs) from hok a _ e)
  exact ⟨mA, ⟨ob, n, ne⟩, r, q, z, d⟩
end
structure Cls (K : PySem.W.Frag) (C : Addr) : Prop where
  pg : PySem.W.plainGet K C Str.empty = true
  hd : PySem.W.hasDictIn K C = true
  po : PySem.W.plainOver K C = true
  sa : PySem.W.findIn K (.ref C) "__setattr__" = some (some (.builtin "object.__setattr__"))
theorem Cls.get {K : PySem.W.Frag} {C : Addr} (c : Cls K C) (f : Str) : PySem.W.plainGet K C f = true := c.pg
def NoAttr (K : PySem.W.Frag) (C : Addr) (f : Str) : Prop := PySem.W.findIn K (.ref C) f = some none
theorem NoAttr.taker {K : PySem.W.Frag} {C : Addr} {f : Str} (n : NoAttr K C f) : PySem.W.takerIn K C f = some none := by
  unfold PySem.W.takerIn
  rw [show PySem.W.findIn K (.ref C) f = some none from n]
  rfl
structure Meth (K : PySem.W.Frag) (C : Addr) (m : Str) (f : Addr) : Prop where
  at_ : PySem.W.findIn K (.ref C) m = some (some (.ref f))
  fn : PySem.W.isFn K (.ref f) = true
  kp : PySem.W.keepIn K (.ref f) = true
section
variable {X : Cx} {pins : List (Addr × Obj)} {σ : St} {H : Hp} {s : Shared} {a C dx : Addr} {fs : List (Str × V)} {f : Str} {v : V} {A : Around} {E : Value → Shared → Prop}
theorem getattr_ok {b : Bool} {Q : Value → Shared → Prop} (I : Inv X pins σ H s) (e : H a = some (.ins C dx fs)) (c : Cls X.K C) (n : NoAttr X.K C f) (l : fs.lookup f = some v)
    (h : ∀ u s', Inv X pins σ H s' → RelV v u → Q u s') : wpAny (model X.prog X.w) A (getAttr (.ref a) f b) Q E s := by
  obtain ⟨mA, O, r, _, _, _⟩ := ins_get I.hok e
  obtain ⟨u, hu, ru⟩ := RelO.some_of (v := v) (o := mA f) (by rw [← l]; exact r f)
  exact get_map I.kIn O (c.get f) c.hd n hu (handed_of ru) (h u _ (I.tok _) ru)
theorem getmeth_ok {m : Str} {g : Addr} {pl : Sem Bool} {Q : Value × List Value → Shared → Prop} (I : Inv X pins σ H s) (e : H a = some (.ins C dx fs)) (c : Cls X.K C) (k : Meth X.K C m g) (l : fs.lookup m = none)
    (h : Q (.ref g, [.ref a]) s) : wpAny (model X.prog X.w) A (getMethod (.ref a) m pl) Q E s := by
  obtain ⟨mA, O, r, _, _, _⟩ := ins_get I.hok e
  have hn : mA m = none := RelO.none_of (by rw [← l]; exact r m)
  exact get_meth I.kIn O (c.get m) k.at_ k.fn hn h
theorem setattr_ok {y : V} {u : Value} {Q : Unit → Shared → Prop} (I : Inv X pins σ H s) (e : H a = some (.ins C dx fs)) (c : Cls X.K C) (n : NoAttr X.K C f) (hl : fs.length < 1000) (ry : RelV y u)
    (h : ∀ s', Inv X pins σ (upd H a (.ins C dx (putF f y fs))) s' → Q () s') : wpAny (model X.prog X.w) A (setAttr (.ref a) f u) Q E s := by
  obtain ⟨mA, O, r, wi, _, ho⟩ := ins_get I.hok e
  have hz : (fs.map (·.1)).length ≤ sizeLine := by rw [List.length_map, sizeLine_eq]; omega
  refine set_map I.kIn O c.sa c.po n.taker c.hd wi hz fun h' O' sb => h _ ?_
  have hd : ∃ o, h'.get? dx = some o := let ⟨o, _, _, e', _⟩ := O'.ns; ⟨o, e'⟩
  refine I.write (x := a) (e := dx) (by rw [e]; exact True.intro) (.inr ho) (fun b q hb z => (sb.2 b hb).trans z) hd ?_
  refine ⟨by rw [upd_ne O.ne]; exact ho, ?_, O.ne, O'.obj, _, O'.ns, fun g => ?_, fun g hg => ?_⟩
  · have := length_putF f y fs; omega
  · show RelO ((putF f y fs).lookup g) (if g = f then some u else mA g)
    rw [lookup_putF]
    by_cases q : g = f
    · rw [if_pos q, if_pos q]; exact ry
    · rw [if_neg q, if_neg q]; exact r g
  · by_cases q : g = f
    · rw [q]; exact (keys_putF f y fs).1
    · refine (keys_putF f y fs).2 g (wi g fun z => hg ?_)
      show (if g = f then some u else mA g) = none
      rw [if_neg q]; exact z
theorem Inv.made (I : Inv X pins σ H s) : Inv X pins σ (upd (upd H s.heap.objs.size (.own (s.heap.objs.size + 1))) (s.heap.objs.size + 1) (.ins C s.heap.objs.size []))
    { s with heap := (s.heap.push PySem.W.emptyDict).push (PySem.W.instObj C s.heap.objs.size) } := by
  have e1 : (s.heap.push PySem.W.emptyDict).get? s.heap.objs.size = some PySem.W.emptyDict := Heap.get?_push_size s.heap rfl
  have e2 : ((s.heap.push PySem.W.emptyDict).push (PySem.W.instObj C s.heap.objs.size)).get? (s.heap.objs.size + 1) = some (PySem.W.instObj C s.heap.objs.size) := by
    have := Heap.get?_push_size (s.heap.push PySem.W.emptyDict) (o := PySem.W.instObj C s.heap.objs.size) rfl
    rwa [Heap.size_push] at this
  have e3 : (s.heap.push PySem.W.emptyDict).Ns s.heap.objs.size (fun _ => none) := ⟨PySem.W.emptyDict, #[], _, e1, rfl, (fun e he => absurd he (by simp)), fun _ => rfl⟩
  have I1 := I.laid (a := s.heap.objs.size) (o := .own (s.heap.objs.size + 1)) (h' := s.heap.push PySem.W.emptyDict) (t' := s.toks) (fun b u q => Heap.get?_push_of_some _ q) (Nat.le_refl _) ⟨_, e1⟩
  refine I1.laid (a := s.heap.objs.size + 1) (o := .ins C s.heap.objs.size []) (t' := s.toks) (fun b u q => Heap.get?_push_of_some _ q) (Nat.le_of_eq (Heap.size_push _ _)) ?_
  have ne : s.heap.objs.size ≠ s.heap.objs.size + 1 := Nat.ne_of_lt (Nat.lt_succ_self _)
  refine ⟨by rw [upd_ne ne, upd_same], Nat.zero_le _, ne, e2, fun _ => none, (Heap.Ns1.of_empty e3).at fun o q => Heap.get?_push_of_some _ q, fun _ => True.intro, fun y hy => absurd rfl hy⟩
theorem attr_of {prog : Program} {w : World} {env : Env} {e : Expr} {f : Str} {pos : Pos} {s : Shared} {Q : Value → Shared → Prop} (hb : attributeBase e f env (eval e env) = eval e env)
    (h : wpAny (model prog w) A (eval e env) (fun o s₁ => wpAny (model prog w) A (getAttr o f true) Q E s₁) E s) : wpAny (model prog w) A (eval (.Attribute e f pos) env) Q E s :=
  Attribute_any_ h (by rw [arm_eval_Attribute, hb])
end
def tFld (K : PySem.W.Frag) (ta : TE) (f : Str) : TE := fun σ H Q => ta σ H fun x H1 => ∃ a C dx fs v, x = .ref a ∧ H1 a = some (.ins C dx fs) ∧ Cls K C ∧ NoAttr K C f ∧ fs.lookup f = some v ∧ Q v H1
def sFld (K : PySem.W.Frag) (ta tv : TE) (f : Str) : TS := fun D σ H => tv σ H fun y H1 => ta σ H1 fun x H2 => ∃ a C dx fs, x = .ref a ∧ H2 a = some (.ins C dx fs) ∧ Cls K C ∧ NoAttr K C f ∧ fs.length < 1000 ∧
  D.nx σ (upd H2 a (.ins C dx (putF f y fs)))
def InOp (X : Cx) (op : Operator) (rd : V → V → Hp → VK → Prop) : Prop :=
  ∀ (pins : List (Addr × Obj)) (s : Shared) (σ : St) (H : Hp) (x y : V) (u v : Value) (Q : VK), Inv X pins σ H s → RelV x u → RelV y v → rd x y H Q → wpAny (model X.prog X.w) X.A (inplaceOp op u v) (EP X pins σ Q) X.xe s
def sFldAug (K : PySem.W.Frag) (ta tv : TE) (rd : V → V → Hp → VK → Prop) (f : Str) : TS := fun D σ H => ta σ H fun x H1 => ∃ a C dx fs v, x = .ref a ∧ H1 a = some (.ins C dx fs) ∧ Cls K C ∧ NoAttr K C f ∧ fs.lookup f = some v ∧
  tv σ H1 fun y H2 => rd v y H2 fun z H3 => ∃ dx' fs', H3 a = some (.ins C dx' fs') ∧ fs'.length < 1000 ∧ D.nx σ (upd H3 a (.ins C dx' (putF f z fs')))
section
variable {X : Cx} {o e value : Expr} {f : Str} {pos pos' tpos : Pos} {ta tv : TE}
theorem pe_fld (he : PE X e ta) (hb : attributeBase e f X.env (eval e X.env) = eval e X.env) : PE X (.Attribute e f pos) (tFld X.K ta f) := by
  intro pins s σ H Q I h
  refine attr_of hb (thn (he pins s σ H _ I h) fun u s1 ⟨x, H1, I1, rx, a, C, dx, fs, v, ex, ea, c, n, l, q⟩ => ?_)
  subst ex
  obtain rfl : u = Value.ref a := rx
  exact getattr_ok I1 ea c n l fun u' s2 I2 ru => ⟨v, H1, I2, ru, q⟩
theorem ps_fld (ha : PE X o ta) (hv : PE X value tv) (hs : swapsWith value (some (.Attribute o f pos')) pos.line X.env = pure false) : PS X (.Assign [.Attribute o f pos'] value pos) (sFld X.K ta tv f) := by
  intro pins s σ H D I h
  refine plainObj_wpAny_Assign_Attribute (thn (hv pins s σ H _ I h) fun u s1 ⟨y, H1, I1, ry, q⟩ => thn (ha pins s1 σ H1 _ I1 q) fun ov s2 ⟨x, H2, I2, rx, a, C, dx, fs, ex, ea, c, n, l, q2⟩ => ?_) hs
  subst ex
  obtain rfl : ov = Value.ref a := rx
  exact setattr_ok I2 ea c n l ry fun s3 I3 => ⟨σ, _, I3, q2⟩
theorem ps_fldaug {op : Operator} {rd : V → V → Hp → VK → Prop} (ha : PE X o ta) (hv : PE X value tv) (hop : InOp X op rd) : PS X (.AugAssign (.Attribute o f tpos) op value pos) (sFldAug X.K ta tv rd f) := by
  intro pins s σ H D I h
  refine wpAny_AugAssign_AttributeAny (thn (ha pins s σ H _ I h) fun ov s1 ⟨x, H1, I1, rx, a, C, dx, fs, v, ex, ea, c, n, l, q⟩ => ?_)
  subst ex
  obtain rfl : ov = Value.ref a := rx
  refine getattr_ok I1 ea c n l fun u s2 I2 ru => thn (hv pins s2 σ H1 _ I2 q) fun w3 s3 ⟨y, H2, I3, ry, q3⟩ => thn (hop pins s3 σ H2 v y u w3 _ I3 ru ry q3) fun w4 s4 ⟨z, H3, I4, rz, dx', fs', ea', l', q4⟩ => ?_
  exact setattr_ok I4 ea' c n l' rz fun s5 I5 => ⟨σ, _, I5, q4⟩
def rAdd : V → V → Hp → VK → Prop := fun x y H Q => ∃ i j, x = .int i ∧ y = .int j ∧ Q (.int (i + j)) H
theorem in_add : InOp X .Add rAdd := by
  rintro pins s σ H x y u v Q I rx ry ⟨i, j, rfl, rfl, q⟩
  obtain ⟨t, rfl⟩ := (show ∃ t, u = Value.int i t from rx)
  obtain ⟨t', rfl⟩ := (show ∃ t', v = Value.int j t' from ry)
  exact PyProof.Rows.iadd_int ⟨.int (i + j), H, I.tok _, ⟨_, rfl⟩, q⟩
end
section
variable {X : Cx} {pins : List (Addr × Obj)} {σ : St} {H : Hp} {s : Shared} {A : Around} {E : Value → Shared → Prop} {Q : Value → Shared → Prop} {c : Value} {b : Bool}
end
end L2
namespace L2
open PySem PySem.Spec PyProof.Rows
structure Room (k : Nat) (A : Around) : Prop where
  hd : A.handled = none
  dp : A.depth + 3 * k + 5 < recursionLimit
  un : A.units + 16 * k + 200 < cLine
theorem Room.mono {j k : Nat} {A : Around} (r : Room k A) (h : j ≤ k) : Room j A := ⟨r.hd, by have := r.dp; omega, by have := r.un; omega⟩
theorem Room.deeper {k : Nat} {A : Around} (r : Room (k + 1) A) (env : Env) : Room k (A.deeper env) :=
  ⟨r.hd, by have := r.dp; show A.depth + 1 + 3 * k + 5 < _; omega, by have := r.un; show A.units + 3 + 16 * k + 200 < _; omega⟩
theorem Room.in1 {k : Nat} {A : Around} (r : Room (k + 1) A) : Room k A.in1 :=
  ⟨r.hd, by have := r.dp; show A.depth + 3 * k + 5 < _; omega, by have := r.un; show A.units + 1 + 16 * k + 200 < _; omega⟩
theorem make_depth {A : Around} {C : Addr} {us : List Value} {kw : List (Str × Value)} : (A.under (.builtin "type.__call__" ⟨.ref C :: us, kw⟩)).depth = A.depth + 1 := by
  first | rfl | simp [Around.under, Code.weight, Code.isCreation, Code.isGuard, Code.isCaller, Code.frames, Code.isFrame, guardIds]
theorem make_units {A : Around} {C : Addr} {us : List Value} {kw : List (Str × Value)} : (A.under (.builtin "type.__call__" ⟨.ref C :: us, kw⟩)).units = A.units + 1 := by
  first | rfl | simp [Around.under, Code.cUnits, Code.frames, Code.isFrame]
theorem Room.make {k : Nat} {A : Around} (r : Room (k + 1) A) (C : Addr) (us : List Value) (kw : List (Str × Value)) : Room k (A.under (.builtin "type.__call__" ⟨.ref C :: us, kw⟩)) :=
  ⟨r.hd, by have := r.dp; rw [make_depth]; omega, by have := r.un; rw [make_units]; omega⟩
theorem Room.depth {k : Nat} {A : Around} (r : Room k A) : A.depth < recursionLimit := by have := r.dp; omega
theorem Room.units {k : Nat} {A : Around} (r : Room k A) : A.units + 64 < cLine := by have := r.un; omega
def tNil : TA := fun _ H Q => Q [] H
def tCons (ta : TE) (tr : TA) : TA := fun σ H Q => ta σ H fun x H1 => tr σ H1 fun xs H2 => Q (x :: xs) H2
section
variable {X : Cx} {e : Expr} {es : List Expr} {te : TE} {t : TA} {pos : Pos}
theorem pa_nil : PA X [] tNil := fun _ _ _ _ H Q I h => Calls.spliced_nil ⟨[], H, I, .nil, h⟩
theorem pa_cons (ha : PE X e te) (hr : PA X es t) (hs : starEach (e :: es) X.env = (false, eval e X.env) :: starEach es X.env := by rfl) : PA X (e :: es) (tCons te t) := by
  intro pos pins s σ H Q I h
  rw [hs]
  show wpAny _ _ (spliced ((false, eval e X.env) :: backTo pos (starEach es X.env))) _ _ s
  refine Calls.spliced_cons (thn (ha pins s σ H _ I h) fun u s1 ⟨x, H1, I1, r1, q1⟩ => ?_)
  exact thn (hr pos pins s1 σ H1 _ I1 q1) fun us s2 ⟨xs, H2, I2, r2, q2⟩ => ⟨x :: xs, H2, I2, .cons r1 r2, q2⟩
def tTup (t : TA) : TE := fun σ H Q => t σ H fun xs H1 => xs.length ≤ sizeLine ∧ ∀ p, H1 p = none → Q (.ref p) (upd H1 p (.tup xs))
def tLst (t : TA) : TE := fun σ H Q => t σ H fun xs H1 => xs.length ≤ sizeLine ∧ ∀ p, H1 p = none → Q (.ref p) (upd H1 p (.lst xs))
theorem pe_tup {x1} (h : PA X es t) : PE X (.Tuple es x1 pos) (tTup t) := by
  intro pins s σ H Q I hq
  refine wpAny_Tuple_spliced (thn (h pos pins s σ H _ I hq) fun us s1 ⟨xs, H1, I1, r, z, q⟩ => ⟨by rw [← r.length]; exact z, ?_⟩)
  have hf : H1 s1.heap.objs.size = none := I1.hok.fresh (Nat.le_refl _)
  refine ⟨.ref s1.heap.objs.size, upd H1 s1.heap.objs.size (.tup xs), I1.laid (t' := s1.toks) (fun b u e => Heap.get?_push_of_some _ e) (Nat.le_refl _) ?_, rfl, q _ hf⟩
  exact ⟨z, us, r, ⟨_, Heap.get?_push_size _ rfl, rfl, _, rfl⟩⟩
theorem pe_lst (h : PA X es t) : PE X (.List es pos) (tLst t) := by
  intro pins s σ H Q I hq
  refine wpAny_List_spliced (thn (h pos pins s σ H _ I hq) fun us s1 ⟨xs, H1, I1, r, z, q⟩ => ⟨by rw [← r.length]; exact z, ?_⟩)
  have hf : H1 s1.heap.objs.size = none := I1.hok.fresh (Nat.le_refl _)
  refine ⟨.ref s1.heap.objs.size, upd H1 s1.heap.objs.size (.lst xs), I1.laid (t' := s1.toks) (fun b u e => Heap.get?_push_of_some _ e) (Nat.le_refl _) ?_, rfl, q _ hf⟩
  exact ⟨z, us, 0, r, Heap.get?_push_size _ rfl⟩
end
abbrev Sp := List V → Hp → VK → XK → Prop
abbrev CXT := List Env → Hp → Shared → XK → Value → Shared → Prop
structure Env0 (P : Program) (w : World) (K : PySem.W.Frag) (mg : Str → Option Value) (base : Heap) (A : Around) (outer : List Env) (s : Shared) (H : Hp) : Prop where
  frames : A.frames = some outer
  mod : Mod K mg base
  bs : ∀ b o, base.get? b = some o → s.heap.get? b = some o ∧ H b = none
  bsz : base.objs.size ≤ s.heap.objs.size
  funs : s.heap.FunFrames base outer
  frf : ∀ b ∈ frs outer, H b = none
  hok : HOk P w H s.heap
  bare : AllBare s.gens
def CE (outer : List Env) (P : Program) (w : World) (H : Hp) (s : Shared) (Q : VK) (u : Value) (s' : Shared) : Prop :=
  ∃ v H', s'.os = s.os ∧ AllBare s'.gens ∧ Un (frs outer) [] H H' s.heap s'.heap ∧ HOk P w H' s'.heap ∧ RelV v u ∧ Q v H'
def CR (CX : CXT) (outer : List Env) (P : Program) (w : World) (H : Hp) (s : Shared) (Q : VK) (E : XK) (r : Result) (s' : Shared) : Prop :=
  match r with
  | .ok (.ret u) => CE outer P w H s Q u s'
  | .ok _ => False
  | .error e => CX outer H s E e s'
structure FnOk (P : Program) (w : World) (K : PySem.W.Frag) (mg : Str → Option Value) (base : Heap) (CX : CXT) (k : Nat) (f : Addr) (fd : FuncData) (ps : List Str) (sp : Sp) : Prop where
  len : ∀ vs H Q E, sp vs H Q E → vs.length = ps.length
  run : ∀ (A : Around) (outer : List Env) (s : Shared) (H : Hp) (args : Args) (us : List Value) (vs : List V) (Q : VK) (E : XK), Room k A → Env0 P w K mg base A outer s H → BindsTo s fd args (ps.zip us) → Vals vs us → sp vs H Q E →
    codeAny (model P w) A (.call (.ref f) args) (CR CX outer P w H s Q E) s
theorem FnOk.mono {P : Program} {w : World} {K : PySem.W.Frag} {mg : Str → Option Value} {base : Heap} {CX : CXT} {j k : Nat} {f : Addr} {fd : FuncData} {ps : List Str} {sp : Sp} (F : FnOk P w K mg base CX j f fd ps sp) (h : j ≤ k) :
    FnOk P w K mg base CX k f fd ps sp := ⟨F.len, fun A outer s H args us vs Q E hr => F.run A outer s H args us vs Q E (hr.mono h)⟩
theorem Env0.make {P : Program} {w : World} {K : PySem.W.Frag} {mg : Str → Option Value} {base : Heap} {A : Around} {outer : List Env} {s : Shared} {H : Hp} (e : Env0 P w K mg base A outer s H) (C : Addr) (us : List Value) (kw : List (Str × Value)) :
    Env0 P w K mg base (A.under (.builtin "type.__call__" ⟨.ref C :: us, kw⟩)) outer s H := ⟨by first | exact e.frames | (simpa [Around.under, Code.envs, Code.isFrame, pushEnvs] using e.frames), e.mod, e.bs, e.bsz, e.funs, e.frf, e.hok, e.bare⟩
theorem Env0.in1 {P : Program} {w : World} {K : PySem.W.Frag} {mg : Str → Option Value} {base : Heap} {A : Around} {outer : List Env} {s : Shared} {H : Hp} (e : Env0 P w K mg base A outer s H) :
    Env0 P w K mg base A.in1 outer s H := ⟨e.frames, e.mod, e.bs, e.bsz, e.funs, e.frf, e.hok, e.bare⟩
section
variable {X : Cx} {pins : List (Addr × Obj)} {σ : St} {H : Hp} {s s' : Shared}
theorem Inv.env0 (I : Inv X pins σ H s) : Env0 X.prog X.w X.K X.mg X.base X.A X.stack s H :=
  ⟨I.ok.frames, I.ok.mod, I.bs, Nat.le_trans I.ok.bsz I.sz, I.stack, I.stkFree, I.hok, I.bare⟩
theorem Inv.after {Q : VK} {u : Value} (I : Inv X pins σ H s) (h : CE X.stack X.prog X.w H s Q u s') : EP X pins σ Q u s' := by
  obtain ⟨v, H', os, bare, un, hok, r, q⟩ := h
  obtain ⟨hh, g, d, t, os'⟩ := s'
  obtain rfl : os' = s.os := os
  exact ⟨v, H', I.call (h' := hh) (g' := g) (d' := d) (t' := t) (ch := []) un hok bare (fun b z => absurd z (by simp)), r, q⟩
end
def tCall (sp : Sp) (dvs : List V) (E : XK) (t : TA) : TE := fun σ H Q => t σ H fun vs H1 => sp (vs ++ dvs) H1 Q E
def tMeth (C : Addr) (m : Str) (sp : Sp) (dvs : List V) (E : XK) (ta : TE) (t : TA) : TE := fun σ H Q => ta σ H fun x H1 => ∃ a dx fs, x = .ref a ∧ H1 a = some (.ins C dx fs) ∧ fs.lookup m = none ∧
  t σ H1 fun vs H2 => sp (x :: (vs ++ dvs)) H2 Q E
def tMake (C : Addr) (sp : Sp) (dvs : List V) (E : XK) (t : TA) : TE := fun σ H Q => t σ H fun vs H1 => ∀ x dx, H1 x = none → H1 dx = none → dx ≠ x →
  sp (.ref x :: (vs ++ dvs)) (upd (upd H1 dx (.own x)) x (.ins C dx [])) (fun v H2 => v = .non ∧ Q (.ref x) H2) E
def Binds (K : PySem.W.Frag) (fd : FuncData) (ps : List Str) (ds : List Value) : Prop :=
  ∀ (s : Shared) (us : List Value), K.In s.heap → (us ++ ds).length = ps.length → BindsTo s fd ⟨us, []⟩ (ps.zip (us ++ ds))
theorem Binds.all {K : PySem.W.Frag} {fd : FuncData} {ps : List Str} (h : ∀ us : List Value, us.length = ps.length → bindArgs fd ⟨us, []⟩ = pure (ps.zip us)) : Binds K fd ps [] := fun s us _ hl => by
  rw [List.append_nil] at hl ⊢
  exact .of_eq (h us hl)
def Passes (CX : CXT) (X : Cx) (E : XK) : Prop := ∀ (pins : List (Addr × Obj)) (σ : St) (H : Hp) (s : Shared) (e : Value) (s' : Shared), Inv X pins σ H s → CX X.stack H s E e s' → X.xe e s'
section
variable {X : Cx} {CX : CXT} {k : Nat} {f C : Addr} {fd : FuncData} {ps : List Str} {sp : Sp} {dvs : List V} {ds : List Value} {E : XK} {x m : Str} {p pos apos : Pos} {e o : Expr} {es : List Expr} {ta : TE} {t : TA}
theorem run_fn {pins : List (Addr × Obj)} {σ : St} {H : Hp} {s : Shared} {Q : VK} {us : List Value} {vs : List V} (F : FnOk X.prog X.w X.K X.mg X.base CX k f fd ps sp) (hr : Room k X.A) (hb : Binds X.K fd ps ds) (hd : Vals dvs ds) (hx : Passes CX X E)
    (I : Inv X pins σ H s) (r : Vals vs us) (h : sp (vs ++ dvs) H Q E) : wpAny (model X.prog X.w) X.A (call (.ref f) us) (EP X pins σ Q) X.xe s := by
  have r2 : Vals (vs ++ dvs) (us ++ ds) := r.append hd
  have hl : (us ++ ds).length = ps.length := by rw [← r2.length]; exact F.len _ _ _ _ h
  refine wpAny_call (codeAny_mono (F.run X.A X.stack s H ⟨us, []⟩ (us ++ ds) (vs ++ dvs) Q E hr I.env0 (hb s us I.kIn hl) r2 h) fun r s' hq => ?_)
  cases r with
  | error e => exact hx pins σ H s e s' I hq
  | ok fl =>
    cases fl with
    | ret u => exact I.after hq
    | next => exact False.elim hq
    | brk => exact False.elim hq
    | cont => exact False.elim hq
theorem pe_call (F : FnOk X.prog X.w X.K X.mg X.base CX k f fd ps sp) (hr : Room k X.A) (hg : Gl X x) (hm : X.mg x = some (.ref f)) (hk : PySem.W.keepIn X.K (.ref f) = true) (hb : Binds X.K fd ps ds) (hd : Vals dvs ds) (hx : Passes CX X E)
    (ha : PA X (e :: es) t) (hdb : (x == ("__debug__" : Str)) = false := by decide) (he : starEach (e :: es) X.env = (false, eval e X.env) :: starEach es X.env := by rfl) (hpl : (backTo pos (starEach es X.env)).any (·.1) = false := by rfl) :
    PE X (.Call (.Name x p) (e :: es) [] pos) (tCall sp dvs E t) := by
  intro pins s σ H Q I h
  refine wpAny_Call_Name_kw (ld_glob I hg hm ?_ hdb)
  refine PySem.W.callWith_K (h₀ := X.base) I.ok.mod.kin hk (thn (ha pos pins s σ H _ I h) fun us s1 ⟨vs, H1, I1, r, q⟩ => ⟨I1.kIn, ?_⟩) he hpl
  exact run_fn F hr hb hd hx I1 r q
theorem pe_call0 (F : FnOk X.prog X.w X.K X.mg X.base CX k f fd ps sp) (hr : Room k X.A) (hg : Gl X x) (hm : X.mg x = some (.ref f)) (hk : PySem.W.keepIn X.K (.ref f) = true) (hb : Binds X.K fd ps ds) (hd : Vals dvs ds) (hx : Passes CX X E)
    (hdb : (x == ("__debug__" : Str)) = false := by decide) : PE X (.Call (.Name x p) [] [] pos) (tCall sp dvs E tNil) := by
  intro pins s σ H Q I h
  refine wpAny_Call_Name_kw (ld_glob I hg hm ?_ hdb)
  exact PySem.W.callWith_K0 I.kIn hk (run_fn (us := []) F hr hb hd hx I .nil h)
theorem pe_meth0 {pl : Sem Bool} (he : PE X o ta) (c : Cls X.K C) (hm : Meth X.K C m f) (F : FnOk X.prog X.w X.K X.mg X.base CX k f fd ps sp) (hr : Room k X.A) (hb : Binds X.K fd ps ds) (hd : Vals dvs ds) (hx : Passes CX X E)
    (ht : eval (.Call (.Attribute o m apos) [] [] pos) X.env = (do
      let ov ← eval o X.env
      standAt apos.atName
      let (f, first) ← holding [ov] (getMethod ov m pl)
      callWith pos f first (backTo pos (starEach [] X.env)) (backToKw pos (keywordEach [] X.env))) := by rfl) :
    PE X (.Call (.Attribute o m apos) [] [] pos) (tMeth C m sp dvs E ta tNil) := by
  intro pins s σ H Q I h
  refine PySem.W.methodCall_KW (pl := pl) (thn (he pins s σ H _ I h) fun u s1 ⟨x, H1, I1, rx, a, dx, fs, ex, ea, l, q⟩ => ?_) ht
  subst ex
  obtain rfl : u = Value.ref a := rx
  refine getmeth_ok I1 ea c hm l ?_
  exact PySem.W.callWith_K0 (first := [.ref a]) I1.kIn hm.kp (run_fn (us := [.ref a]) (vs := [.ref a]) F hr hb hd hx I1 (.cons rfl .nil) q)
structure Mk (K : PySem.W.Frag) (C f : Addr) : Prop where
  makes : PySem.W.makesIn K C = true
  init : PySem.W.findIn K (.ref C) "__init__" = some (some (.ref f))
  fn : PySem.W.isFn K (.ref f) = true
  kp : PySem.W.keepIn K (.ref C) = true
theorem run_make {pins : List (Addr × Obj)} {σ : St} {H : Hp} {s : Shared} {Q : VK} {us : List Value} {vs : List V} (M : Mk X.K C f) (F : FnOk X.prog X.w X.K X.mg X.base CX k f fd ps sp) (hr : Room (k + 1) X.A) (hb : Binds X.K fd ps ds) (hd : Vals dvs ds)
    (hx : Passes CX X E) (I : Inv X pins σ H s) (r : Vals vs us)
    (h : ∀ x dx, H x = none → H dx = none → dx ≠ x → sp (.ref x :: (vs ++ dvs)) (upd (upd H dx (.own x)) x (.ins C dx [])) (fun v H2 => v = .non ∧ Q (.ref x) H2) E) :
    wpAny (model X.prog X.w) X.A (call (.ref C) us) (EP X pins σ Q) X.xe s := by
  have hq := h (s.heap.objs.size + 1) s.heap.objs.size (I.hok.fresh (Nat.le_succ _)) (I.hok.fresh (Nat.le_refl _)) (Nat.ne_of_lt (Nat.lt_succ_self _))
  have I2 := Inv.made (C := C) I
  have r2 : Vals (V.ref (s.heap.objs.size + 1) :: (vs ++ dvs)) (Value.ref (s.heap.objs.size + 1) :: (us ++ ds)) := .cons rfl (r.append hd)
  have hl : (Value.ref (s.heap.objs.size + 1) :: us ++ ds).length = ps.length := by
    have e := r2.length
    rw [F.len _ _ _ _ hq] at e
    exact e.symm
  refine wpAny_call (make_map (f := f) I.kIn M.makes M.init (beq_iff_eq.mp M.fn) (codeAny_mono (F.run _ X.stack _ _ ⟨Value.ref (s.heap.objs.size + 1) :: us, []⟩ (Value.ref (s.heap.objs.size + 1) :: (us ++ ds)) _ _ E (hr.make C us [])
    (I2.env0.make C us []) (hb _ (Value.ref (s.heap.objs.size + 1) :: us) I2.kIn hl) r2 hq) fun r s' hq' => ?_))
  cases r with
  | error e => exact hx pins σ _ _ e s' I2 hq'
  | ok fl =>
    cases fl with
    | ret u =>
      obtain ⟨v, H', I3, rv, ev, q3⟩ := I2.after hq'
      subst ev
      exact ⟨rv, ⟨V.ref (s.heap.objs.size + 1), H', I3, rfl, q3⟩⟩
    | next => exact False.elim hq'
    | brk => exact False.elim hq'
    | cont => exact False.elim hq'
theorem pe_make (M : Mk X.K C f) (F : FnOk X.prog X.w X.K X.mg X.base CX k f fd ps sp) (hr : Room (k + 1) X.A) (hg : Gl X x) (hm : X.mg x = some (.ref C)) (hb : Binds X.K fd ps ds) (hd : Vals dvs ds) (hx : Passes CX X E)
    (ha : PA X (e :: es) t) (hdb : (x == ("__debug__" : Str)) = false := by decide) (he : starEach (e :: es) X.env = (false, eval e X.env) :: starEach es X.env := by rfl) (hpl : (backTo pos (starEach es X.env)).any (·.1) = false := by rfl) :
    PE X (.Call (.Name x p) (e :: es) [] pos) (tMake C sp dvs E t) := by
  intro pins s σ H Q I h
  refine wpAny_Call_Name_kw (ld_glob I hg hm ?_ hdb)
  refine PySem.W.callWith_K (h₀ := X.base) I.ok.mod.kin M.kp (thn (ha pos pins s σ H _ I h) fun us s1 ⟨vs, H1, I1, r, q⟩ => ⟨I1.kIn, ?_⟩) he hpl
  exact run_make M F hr hb hd hx I1 r q
theorem pe_make0 (M : Mk X.K C f) (F : FnOk X.prog X.w X.K X.mg X.base CX k f fd ps sp) (hr : Room (k + 1) X.A) (hg : Gl X x) (hm : X.mg x = some (.ref C)) (hb : Binds X.K fd ps ds) (hd : Vals dvs ds) (hx : Passes CX X E)
    (hdb : (x == ("__debug__" : Str)) = false := by decide) : PE X (.Call (.Name x p) [] [] pos) (tMake C sp dvs E tNil) := by
  intro pins s σ H Q I h
  refine wpAny_Call_Name_kw (ld_glob I hg hm ?_ hdb)
  exact PySem.W.callWith_K0 I.kIn M.kp (run_make (us := []) M F hr hb hd hx I .nil h)
end
section
variable {X : Cx} {CX : CXT} {k : Nat} {f C : Addr} {fd : FuncData} {ps ks : List Str} {sp : Sp} {E : XK} {x m : Str} {p pos apos kpos : Pos} {e o : Expr} {es : List Expr} {kws : List Keyword} {te ta : TE} {t tk : TA} {nm : Option Str}
variable {g : List Value → List Value → List Value} {gV : List V → List V → List V}
end
structure FnScope (N P : List Str) (sc : Scope) : Prop where
  kind : sc.kind = .function
  co : sc.isCoroutine = false
  gen : sc.isGenerator = false
  nd : N.Nodup
  pre : N.take P.length = P
  par : ∀ x ∈ P, sc.names.lookup x = some .local ∨ sc.names.lookup x = some .cell
  nofree : ∀ y ∈ sc.names, y.2 ≠ .free
theorem bindL_out {kindOf : Str → Option NameKind} {x : Str} : ∀ {binds : List (Str × Value)} {m : Str → Option Value}, (∀ v, (x, v) ∉ binds) → bindL kindOf binds m x = m x
  | [], _, _ => rfl
  | (n, v) :: r, m, h => by
    unfold bindL
    rw [bindL_out fun w hw => h w (List.mem_cons_of_mem _ hw)]
    split
    · have : x ≠ n := by rintro rfl; exact h v List.mem_cons_self
      simp [this]
    · rfl
theorem bindC_out {kindOf : Str → Option NameKind} {x : Str} : ∀ {binds : List (Str × Value)} {m : Str → Option Value}, (∀ v, (x, v) ∉ binds) → bindC kindOf binds m x = m x
  | [], _, _ => rfl
  | (n, v) :: r, m, h => by
    unfold bindC
    rw [bindC_out fun w hw => h w (List.mem_cons_of_mem _ hw)]
    split
    · rfl
    · have : x ≠ n := by rintro rfl; exact h v List.mem_cons_self
      simp [this]
theorem bindL_get {kindOf : Str → Option NameKind} {x : Str} {v : Value} : ∀ {P : List Str} {vs : List Value} {i : Nat} {m : Str → Option Value}, P.Nodup → P[i]? = some x → vs[i]? = some v → kindOf x = some .local →
    bindL kindOf (P.zip vs) m x = some v
  | [], _, _, _, _, h, _, _ => by simp at h
  | _ :: _, [], _, _, _, _, h, _ => by simp at h
  | p :: P, w :: vs, 0, m, nd, h1, h2, hk => by
    simp at h1 h2; subst h1; subst h2
    show bindL kindOf ((p, w) :: P.zip vs) m p = _
    unfold bindL
    rw [bindL_out fun v hv => (List.nodup_cons.mp nd).1 (List.of_mem_zip hv).1, if_pos hk]
    simp
  | p :: P, w :: vs, i + 1, m, nd, h1, h2, hk => by
    show bindL kindOf ((p, w) :: P.zip vs) m x = _
    unfold bindL
    exact bindL_get (i := i) (List.nodup_cons.mp nd).2 (by simpa using h1) (by simpa using h2) hk
theorem bindC_get {kindOf : Str → Option NameKind} {x : Str} {v : Value} : ∀ {P : List Str} {vs : List Value} {i : Nat} {m : Str → Option Value}, P.Nodup → P[i]? = some x → vs[i]? = some v → kindOf x ≠ some .local →
    bindC kindOf (P.zip vs) m x = some v
  | [], _, _, _, _, h, _, _ => by simp at h
  | _ :: _, [], _, _, _, _, h, _ => by simp at h
  | p :: P, w :: vs, 0, m, nd, h1, h2, hk => by
    simp at h1 h2; subst h1; subst h2
    show bindC kindOf ((p, w) :: P.zip vs) m p = _
    unfold bindC
    rw [bindC_out fun v hv => (List.nodup_cons.mp nd).1 (List.of_mem_zip hv).1, if_neg hk]
    simp
  | p :: P, w :: vs, i + 1, m, nd, h1, h2, hk => by
    show bindC kindOf ((p, w) :: P.zip vs) m x = _
    unfold bindC
    exact bindC_get (i := i) (List.nodup_cons.mp nd).2 (by simpa using h1) (by simpa using h2) hk
def start (N : List Str) (vs : List V) : St := vs.map some ++ List.replicate (N.length - vs.length) none
def cxOf (CX : CXT) (P : Program) (w : World) (K : PySem.W.Frag) (mg : Str → Option Value) (base : Heap) (N : List Str) (qual : Str) (scope : Scope) (f : Addr) (cd : Value) (A : Around) (outer : List Env) (s : Shared) (H : Hp) (E : XK) : Cx where
  prog := P
  w := w
  K := K
  mg := mg
  base := base
  A := A.deeper (envOfC qual scope s.heap.objs.size f cd)
  N := N
  s_0 := s
  H_0 := H
  env := envOfC qual scope s.heap.objs.size f cd
  outer := outer
  stack := envOfC qual scope s.heap.objs.size f cd :: outer
  ex := []
  calm := true
  fn := fun _ => true
  pn := []
  xe := fun e s' => wpAny (model P w) (A.deeper (envOfC qual scope s.heap.objs.size f cd)) (leaving (envOfC qual scope s.heap.objs.size f cd) e) (fun _ s'' => CX outer H s E e s'') (fun e' s'' => CX outer H s E e' s'') s'
theorem cell_has {sc : Scope} {n : Nat} {x : Str} (h : sc.names.lookup x = some .cell) : ∃ c, (cellsFrom n sc.names []).lookup x = some c := by
  have q := PySem.W.cellsFrom_some sc.names n [] (.inl h)
  exact Option.isSome_iff_exists.mp q
theorem inv_start {CX : CXT} {P : Program} {w : World} {K : PySem.W.Frag} {mg : Str → Option Value} {base : Heap} {N ps : List Str} {qual : Str} {scope : Scope} {f : Addr} {cd : Value} {A : Around} {outer : List Env} {s s1 : Shared} {H : Hp} {E : XK} {us : List Value} {vs : List V}
    (S : FnScope N ps scope) (hd : A.handled = none) (e0 : Env0 P w K mg base A outer s H) (hl : vs.length = ps.length) (r : Vals vs us)
    (x : InCallC s s.heap.objs.size (bindL (envOfC qual scope s.heap.objs.size f cd).kindOf (ps.zip us) fun _ => none) (cellsFrom (s.heap.objs.size + 1) scope.names []) (bindC (envOfC qual scope s.heap.objs.size f cd).kindOf (ps.zip us) fun _ => none) s1) :
    Inv (cxOf CX P w K mg base N qual scope f cd A outer s H E) [] (start N vs) H s1 := by
  have hpl : ps.length ≤ N.length := by have := congrArg List.length S.pre; rw [List.length_take] at this; omega
  obtain ⟨h1, tk, rfl, hk⟩ := x.done
  have noA : ∀ b : Addr, b ∉ (cxOf CX P w K mg base N qual scope f cd A outer s H E).ex := fun b z => absurd (show b ∈ ([] : List Addr) from z) (by simp)
  refine ⟨⟨e0.mod, S.kind, rfl, rfl, Nat.le_refl _, fun y z c h1 h2 => ?_, fun y hy => ?_, fun y c _ h => ?_, fun _ => hd, Around.frames_deeper e0.frames, .inr ⟨rfl, rfl⟩, fun b z => absurd z (noA b), e0.bs, e0.bsz, fun b _ _ => noA b, fun b z => absurd z (noA b), e0.funs, e0.frf⟩,
    rfl, e0.bare, Un.kept hk, ⟨_, x.toInCall.ns, fun i y v h1 h2 h3 => ?_⟩, fun y c h => ⟨_, x.cell y c h⟩, e0.hok.fresh (Nat.le_refl _), fun y c h => ?_, fun p hp => absurd (show p ∈ ([] : List (Addr × Obj)) from hp) (by simp), e0.hok.kept hk, ?_⟩
  · exact name_of_addr x.apart (PySem.mem_of_lookup h1) (PySem.mem_of_lookup h2)
  · have hy : scope.names.lookup y = some .cell ∨ scope.names.lookup y = some .free := hy
    rcases hy with hy | hy
    · exact cell_has hy
    · exact absurd rfl (S.nofree _ (PySem.mem_of_lookup hy))
  · exact Nat.le_of_lt (x.above y c (PySem.mem_of_lookup h))
  · have hi : i < vs.length := by
      unfold start at h2
      by_cases hi : i < vs.length
      · exact hi
      · rw [List.getElem?_append_right (by simpa using hi)] at h2
        rw [List.getElem?_replicate] at h2
        split at h2 <;> cases h2
    have ha : vs[i]? = some v := by
      unfold start at h2
      rw [List.getElem?_append_left (by simpa using hi), List.getElem?_map] at h2
      cases e : vs[i]? with
      | none => rw [e] at h2; cases h2
      | some a => rw [e] at h2; cases h2; rfl
    obtain ⟨u, hu, rv⟩ := r.get ha
    have hp : ps[i]? = some y := by
      rw [← S.pre, List.getElem?_take_of_lt (by omega)]; exact h1
    have ndP : ps.Nodup := by rw [← S.pre]; exact S.nd.sublist (List.take_sublist _ _)
    refine ⟨u, rv, ?_⟩
    rcases S.par y (List.mem_of_getElem? hp) with k | k
    · exact .inl ⟨k, bindL_get ndP hp hu k⟩
    · obtain ⟨c, e⟩ := cell_has (n := s.heap.objs.size + 1) k
      refine .inr ⟨.inl k, c, e, ?_⟩
      have q := x.cell y c e
      rw [bindC_get ndP hp hu (by show scope.names.lookup y ≠ _; rw [k]; decide)] at q
      exact q
  · exact e0.hok.fresh (Nat.le_of_lt (x.above y c (PySem.mem_of_lookup h)))
  · unfold start
    show _ = N.length
    rw [List.length_append, List.length_map, List.length_replicate]
    omega
theorem fn_of {CX : CXT} {P : Program} {w : World} {K : PySem.W.Frag} {mg : Str → Option Value} {base : Heap} {k : Nat} {f : Addr} {name qual : Str} {params : Arguments} {body : List Stmt} {scope : Scope} {dV kV doc pm cdv ct oc : Value} {an od : Option Addr}
    {osl : Array (Option Value)} {N ps : List Str} {sp : Sp} (lk : K.lookup f = some ⟨oc, od, .func (PySem.W.fnOf name qual params body scope dV kV doc pm an cdv ct), osl⟩) (hcd : PySem.W.codeIn K cdv qual = true) (S : FnScope N ps scope)
    (len : ∀ vs H Q E, sp vs H Q E → vs.length = ps.length)
    (hbody : ∀ (A : Around) (outer : List Env) (s : Shared) (H : Hp) (vs : List V) (Q : VK) (E : XK), Room k (A.deeper (envOfC qual scope s.heap.objs.size f cdv)) → sp vs H Q E →
      ∃ t, PSs (cxOf CX P w K mg base N qual scope f cdv A outer s H E) body t ∧ t { nx := fun _ H' => Q .non H', rt := Q } (start N vs) H) :
    FnOk P w K mg base CX (k + 1) f (PySem.W.fnOf name qual params body scope dV kV doc pm an cdv ct) ps sp := by
  refine ⟨len, fun A outer s H args us vs Q E hr e0 hb r hsp => ?_⟩
  have hl := len _ _ _ _ hsp
  have KX : K.In s.heap := e0.mod.kin.keeps fun b o e => (e0.bs b o e).1
  have lim : s.heap.NoLimit := e0.mod.nolimit.keeps fun b o e => (e0.bs b o e).1
  have hkind : ∀ y ∈ ps.zip us, scope.names.lookup y.1 = some .local ∨ (scope.names.lookup y.1 = some .cell ∧ ((cellsFrom (s.heap.objs.size + 1) scope.names []).lookup y.1).isSome = true) := fun ⟨n, v⟩ hy => by
    rcases S.par n (List.of_mem_zip hy).1 with q | q
    · exact .inl q
    · exact .inr ⟨q, PySem.W.cellsFrom_some _ _ _ (.inl q)⟩
  refine codeAny_call_function hr.depth (KX _ _ lk) rfl S.co S.gen rfl (PySem.W.codeRec_of KX hcd) (hb _ _ _ _ ?_)
  refine wpAny_newFunctionEnv_cells S.kind hkind fun env he s1 x => ?_
  subst he
  refine ⟨lim.keeps x.toInCall.keep, codeAny_func ?_⟩
  obtain ⟨t, ht, hq⟩ := hbody A outer s H vs Q E (hr.deeper _) hsp
  have I : Inv (cxOf CX P w K mg base N qual scope f cdv A outer s H E) [] (start N vs) H s1 := inv_start S hr.hd e0 hl r x
  refine wpAny_mono (ht [] s1 (start N vs) H _ I hq) (fun fl s' hs => ?_) fun e s' hs => hs
  have fin : ∀ {σ' : St} {H' : Hp} {v : V} {u : Value}, Inv (cxOf CX P w K mg base N qual scope f cdv A outer s H E) [] σ' H' s' → RelV v u → Q v H' → CE outer P w H s Q u s' :=
    fun {σ' H' v u} J rv q => ⟨v, H', J.os, J.bare, J.base, J.hok, rv, q⟩
  cases fl with
  | ret u =>
    obtain ⟨v, σ', H', J, rv, q⟩ := hs
    exact fin J rv q
  | next =>
    obtain ⟨σ', H', J, q⟩ := hs
    exact fin (v := V.non) (u := Value.none) J rfl q
  | brk =>
    obtain ⟨_, _, _, q⟩ := hs
    exact False.elim q
  | cont =>
    obtain ⟨_, _, _, q⟩ := hs
    exact False.elim q
end L2
namespace L2
open PySem PySem.Spec PyProof.Rows
section
variable {X : Cx} {x : Str} {p pos : Pos} {e : Expr} {es : List Expr} {t : TA} {id T : String} {r : List V → Hp → VK → Prop}
def tCB (r : List V → Hp → VK → Prop) (t : TA) : TE := fun σ H Q => t σ H fun vs H1 => r vs H1 Q
theorem pe_callB (hc : CallR X (.builtin id) r) (hg : Gl X x) (hm : X.mg x = none) (hv : bootBuiltins x = some (.builtin id)) (ha : PA X (e :: es) t) (hn : x ≠ "__name__" := by decide) (hdb : (x == ("__debug__" : Str)) = false := by decide)
    (he : starEach (e :: es) X.env = (false, eval e X.env) :: starEach es X.env := by rfl) (hpl : (backTo pos (starEach es X.env)).any (·.1) = false := by rfl) : PE X (.Call (.Name x p) (e :: es) [] pos) (tCB r t) := by
  intro pins s σ H Q I h
  refine wpAny_Call_Name_kw (ld_blt I hg hm hv ?_ hn hdb)
  exact PyProof.Rows.callWith_builtin1 (thn (ha pos pins s σ H _ I h) fun us s1 ⟨vs, H1, I1, r1, q1⟩ => hc pins s1 σ H1 vs us Q I1 r1 q1) he hpl
theorem pe_callTy (hc : CallR X (.type T) r) (hg : Gl X x) (hm : X.mg x = none) (hv : bootBuiltins x = some (.type T)) (ha : PA X (e :: es) t) (hn : x ≠ "__name__" := by decide) (hdb : (x == ("__debug__" : Str)) = false := by decide)
    (he : starEach (e :: es) X.env = (false, eval e X.env) :: starEach es X.env := by rfl) (hpl : (backTo pos (starEach es X.env)).any (·.1) = false := by rfl) : PE X (.Call (.Name x p) (e :: es) [] pos) (tCB r t) := by
  intro pins s σ H Q I h
  refine wpAny_Call_Name_kw (ld_blt I hg hm hv ?_ hn hdb)
  exact PyProof.Rows.callWith_type1 (thn (ha pos pins s σ H _ I h) fun us s1 ⟨vs, H1, I1, r1, q1⟩ => hc pins s1 σ H1 vs us Q I1 r1 q1) he hpl
end
end L2
namespace HT
open PySem PyProof.Rows
section
open PySem.SeqAt
open PySem.AutoSeq1 (wpAny_loadPart')
open PySem.MeetsSeq PySem.MeetsSeq2 PySem.MeetsSeq3
end
section
variable {prog : Program} {w : World} {A : Around} {E : Value → Shared → Prop} {s : Shared}
def sIx (n d : Nat) : Option Int → Nat
  | none => d
  | some v => if v < 0 then (v + (n : Int)).toNat else min v.toNat n
theorem sIx_none (n d : Nat) : sIx n d none = d := rfl
theorem sIx_nat (n d k : Nat) : sIx n d (some (k : Int)) = min k n := by
  show (if (k : Int) < 0 then ((k : Int) + (n : Int)).toNat else min (k : Int).toNat n) = min k n
  rw [if_neg (by omega), Int.toNat_natCast]
end
end HT
namespace L2
open PySem PySem.Spec PyProof.Rows
abbrev TO := St → Hp → (Option Int → Hp → Prop) → Prop
def PO (X : Cx) (e : Option Expr) (t : TO) : Prop :=
  ∀ (pins : List (Addr × Obj)) (s : Shared) (σ : St) (H : Hp) (Q : Option Int → Hp → Prop), Inv X pins σ H s → t σ H Q →
    wpAny (model X.prog X.w) X.A (evalPart e X.env) (fun u s' => ∃ o H', Inv X pins σ H' s' ∧ IsPart u o ∧ Q o H') X.xe s
def tNoPart : TO := fun _ H Q => Q none H
def tPart (t : TE) : TO := fun σ H Q => t σ H fun x H1 => ∃ i, x = .int i ∧ Q (some i) H1
section
variable {X : Cx} {e : Expr} {te : TE} {lo hi : Option Expr} {tl th : TO} {pos p2 : Pos}
theorem po_none : PO X none tNoPart := by
  intro pins s σ H Q I h
  rw [evalPart_none]
  exact wpAny_pure ⟨none, H, I, .none, h⟩
theorem po_some (h : PE X e te) : PO X (some e) (tPart te) := by
  intro pins s σ H Q I hw
  rw [evalPart_some]
  refine thn (h pins s σ H _ I hw) fun u s1 ⟨x, H1, I1, r1, q1⟩ => ?_
  obtain ⟨i, rfl, q⟩ := q1
  obtain ⟨t, rfl⟩ := r1
  exact ⟨some i, H1, I1, .int i t, q⟩
def SlR (X : Cx) (r : V → Option Int → Option Int → Hp → VK → Prop) : Prop :=
  ∀ (pins : List (Addr × Obj)) (s : Shared) (σ : St) (H : Hp) (x : V) (v vl vu : Value) (lo hi : Option Int) (sl : Addr) (Q : VK), Inv X pins σ H s → RelV x v → s.heap.IsSliceOf sl vl vu .none → IsPart vl lo → IsPart vu hi → r x lo hi H Q →
    ∃ T id, typeLookup (.type T) "__getitem__" = pure (some (.builtin id)) ∧ s.TypeIs v T ∧ wpAny (model X.prog X.w) X.A (getItem v (.ref sl)) (EP X pins σ Q) X.xe s
def tSl (r : V → Option Int → Option Int → Hp → VK → Prop) (te : TE) (tl th : TO) : TE := fun σ H Q => te σ H fun x H1 => tl σ H1 fun l H2 => th σ H2 fun u H3 => r x l u H3 Q
theorem pe_slice {r : V → Option Int → Option Int → Hp → VK → Prop} (hr : SlR X r) (he : PE X e te) (hl : PO X lo tl) (hu : PO X hi th) : PE X (.Subscript e (.Slice lo hi none p2) pos) (tSl r te tl th) := by
  intro pins s σ H Q I h
  refine Subscript_ (thn (he pins s σ H _ I h) fun v s1 ⟨x, H1, I1, r1, q1⟩ => ?_)
  refine wpAny_Slice (thn (hl pins s1 σ H1 _ I1 q1) fun vl s2 ⟨l, H2, I2, pl, q2⟩ => thn (hu pins s2 σ H2 _ I2 q2) fun vu s3 ⟨u, H3, I3, pu, q3⟩ => ?_)
  rw [evalPart_none]
  refine wpAny_pure ?_
  have I4 : Inv X pins σ H3 { s3 with heap := s3.heap.push { cls := .type "slice", data := .fields #[vl, vu, .none] } } := I3.kept (t' := s3.toks) fun b ob q => Heap.get?_push_of_some _ q
  obtain ⟨T, id, hT, ht, hg⟩ := hr pins { s3 with heap := s3.heap.push { cls := .type "slice", data := .fields #[vl, vu, .none] } } σ H3 x v vl vu l u s3.heap.objs.size Q I4 r1 (Heap.IsSliceOf.new ..) pl pu q3
  show wpAny (model X.prog X.w) X.A (subscriptTail e (.Slice lo hi none p2) v (.ref s3.heap.objs.size)) (EP X pins σ Q) X.xe { s3 with heap := s3.heap.push { cls := .type "slice", data := .fields #[vl, vu, .none] } }
  exact tail_any (ops := [.ref s3.heap.objs.size, v]) ht hT hg (by with_unfolding_all rfl)
def cutV (xs : List V) (lo hi : Option Int) : List V := (xs.drop (HT.sIx xs.length 0 lo)).take (HT.sIx xs.length xs.length hi - HT.sIx xs.length 0 lo)
theorem cutV_length (xs : List V) (lo hi : Option Int) : (cutV xs lo hi).length ≤ xs.length := by
  unfold cutV
  rw [List.length_take, List.length_drop]
  omega
end
end L2
namespace L2
open PySem PySem.Spec PyProof.Rows
def ixN (n : Nat) (i : Int) : Option Nat := if 0 ≤ i then (if i < n then some i.toNat else none) else if -(n : Int) ≤ i then some (i + n).toNat else none
def atI {α : Type} (xs : List α) (i : Int) : Option α := (ixN xs.length i).bind fun j => xs[j]?
theorem ixN_seq {n : Nat} {i : Int} {j : Nat} (h : ixN n i = some j) : seqIndex? i n = some j ∧ j < n ∧ -(n : Int) ≤ i ∧ i < n := by
  unfold ixN at h
  by_cases h0 : 0 ≤ i
  · rw [if_pos h0] at h
    by_cases h1 : i < n
    · rw [if_pos h1] at h
      have e : i.toNat = j := Option.some.inj h
      exact ⟨by rw [seqIndex_of h0 h1, e], by omega, by omega, h1⟩
    · rw [if_neg h1] at h; cases h
  · rw [if_neg h0] at h
    by_cases h1 : -(n : Int) ≤ i
    · rw [if_pos h1] at h
      have e : (i + n).toNat = j := Option.some.inj h
      exact ⟨by rw [seqIndex_neg (by omega) h1, e], by omega, h1, by omega⟩
    · rw [if_neg h1] at h; cases h
theorem atI_get {α : Type} {xs : List α} {i : Int} {v : α} (h : atI xs i = some v) : ∃ j, seqIndex? i xs.length = some j ∧ xs[j]? = some v ∧ j < xs.length ∧ -(xs.length : Int) ≤ i ∧ i < xs.length := by
  unfold atI at h
  cases e : ixN xs.length i with
  | none => rw [e] at h; cases h
  | some j =>
    rw [e] at h
    obtain ⟨h1, h2, h3, h4⟩ := ixN_seq e
    exact ⟨j, h1, h, h2, h3, h4⟩
theorem atI_nat {α : Type} {xs : List α} {j : Nat} {v : α} (h : xs[j]? = some v) : atI xs (j : Int) = some v := by
  have hj : j < xs.length := (List.getElem?_eq_some_iff.mp h).1
  have e : ixN xs.length (j : Int) = some j := by
    unfold ixN
    rw [if_pos (by omega), if_pos (by omega)]; simp
  unfold atI; rw [e]; exact h
def PlainIx (b : Expr) : Prop := ∀ o i, subscripted b false o i = operate [o, i] (getItem o i)
def IxR (X : Cx) (r : R2) : Prop :=
  ∀ (value slice : Expr) (pins : List (Addr × Obj)) (s : Shared) (σ : St) (H : Hp) (x y : V) (v u : Value) (Q : VK), Inv X pins σ H s → RelV x v → RelV y u → r x y H Q →
    subscripted slice false v u = operate [v, u] (getItem v u) → wpAny (model X.prog X.w) X.A (subscriptTail value slice v u) (EP X pins σ Q) X.xe s
def MtR (X : Cx) (id : String) (r : V → List V → Hp → VK → Prop) : Prop :=
  ∀ (pins : List (Addr × Obj)) (s : Shared) (σ : St) (H : Hp) (x : V) (xs : List V) (v : Value) (us : List Value) (Q : VK), Inv X pins σ H s → RelV x v → Vals xs us → r x xs H Q →
    wpAny (model X.prog X.w) X.A (call (.builtin id) (v :: us)) (EP X pins σ Q) X.xe s
section
variable {X : Cx} {a b : Expr} {ta tb : TE} {pos : Pos}
theorem pe_ix {r : R2} (hr : IxR X r) (ha : PE X a ta) (hb : PE X b tb) (hs : PlainIx b) : PE X (.Subscript a b pos) (tOp r ta tb) := by
  intro pins s σ H Q I h
  exact Subscript_ (binT ha hb I h fun v u s2 x y H2 I2 rx ry q => hr a b pins s2 σ H2 x y v u Q I2 rx ry q (hs _ _))
def rIxL (K : PySem.W.Frag) : R2 := fun x y H Q => ∃ p xs i v, x = .ref p ∧ y = .int i ∧ SqL K H p xs ∧ atI xs i = some v ∧ Q v H
def rIxT (K : PySem.W.Frag) : R2 := fun x y H Q => ∃ p xs i v, x = .ref p ∧ y = .int i ∧ SqT K H p xs ∧ atI xs i = some v ∧ Q v H
theorem ix_list : IxR X (rIxL X.K) := by
  intro value slice pins s σ H x y v u Q I rx ry h hs
  obtain ⟨p, xs, i, z, rfl, rfl, hq, he, q⟩ := h
  cases rx
  obtain ⟨t, rfl⟩ := ry
  obtain ⟨its, r, pl, hz⟩ := I.list hq
  obtain ⟨j, h1, h2, h3, h4, h5⟩ := atI_get he
  obtain ⟨w, ew, rw'⟩ := r.get h2
  have hl := r.length
  have hn := line63
  have fin : EP X pins σ Q w s := ⟨z, H, I, rw', q⟩
  by_cases h0 : 0 ≤ i
  · have hj : i.toNat = j := by
      rw [seqIndex_of h0 h5] at h1
      exact Option.some.inj h1
    exact item_listR pl.isList h0 (by omega) (by rw [hj]; simpa using ew) fin hs
  · have hj : (i + (its.toArray.size : Int)).toNat = j := by
      rw [seqIndex_neg (by omega) h4] at h1
      rw [List.size_toArray, ← hl]
      exact Option.some.inj h1
    exact subscriptTail_builtinR (x := w) pl.isList.typeIs slot_list_getitem.lookup
      (wpAny_getItem_list_neg (Q := fun r s' => r = w ∧ EP X pins σ Q r s') pl.isList (by omega) (by rw [List.size_toArray] <;> omega) (by omega) (by rw [hj]; simpa using ew) ⟨rfl, fin⟩) hs
theorem ix_tup : IxR X (rIxT X.K) := by
  intro value slice pins s σ H x y v u Q I rx ry h hs
  obtain ⟨p, xs, i, z, rfl, rfl, hq, he, q⟩ := h
  cases rx
  obtain ⟨t, rfl⟩ := ry
  obtain ⟨its, r, pl, hz⟩ := I.tuple hq
  obtain ⟨j, h1, h2, h3, h4, h5⟩ := atI_get he
  obtain ⟨w, ew, rw'⟩ := r.get h2
  have hl := r.length
  have hn := line63
  have fin : EP X pins σ Q w s := ⟨z, H, I, rw', q⟩
  exact subscriptTail_builtinR (x := w) pl.typeIs slot_tuple_getitem.lookup
    (getItem_tuple (j := j) (Q := fun r s' => r = w ∧ EP X pins σ Q r s') pl (by omega) (by omega) (by rw [List.size_toArray, ← hl]; exact h1) (by simpa using ew) ⟨rfl, fin⟩) hs
theorem Inv.lst {pins : List (Addr × Obj)} {σ : St} {H : Hp} {s : Shared} {p : Addr} {xs : List V} (I : Inv X pins σ H s) (h : H p = some (.lst xs)) :
    ∃ (its : List Value) (n : Nat), Vals xs its ∧ s.heap.get? p = some { cls := .type "list", data := .seq its.toArray n } ∧ xs.length ≤ sizeLine := by
  obtain ⟨z, its, n, r, e⟩ := I.hok p _ h
  exact ⟨its, n, r, e, z⟩
theorem slice_bounds (lo hi : Option Int) (n : Nat) : (sliceBounds lo hi none n).1 = ((HT.sIx n 0 lo : Nat) : Int) ∧ (sliceBounds lo hi none n).2.1 = ((HT.sIx n n hi : Nat) : Int) ∧ (sliceBounds lo hi none n).2.2 = 1 := by
  refine ⟨?_, ?_, rfl⟩
  · cases lo with
    | none => simp [sliceBounds, HT.sIx]
    | some i =>
      simp only [sliceBounds, HT.sIx, Option.getD_none, show (1 : Int) > 0 by decide, if_true]
      by_cases h : i < 0
      · simp only [h, if_true] <;> omega
      · simp only [h, if_false] <;> omega
  · cases hi with
    | none => simp [sliceBounds, HT.sIx]
    | some i =>
      simp only [sliceBounds, HT.sIx, Option.getD_none, show (1 : Int) > 0 by decide, if_true]
      by_cases h : i < 0
      · simp only [h, if_true] <;> omega
      · simp only [h, if_false] <;> omega
theorem slicePick_cut (its : List Value) (lo hi : Option Int) : slicePick its.toArray lo hi none = ((its.drop (HT.sIx its.length 0 lo)).take (HT.sIx its.length its.length hi - HT.sIx its.length 0 lo)).toArray := by
  obtain ⟨h1, h2, h3⟩ := slice_bounds lo hi its.toArray.size
  unfold slicePick
  rw [h1, h2, h3]
  simp only [sliceRange_one, pick_run, List.size_toArray] <;> rfl
def rSlL (K : PySem.W.Frag) : V → Option Int → Option Int → Hp → VK → Prop := fun x lo hi H Q => ∃ a xs, x = .ref a ∧ SqL K H a xs ∧ ∀ p, H p = none → Q (.ref p) (upd H p (.lst (cutV xs lo hi)))
theorem sl_list : SlR X (rSlL X.K) := by
  intro pins s σ H x v vl vu lo hi sl Q I rx hs pl pu h
  obtain ⟨a, xs, rfl, hx, q⟩ := h
  cases rx
  obtain ⟨its, r, ht, hz⟩ := I.list hx
  have hlen := r.length
  refine ⟨"list", _, slot_list_getitem.lookup, ht.isList.typeIs, ?_⟩
  refine wpAny_getItem_list_slice ht.isList hs pl pu .none (by simp) ?_ (by rw [List.size_toArray] <;> omega)
  rw [slicePick_cut, ← hlen]
  refine ⟨.ref s.heap.objs.size, _, I.laid (t' := s.toks) (o := .lst (cutV xs lo hi)) (fun b ob q => Heap.get?_push_of_some _ q) (Nat.le_refl _) ?_, rfl, q _ (I.hok.fresh (Nat.le_refl _))⟩
  exact ⟨Nat.le_trans (cutV_length xs lo hi) hz, _, 0, (r.drop (HT.sIx xs.length 0 lo)).take (HT.sIx xs.length xs.length hi - HT.sIx xs.length 0 lo), Heap.get?_push_size _ rfl⟩
def flatV : V → Bool
  | .int _ => true
  | _ => false
def eqV : V → V → Bool
  | .int a, .int b => a == b
  | _, _ => false
theorem eqAt_V {A : Around} {s : Shared} {y x : V} {u v : Value} (ry : RelV y u) (rx : RelV x v) (fy : flatV y = true) (fx : flatV x = true) : SeqAt.EqAt A s u v (eqV y x) := by
  cases y with
  | int a =>
    obtain ⟨t', rfl⟩ := ry
    cases x with
    | int b => obtain ⟨t, rfl⟩ := rx; exact SeqAt.EqAt.int_int a t' b t
    | _ => exact absurd (show false = true from fx) Bool.false_ne_true
  | _ => exact absurd (show false = true from fy) Bool.false_ne_true
def eqU (x : V) (u : Value) : Bool := match u with
  | .int i _ => eqV (.int i) x
  | _ => false
theorem eqU_of {x y : V} {u : Value} (r : RelV y u) (f : flatV y = true) : eqU x u = eqV y x := by
  cases y with
  | int i => obtain ⟨t, rfl⟩ := r; rfl
  | _ => exact absurd (show false = true from f) Bool.false_ne_true
theorem any_eqU {x : V} : ∀ {xs : List V} {us : List Value}, Vals xs us → xs.all flatV = true → us.any (eqU x) = xs.any fun y => eqV y x
  | _, _, .nil, _ => rfl
  | y :: xs, u :: us, .cons r t, f => by
    rw [List.all_cons, Bool.and_eq_true] at f
    rw [List.any_cons, List.any_cons, eqU_of r f.1, any_eqU t f.2]
theorem mem_eqAt {A : Around} {s : Shared} {x : V} {v : Value} (rx : RelV x v) (fx : flatV x = true) : ∀ {xs : List V} {us : List Value}, Vals xs us → xs.all flatV = true → ∀ u ∈ us, SeqAt.EqAt A s u v (eqU x u)
  | _, _, .nil, _ => fun u hu => by cases hu
  | y :: xs, u :: us, .cons r t, f => fun u' hu => by
    rw [List.all_cons, Bool.and_eq_true] at f
    rcases List.mem_cons.mp hu with rfl | hu
    · rw [eqU_of r f.1]; exact eqAt_V r rx f.1 fx
    · exact mem_eqAt rx fx t f.2 u' hu
def inV (x : V) (xs : List V) : Bool := xs.any fun y => eqV y x
def rIn (K : PySem.W.Frag) (neg : Bool) : R2 := fun x y H Q => ∃ p xs, y = .ref p ∧ (SqL K H p xs ∨ SqT K H p xs) ∧ flatV x = true ∧ xs.all flatV = true ∧ Q (.bl (if neg then !inV x xs else inV x xs)) H
theorem op_in_seq : OpR X (compareOp .In) (rIn X.K false) := by
  intro pins s σ H x y v u Q I rx ry h
  obtain ⟨p, xs, rfl, hq, fx, fs, q⟩ := h
  cases ry
  rcases hq with hq | hq
  · obtain ⟨its, r, pl, hz⟩ := I.list hq
    refine SeqAt.in_listAt (eqU x) pl.isList (fun w hw => mem_eqAt rx fx r fs w (by simpa using hw)) ⟨.bl _, H, I, rfl, ?_⟩
    rw [show its.toArray.any (eqU x) = its.any (eqU x) by simp, any_eqU r fs]
    exact q
  · obtain ⟨its, r, pl, hz⟩ := I.tuple hq
    refine SeqAt.in_tupleAt (eqU x) pl (fun w hw => mem_eqAt rx fx r fs w (by simpa using hw)) ⟨.bl _, H, I, rfl, ?_⟩
    rw [show its.toArray.any (eqU x) = its.any (eqU x) by simp, any_eqU r fs]
    exact q
theorem call_len_seq : CallR X (.builtin "len") (fun xs H Q => ∃ p ys, xs = [.ref p] ∧ (SqL X.K H p ys ∨ SqT X.K H p ys) ∧ Q (.int ys.length) H) := by
  intro pins s σ H xs us Q I r h
  obtain ⟨p, ys, rfl, hq, q⟩ := h
  obtain ⟨u, rfl, rx⟩ := vals1 r
  cases rx
  have hn := line63
  rcases hq with hq | hq
  · obtain ⟨its, r', pl, hz⟩ := I.list hq
    have hlen := r'.length
    exact Calls.call_len_list pl.isList (by simp only [List.size_toArray] <;> omega) ⟨.int ys.length, H, I.tok _, ⟨s.toks + 1, by rw [List.size_toArray, hlen]⟩, q⟩
  · obtain ⟨its, r', pl, hz⟩ := I.tuple hq
    have hlen := r'.length
    exact len_tuple pl (by simp only [List.size_toArray] <;> omega) ⟨.int ys.length, H, I.tok _, ⟨s.toks + 1, by rw [List.size_toArray, hlen]⟩, q⟩
theorem call_list_of : CallR X (.type "list") (fun xs H Q => ∃ p ys, xs = [.ref p] ∧ (SqL X.K H p ys ∨ SqT X.K H p ys) ∧ ∀ l, H l = none → Q (.ref l) (upd H l (.lst ys))) := by
  intro pins s σ H xs us Q I r h
  obtain ⟨p, ys, rfl, hq, q⟩ := h
  obtain ⟨u, rfl, rx⟩ := vals1 r
  cases rx
  have fin : ∀ (its : List Value), Vals ys its → ys.length ≤ sizeLine → ∀ (h' : Heap) (c' : Nat), (∀ b o', s.heap.get? b = some o' → h'.get? b = some o') →
      h'.get? s.heap.objs.size = some { cls := .type "list", dict := none, data := .seq its.toArray c', slots := #[] } → EP X pins σ Q (.ref s.heap.objs.size) { s with heap := h' } := fun its r' hz h' c' kp e =>
    ⟨.ref s.heap.objs.size, _, I.laid (t' := s.toks) kp (Nat.le_refl _) (show ObjOk X.prog X.w _ h' _ (.lst ys) from ⟨hz, its, c', r', e⟩), rfl, q _ (I.hok.fresh (Nat.le_refl _))⟩
  rcases hq with hq | hq
  · obtain ⟨its, r', pl, hz⟩ := I.list hq
    have hlen := r'.length
    obtain ⟨o, ho, hc, n, hd⟩ := pl.isList
    exact call_list_seq p (.inl rfl) ho hc hd (fun h' c' kp e => fin its r' hz h' c' kp e) (by simp only [List.size_toArray] <;> omega)
  · obtain ⟨its, r', pl, hz⟩ := I.tuple hq
    have hlen := r'.length
    obtain ⟨o, ho, hc, n, hd⟩ := pl
    exact call_list_seq p (.inr rfl) ho hc hd (fun h' c' kp e => fin its r' hz h' c' kp e) (by simp only [List.size_toArray] <;> omega)
def tyV (K : PySem.W.Frag) (T : String) (x : V) (H : Hp) : Prop := match x with
  | .str _ => T = "str"
  | .int _ => T = "int"
  | .ref p => (T = "list" ∧ ∃ xs, SqL K H p xs) ∨ (T = "tuple" ∧ ∃ o, K.lookup p = some o ∧ o.cls = .type "tuple" ∧ o.dict = none) ∨
      (T = "dict" ∧ ((∃ kvs, H p = some (.dK kvs)) ∨ ∃ kvs, H p = some (.dT kvs))) ∨ (T = "set" ∧ ∃ S n, H p = some (.set S n))
  | _ => False
theorem tyV_is {pins : List (Addr × Obj)} {σ : St} {H : Hp} {s : Shared} {T : String} {x : V} {v : Value} (I : Inv X pins σ H s) (r : RelV x v) (ty : tyV X.K T x H) :
    s.TypeIs v T ∧ ∀ a, v = .ref a → ∃ ob, s.heap.get? a = some ob ∧ ob.dict = none := by
  cases x with
  | str z =>
    obtain ⟨t, rfl⟩ := r
    cases (show T = "str" from ty)
    exact ⟨typeIs_str s z t, fun _ e => nomatch e⟩
  | int i =>
    obtain ⟨t, rfl⟩ := r
    cases (show T = "int" from ty)
    exact ⟨typeIs_int s i t, fun _ e => nomatch e⟩
  | ref p =>
    cases r
    rcases ty with ⟨rfl, xs, hq⟩ | ⟨rfl, o, hk, hc, hd⟩ | ⟨rfl, hk⟩ | ⟨rfl, S, n, hk⟩
    · obtain ⟨its, _, pl, _⟩ := I.list hq
      refine ⟨pl.isList.typeIs, fun a e => ?_⟩
      cases e
      obtain ⟨o, n, e, c, hd, _⟩ := pl
      exact ⟨o, e, hd⟩
    · refine ⟨⟨o, I.kIn p o hk, hc⟩, fun a e => ?_⟩
      cases e
      exact ⟨o, I.kIn _ o hk, hd⟩
    · have z : ∃ o, s.heap.get? p = some o ∧ o.ExactDict := by
        rcases hk with ⟨kvs, hk⟩ | ⟨kvs, hk⟩
        · obtain ⟨_, _, _, _, o, _, _, e, ex, _⟩ := I.hok p _ hk
          exact ⟨o, e, ex⟩
        · obtain ⟨_, _, _, _, o, _, _, e, ex, _⟩ := I.hok p _ hk
          exact ⟨o, e, ex⟩
      obtain ⟨o, e, ex⟩ := z
      refine ⟨⟨o, e, ex.1⟩, fun a e2 => ?_⟩
      cases e2
      exact ⟨o, e, ex.2.1⟩
    · obtain ⟨o, _, _, _, e, ex, _⟩ := I.hok p _ hk
      refine ⟨⟨o, e, ex.1⟩, fun a e2 => ?_⟩
      cases e2
      exact ⟨o, e, ex.2.1⟩
  | _ => exact False.elim ty
def tBM0 (K : PySem.W.Frag) (T : String) (r : V → List V → Hp → VK → Prop) (to : TE) : TE := fun σ H Q => to σ H fun x H1 => tyV K T x H1 ∧ r x [] H1 Q
def tBM (K : PySem.W.Frag) (T : String) (r : V → List V → Hp → VK → Prop) (to : TE) (t : TA) : TE := fun σ H Q => to σ H fun x H1 => tyV K T x H1 ∧ t σ H1 fun xs H2 => r x xs H2 Q
variable {o e : Expr} {es : List Expr} {to : TE} {t : TA} {name : Str} {apos cpos : Pos} {T id : String} {r : V → List V → Hp → VK → Prop}
theorem pe_bm0 (pa : PlainAttrs T) (slot : Slot T name id) (hty : typeOf (.builtin id) = pure (.type "method_descriptor")) (hm : MtR X id r) (ho : PE X o to)
    (hbase : attributeBase o name X.env (eval o X.env) = eval o X.env := by rfl) (hline : (apos.endLine == cpos.line) = true := by rfl) : PE X (.Call (.Attribute o name apos) [] [] cpos) (tBM0 X.K T r to) := by
  intro pins s σ H Q I h
  refine wpAny_Call_method0_late hbase hline (thn (ho pins s σ H _ I h) fun v s1 ⟨x, H1, I1, r1, ty, q1⟩ => ?_)
  obtain ⟨h1, h2⟩ := tyV_is I1 r1 ty
  exact ⟨T, id, pa, slot, hty, h1, h2, Calls.callWith_builtin rfl (PySem.evalArgs_none (hm pins s1 σ H1 x [] v [] Q I1 r1 .nil q1))⟩
theorem pe_bm (pa : PlainAttrs T) (slot : Slot T name id) (hty : typeOf (.builtin id) = pure (.type "method_descriptor")) (hm : MtR X id r) (ho : PE X o to) (ha : PA X (e :: es) t)
    (hbase : attributeBase o name X.env (eval o X.env) = eval o X.env := by rfl)
    (hfew : ((backTo cpos (starEach (e :: es) X.env)).all (fun x => !x.1) && (backToKw cpos (keywordEach [] X.env)).all (fun x => x.1.isSome)
      && decide ((e :: es).length + ([] : List Keyword).length + (if ([] : List Keyword).isEmpty then 0 else 1) < 30)) = true := by rfl)
    (hline : (apos.endLine == cpos.line) = true := by rfl) (hs : starEach (e :: es) X.env = (false, eval e X.env) :: starEach es X.env := by rfl) (hplain : (backTo cpos (starEach es X.env)).any (·.1) = false := by rfl) :
    PE X (.Call (.Attribute o name apos) (e :: es) [] cpos) (tBM X.K T r to t) := by
  intro pins s σ H Q I h
  refine wpAny_Call_method_late hbase hfew hline rfl (thn (ho pins s σ H _ I h) fun v s1 ⟨x, H1, I1, r1, ty, q1⟩ => ?_)
  obtain ⟨h1, h2⟩ := tyV_is I1 r1 ty
  refine ⟨T, id, pa, slot, hty, h1, h2, ?_⟩
  have hA := ha cpos pins s1 σ H1 _ I1 q1
  rw [hs] at hA ⊢
  refine Calls.callWith_builtin (by show (false || (backTo cpos (starEach es X.env)).any (·.1)) = false; rw [hplain] <;> rfl) (Calls.evalArgs_plain ?_)
  exact thn hA fun us s2 ⟨vs, H2, I2, r2, q2⟩ => hm pins s2 σ H2 x vs v us Q I2 r1 r2 q2
/- xs.append(e), list.index on a module's tuple .. are MtR facts of 06m -/
end
end L2
namespace L2
open PySem PySem.Spec PyProof.Rows
def MtM (X : Cx) (id : String) (r : V → List V → Hp → VK → Prop) : Prop :=
  ∀ (pins : List (Addr × Obj)) (s : Shared) (σ : St) (H : Hp) (x : V) (xs : List V) (v : Value) (us : List Value) (Q : VK), Inv X pins σ H s → RelV x v → Vals xs us → r x xs H Q →
    wpAny (model X.prog X.w) X.A (call (.builtin id) (v :: us)) (EP X pins σ Q) X.xe s
theorem Vals.one : ∀ {x : V} {us : List Value}, Vals [x] us → ∃ u, us = [u] ∧ RelV x u
  | _, _, .cons r .nil => ⟨_, rfl, r⟩
theorem Vals.zero : ∀ {us : List Value}, Vals [] us → us = []
  | _, .nil => rfl
theorem Vals.dropLast {xs : List V} {us : List Value} (h : Vals xs us) : Vals xs.dropLast us.dropLast := by
  induction h with
  | nil => exact .nil
  | cons r t ih =>
    cases t with
    | nil => exact .nil
    | cons q t' => exact .cons r ih
theorem Vals.eraseIdx : ∀ {xs : List V} {us : List Value} (i : Nat), Vals xs us → Vals (xs.eraseIdx i) (us.eraseIdx i)
  | _, _, _, .nil => .nil
  | _, _, 0, .cons _ t => t
  | _, _, i + 1, .cons r t => .cons r (Vals.eraseIdx i t)
theorem Vals.rep {xs : List V} {us : List Value} (h : Vals xs us) : ∀ k : Nat, Vals (List.replicate k xs).flatten (List.replicate k us).flatten
  | 0 => .nil
  | k + 1 => by
    rw [List.replicate_succ, List.replicate_succ, List.flatten_cons, List.flatten_cons]
    exact Vals.append h (Vals.rep h k)
theorem erase_last {α : Type} (l : List α) : l.eraseIdx (l.length - 1) = l.dropLast := by
  induction l with
  | nil => rfl
  | cons a r ih =>
    cases r with
    | nil => rfl
    | cons b r =>
      have e : (a :: b :: r).length - 1 = ((b :: r).length - 1) + 1 := by
        have h1 : (a :: b :: r).length = r.length + 2 := rfl
        have h2 : (b :: r).length = r.length + 1 := rfl
        omega
      rw [e, List.eraseIdx_cons_succ, ih]
      all_goals rfl
theorem foldl_rep (its : List Value) : ∀ (k : Nat) (acc : List Value),
    List.foldl (fun x1 x2 => x1 ++ x2) acc.toArray (List.replicate k its.toArray) = (acc ++ (List.replicate k its).flatten).toArray
  | 0, acc => by simp
  | k + 1, acc => by
    have e : acc.toArray ++ its.toArray = (acc ++ its).toArray := by simp
    have e2 : (acc ++ its) ++ (List.replicate k its).flatten = acc ++ (List.replicate (k + 1) its).flatten := by
      rw [List.replicate_succ, List.flatten_cons, List.append_assoc]
    rw [← e2, ← foldl_rep its k (acc ++ its), ← e, List.replicate_succ, List.foldl_cons]
section
variable {X : Cx} {pins : List (Addr × Obj)} {σ : St} {H : Hp} {s : Shared} {l b : Addr} {xs ys zs : List V}
theorem Inv.lset {its its' : List Value} {n : Nat} {f : Array Value → Array Value} {t' : Nat} (I : Inv X pins σ H s) (hH : H l = some (.lst xs))
    (e : s.heap.get? l = some { cls := .type "list", data := .seq its.toArray n }) (hf : f its.toArray = its'.toArray) (hv : Vals ys its') (hz : ys.length ≤ sizeLine) :
    Inv X pins σ (upd H l (.lst ys)) { s with heap := s.heap.update l (Obj.mapSeq f), toks := t' } := by
  have q := PySem.IsL.update e f
  rw [hf] at q
  refine I.write (x := l) (e := l) (by rw [hH]; exact trivial) (.inl rfl) (fun b' u hb hu => (Heap.get?_update_other s.heap (Obj.mapSeq f) (Ne.symm hb)).trans hu) ⟨_, q⟩ ?_
  exact ⟨hz, its', _, hv, q⟩
theorem Inv.lnew {its : List Value} {t' : Nat} (I : Inv X pins σ H s) (hv : Vals ys its) (hz : ys.length ≤ sizeLine) :
    Inv X pins σ (upd H s.heap.objs.size (.lst ys)) { s with heap := s.heap.push { cls := .type "list", data := .seq its.toArray }, toks := t' } :=
  I.laid (fun _ _ q => Heap.get?_push_of_some _ q) (Nat.le_refl _) ⟨hz, its, 0, hv, Heap.get?_push_size _ rfl⟩
theorem Inv.fresh (I : Inv X pins σ H s) : H s.heap.objs.size = none := I.hok.fresh (Nat.le_refl _)
theorem Inv.lstM (I : Inv X pins σ H s) (hH : H l = some (.lst xs)) : xs.length ≤ sizeLine ∧ ∃ (its : List Value) (n : Nat), Vals xs its ∧ xs.length = its.length ∧ s.heap.get? l = some { cls := .type "list", data := .seq its.toArray n } := by
  obtain ⟨z, its, n, r, e⟩ := I.hok l _ hH
  exact ⟨z, its, n, r, r.length, e⟩
theorem notLongL {n : Nat} (h : n ≤ sizeLine) : Builtin.List.listTooLong n = false := by
  unfold Builtin.List.listTooLong
  exact decide_eq_false (by omega)
end
section
variable {X : Cx}
def rAppend : V → List V → Hp → VK → Prop := fun x vs H Q => ∃ l xs y, x = .ref l ∧ vs = [y] ∧ H l = some (.lst xs) ∧ xs.length < sizeLine ∧ Q .non (upd H l (.lst (xs ++ [y])))
theorem mt_append : MtM X "list.append" rAppend := by
  intro pins s σ H x vs v us Q I rx rv h
  obtain ⟨l, xs, y, rfl, rfl, hH, hz, q⟩ := h
  cases rx
  obtain ⟨u, rfl, ru⟩ := rv.one
  obtain ⟨z, its, n, r, hl, e⟩ := I.lstM hH
  refine call_meets F.slot_list_append ⟨_, e, rfl⟩ F.entry_list_append (F.args_list_append_2 _ _) (PySem.list_append l its.toArray n u (by rw [List.size_toArray]; omega)) ⟨e, ?_⟩
  refine ⟨.non, _, I.lset (its' := its ++ [u]) hH e (by simp) (r.append (.cons ru .nil)) ?_, rfl, q⟩
  rw [List.length_append, List.length_singleton]
  omega
def rExtend : V → List V → Hp → VK → Prop := fun x vs H Q => ∃ l b xs zs, x = .ref l ∧ vs = [.ref b] ∧ H l = some (.lst xs) ∧ H b = some (.lst zs) ∧ xs.length + zs.length ≤ sizeLine ∧ Q .non (upd H l (.lst (xs ++ zs)))
theorem mt_extend : MtM X "list.extend" rExtend := by
  intro pins s σ H x vs v us Q I rx rv h
  obtain ⟨l, b, xs, zs, rfl, rfl, hH, hB, hz, q⟩ := h
  cases rx
  obtain ⟨u, rfl, ru⟩ := rv.one
  cases ru
  obtain ⟨z, its, n, r, hl, e⟩ := I.lstM hH
  obtain ⟨z2, its2, n2, r2, hl2, e2⟩ := I.lstM hB
  have hsz : its.toArray.size + its2.toArray.size ≤ sizeLine := by rw [List.size_toArray, List.size_toArray]; omega
  have hlong : ¬ (!its.toArray.isEmpty && Builtin.List.listTooLong (its.toArray.size + its2.toArray.size)) = true := by
    rw [notLongL hsz, Bool.and_false]
    exact Bool.false_ne_true
  refine call_meets F.slot_list_extend ⟨_, e, rfl⟩ F.entry_list_extend (F.args_list_extend_2 _ _)
    (AutoSeq1.list_extend_list_list_0 l its.toArray n b its2.toArray n2 hlong (by rw [List.size_toArray]; omega) (by omega)) ⟨e, e2, ?_⟩
  refine ⟨.non, _, I.lset (its' := its ++ its2) hH e (by simp) (r.append r2) ?_, rfl, q⟩
  rw [List.length_append]
  omega
def rPop : V → List V → Hp → VK → Prop := fun x vs H Q => ∃ l xs y, x = .ref l ∧ vs = [] ∧ H l = some (.lst xs) ∧ xs[xs.length - 1]? = some y ∧ Q y (upd H l (.lst xs.dropLast))
theorem mt_pop : MtM X "list.pop" rPop := by
  intro pins s σ H x vs v us Q I rx rv h
  obtain ⟨l, xs, y, rfl, rfl, hH, hy, q⟩ := h
  cases rx
  have hus := rv.zero
  subst hus
  obtain ⟨z, its, n, r, hl, e⟩ := I.lstM hH
  obtain ⟨u, hu, ru⟩ := r.get hy
  have hy' : its.toArray[its.toArray.size - 1]? = some u := by
    show its.toArray[its.length - 1]? = some u
    rw [← Array.getElem?_toList, ← hl]
    exact hu
  refine call_meets F.slot_list_pop ⟨_, e, rfl⟩ F.entry_list_pop (F.args_list_pop_1 _) (MeetsSeq.list_pop_last l its.toArray n u hy' (by rw [List.size_toArray]; omega)) ⟨e, ?_⟩
  refine ⟨y, _, I.lset (its' := its.dropLast) hH e ?_ r.dropLast ?_, ru, q⟩
  · show its.toArray.eraseIdxIfInBounds (its.toArray.size - 1) = its.dropLast.toArray
    rw [List.size_toArray, List.eraseIdxIfInBounds_toArray, erase_last]
  · rw [List.length_dropLast]
    omega
def rCat : R2 := fun x y H Q => ∃ l b xs zs, x = .ref l ∧ y = .ref b ∧ H l = some (.lst xs) ∧ H b = some (.lst zs) ∧ xs.length + zs.length ≤ sizeLine ∧ ∀ p, H p = none → Q (.ref p) (upd H p (.lst (xs ++ zs)))
theorem op_cat : OpR X (binaryOp .Add) rCat := by
  intro pins s σ H x y v u Q I rx ry h
  obtain ⟨l, b, xs, zs, rfl, rfl, hH, hB, hz, q⟩ := h
  cases rx
  cases ry
  obtain ⟨z, its, n, r, hl, e⟩ := I.lstM hH
  obtain ⟨z2, its2, n2, r2, hl2, e2⟩ := I.lstM hB
  refine PySem.P.add_list e e2 ?_ (by rw [List.size_toArray, List.size_toArray]; omega)
  have ea : its.toArray ++ its2.toArray = (its ++ its2).toArray := by simp
  rw [ea]
  exact ⟨.ref _, _, I.lnew (t' := s.toks) (r.append r2) (by rw [List.length_append]; omega), rfl, q _ I.fresh⟩
def rRep : R2 := fun x y H Q => ∃ l k xs, x = .ref l ∧ y = .int k ∧ H l = some (.lst xs) ∧ -(2 ^ 63) ≤ k ∧ k < 2 ^ 63 ∧ xs.length * k.toNat ≤ sizeLine ∧
  ∀ p, H p = none → Q (.ref p) (upd H p (.lst (List.replicate k.toNat xs).flatten))
theorem len_rep {α : Type} (xs : List α) (k : Nat) : (List.replicate k xs).flatten.length = k * xs.length := by
  induction k with
  | zero => simp
  | succ k ih => rw [List.replicate_succ, List.flatten_cons, List.length_append, ih, Nat.succ_mul, Nat.add_comm]
theorem op_rep : OpR X (binaryOp .Mult) rRep := by
  intro pins s σ H x y v u Q I rx ry h
  obtain ⟨l, k, xs, rfl, rfl, hH, h1, h2, hz, q⟩ := h
  cases rx
  obtain ⟨t, rfl⟩ := ry
  obtain ⟨z, its, n, r, hl, e⟩ := I.lstM hH
  have hlen : its.toArray.size * k.toNat ≤ sizeLine := by rw [List.size_toArray, ← hl]; exact hz
  have hcap : ¬ its.toArray.size * k.toNat > (2 ^ 63 - 1) / 8 := by
    have : (sizeLine : Nat) ≤ (2 ^ 63 - 1) / 8 := by decide
    omega
  have hfit : ¬ (!Builtin.List.listFitsIndex k) = true := by
    rw [fitsIndex_both h1 h2]
    exact Bool.false_ne_true
  have hlong : ¬ Builtin.List.listTooLong (its.toArray.size * k.toNat) = true := by
    rw [notLongL hlen]
    exact Bool.false_ne_true
  have hnew : List.foldl (fun x1 x2 => x1 ++ x2) #[] (List.replicate (if its.toArray.isEmpty = true then 0 else k.toNat) its.toArray) = (List.replicate k.toNat its).flatten.toArray := by
    have f0 : ∀ m : Nat, List.foldl (fun x1 x2 => x1 ++ x2) #[] (List.replicate m its.toArray) = (List.replicate m its).flatten.toArray := fun m => by
      have := foldl_rep its m []
      rw [List.nil_append] at this
      exact this
    rw [f0]
    cases its with
    | nil => simp
    | cons a r' => rw [if_neg (by simp)]
  refine wpAny_binaryOp_repeat_ref (T := "list") (U := "int") (by decide) ⟨_, e, rfl⟩ (fun s' => typeIs_int s' k t) noFill_list_mul F.fills_int_mul F.slot_int_rmul repeat_list F.slot_int_index.lookup
    (call_meets F.slot_int_rmul (typeIs_int s k t) F.entry_int_rmul (F.args_int_rmul_2 _ _) (int___rmul___int_list k t l its.toArray n)
      ⟨e, rfl, ⟨_, e, rfl⟩, call_meets F.slot_list_mul ⟨_, e, rfl⟩ F.entry_list_mul (F.args_list_mul_2 _ _) (AutoListH.list___mul___list_int_3 l its.toArray n k t hfit hcap hlong) ⟨e, ?_⟩⟩)
  rw [hnew]
  exact ⟨.ref _, _, I.lnew (t' := s.toks) (r.rep k.toNat) (by rw [len_rep, Nat.mul_comm]; exact hz), rfl, q _ I.fresh⟩
end
section
variable {prog : Program} {w : World} {A : Around} {E : Value → Shared → Prop} {s : Shared}
end
section
variable {X : Cx}
end
end L2
namespace L2
open PySem PySem.Spec PyProof.Rows
theorem Vals.ints : ∀ {ns : List Int} {us : List Value}, Vals (ns.map V.int) us → IntsAre us ns
  | [], us, h => by
    rw [List.map_nil] at h
    cases h
    exact IntsAre.nil
  | n :: ns, us, h => by
    rw [List.map_cons] at h
    cases h with
    | cons r t =>
      obtain ⟨k, rfl⟩ := r
      exact IntsAre.cons n k (Vals.ints t)
theorem Vals.bls : ∀ {bs : List Bool} {us : List Value}, Vals (bs.map V.bl) us → us = bs.map Value.bool
  | [], us, h => by
    rw [List.map_nil] at h
    cases h
    rfl
  | b :: bs, us, h => by
    rw [List.map_cons] at h
    cases h with
    | cons r t =>
      cases r
      rw [Vals.bls t, List.map_cons]
theorem Vals.ref1 {a : Addr} {us : List Value} (r : Vals [V.ref a] us) : us = [Value.ref a] := by
  cases r with
  | cons r t =>
    cases t
    cases r
    rfl
section
variable {prog : Program} {w : World} {A : Around} {E : Value → Shared → Prop} {s : Shared} {l : Addr} {its : List Value} {ns : List Int} {Q : Value → Shared → Prop}
theorem sum_raw (hh : A.handled = none) (hl : s.heap.IsList l its.toArray) (hi : IntsAre its ns)
    (h : ∀ h' tk t', (∀ b o, s.heap.get? b = some o → h'.get? b = some o) → Q (.int ns.sum t') { s with heap := h', toks := tk }) : wpAny (model prog w) A (call (.builtin "sum") [.ref l]) Q E s := by
  obtain ⟨xs, e⟩ := hi.allInts.items
  have hn : numsOf (intItems xs).toList = ns := by rw [← e]; exact hi.numsOf
  rw [nums_intItems] at hn
  rw [e] at hl
  refine PySem.sum_intListG hh hl fun h' tk t' hk => ?_
  have := h h' tk t' hk
  rw [preSum_eq, List.take_of_length_le (by simp), hn]; exact this
end
section
variable {X : Cx}
def rSum (K : PySem.W.Frag) : List V → Hp → VK → Prop := fun vs H Q => ∃ (a : Addr) (ns : List Int), vs = [V.ref a] ∧ SqL K H a (ns.map V.int) ∧ Q (.int ns.sum) H
theorem cr_sum (hc : X.calm = true) : CallR X (.builtin "sum") (rSum X.K) := by
  intro pins s σ H vs us Q I r h
  obtain ⟨a, ns, rfl, hs, q⟩ := h
  obtain ⟨its, rv, hl, _⟩ := I.list hs
  rw [Vals.ref1 r]
  exact sum_raw (I.ok.hd hc) hl.isList rv.ints fun h' tk t' hk => ⟨.int _, H, I.kept hk, ⟨_, rfl⟩, q⟩
end
section
variable {X : Cx}
end
section
variable {X : Cx}
end
theorem iter_any {prog : Program} {w : World} {A : Around} {E : Value → Shared → Prop} {s : Shared} {l : Addr} {items : Array Value} {Q : Value → Shared → Prop} (hl : s.heap.IsList l items)
    (h : ∀ s₂ : Shared, s₂ = { s with heap := s.heap.push { cls := .type "list_iterator", data := .fields #[.ref l, .int 0 0] } } →
      (s₂.heap.IsListIter s.heap.objs.size l 0 ∧ s₂.heap.IsList l items) → l ≠ s.heap.objs.size → Q (.ref s.heap.objs.size) s₂) : wpAny (model prog w) A (pyIter (.ref l)) Q E s := by
  have hlt : l < s.heap.objs.size := by obtain ⟨_, e, _⟩ := hl; exact Heap.lt_size e
  exact wpAny_pyIter_list hl (h _ rfl ⟨⟨_, Heap.get?_push_size _ rfl, rfl, rfl⟩, hl.push _⟩ (Nat.ne_of_lt hlt))
theorem truth_bools {prog : Program} {w : World} {A : Around} {bs : List Bool} {its : List Value} (e : its = bs.map Value.bool) :
    TruthOf prog w A (fun i v => its.toArray[i]? = some v) (fun i => bs.getD i false) := fun i v s Q E hv hq => by
  have hv' : its[i]? = some v := by simpa using hv
  rw [e, List.getElem?_map] at hv'
  obtain ⟨b, hb, rfl⟩ := Option.map_eq_some_iff.mp hv'
  have hg : bs.getD i false = b := by rw [List.getD_eq_getElem?_getD, hb] <;> rfl
  have hq' : Q (bs.getD i false) s := hq
  rw [hg] at hq'
  exact wpAny_truthy_bool hq'
theorem all_range : ∀ bs : List Bool, (List.range bs.length).all (fun i => bs.getD i false) = bs.all id
  | [] => rfl
  | b :: bs => by
    rw [List.length_cons, List.range_succ_eq_map, List.all_cons, List.all_map, List.all_cons, ← all_range bs]
    all_goals rfl
section
variable {X : Cx}
def rAll (K : PySem.W.Frag) : List V → Hp → VK → Prop := fun vs H Q => ∃ (a : Addr) (bs : List Bool), vs = [V.ref a] ∧ SqL K H a (bs.map V.bl) ∧ Q (.bl (bs.all id)) H
theorem cr_all (hc : X.calm = true) : CallR X (.builtin "all") (rAll X.K) := by
  intro pins s σ H vs us Q I r h
  obtain ⟨a, bs, rfl, hs, q⟩ := h
  obtain ⟨its, rv, hl, _⟩ := I.list hs
  rw [Vals.ref1 r]
  have hb := rv.bls
  refine call_all_walk (iter_any hl.isList fun s₂ e2 st hne => ?_)
  subst e2
  refine ⟨_, _, _, _, _, _, _, rfl, Walks.list (A := X.A.in1) (I.ok.hd hc) _ a hne its.toArray, st, truth_bools hb, fun h' tk hk => ?_⟩
  refine ⟨.bl _, H, I.kept fun b o eo => hk b o (fun hmem => ?_) (Heap.get?_push_of_some _ eo), ?_, q⟩
  · rcases List.mem_cons.mp hmem with e1 | hmem
    · exact absurd (e1 ▸ Heap.lt_size eo) (Nat.lt_irrefl _)
    · cases hmem
  · show Value.bool _ = Value.bool _
    rw [← all_range, hb, List.size_toArray, List.length_map]
end
mutual
inductive Dp (K : PySem.W.Frag) (H : Hp) : V → PyData → Prop
  | int (i : Int) : Dp K H (.int i) (.int i)
  | lst {a : Addr} {xs : List V} {ds : List PyData} : SqL K H a xs → DpAll K H xs ds → Dp K H (.ref a) (.list ds)
inductive DpAll (K : PySem.W.Frag) (H : Hp) : List V → List PyData → Prop
  | nil : DpAll K H [] []
  | cons {v : V} {vs : List V} {d : PyData} {ds : List PyData} : Dp K H v d → DpAll K H vs ds → DpAll K H (v :: vs) (d :: ds)
end
section
variable {X : Cx} {pins : List (Addr × Obj)} {σ : St} {H : Hp} {s : Shared}
mutual
theorem Dp.reads (I : Inv X pins σ H s) : ∀ (d : PyData) (v : V) (u : Value), Dp X.K H v d → RelV v u → ∃ as, Reads s.heap u d as
  | .int i, _, _, h, r => by
    cases h
    obtain ⟨t, rfl⟩ := r
    exact ⟨_, Reads.int i t⟩
  | .list ds, _, _, h, r => by
    cases h with
    | lst hs ha =>
      cases r
      obtain ⟨its, rv, ⟨o, n, ho, hc, _, hd⟩, _⟩ := I.list hs
      obtain ⟨as, hr⟩ := Dp.readsAll I ds _ its ha rv
      exact ⟨_, Reads.list ho hc hd hr⟩
  | .none, _, _, h, _ => by cases h
  | .bool _, _, _, h, _ => by cases h
  | .str _, _, _, h, _ => by cases h
  | .tuple _, _, _, h, _ => by cases h
  | .dict _, _, _, h, _ => by cases h
theorem Dp.readsAll (I : Inv X pins σ H s) : ∀ (ds : List PyData) (vs : List V) (us : List Value), DpAll X.K H vs ds → Vals vs us → ∃ as, ReadsAll s.heap us ds as
  | [], _, _, h, r => by
    cases h
    cases r
    exact ⟨_, ReadsAll.nil⟩
  | d :: ds, _, _, h, r => by
    cases h with
    | cons h1 h2 =>
      cases r with
      | cons r1 r2 =>
        obtain ⟨as, q1⟩ := Dp.reads I d _ _ h1 r1
        obtain ⟨bs, q2⟩ := Dp.readsAll I ds _ _ h2 r2
        exact ⟨_, ReadsAll.cons q1 q2⟩
end
end
section
variable {X : Cx}
def rNeD (K : PySem.W.Frag) : R2 := fun x y H Q => ∃ d e, Dp K H x d ∧ Dp K H y e ∧ SeqAt.shaped d = true ∧ SeqAt.shaped e = true ∧ Q (.bl (!PyData.eqv d e)) H
theorem op_neD (hu : X.A.units + 64 < cLine) : OpR X (compareOp .NotEq) (rNeD X.K) := by
  intro pins s σ H x y v u Q I rx ry h
  obtain ⟨d, e, hd, he, sd, se, q⟩ := h
  obtain ⟨as, r1⟩ := Dp.reads I d x v hd rx
  obtain ⟨bs, r2⟩ := Dp.reads I e y u he ry
  exact SeqAt.compareNe_shaped r1 r2 sd se hu ⟨.bl _, H, I, rfl, q⟩
end
end L2
namespace L2
open PySem PySem.Spec PyProof.Rows
abbrev CellAt (h : Heap) (c : Addr) (v : Option Value) : Prop := h.IsCell c v
def relS (scope sc : Scope) : Scope :=
  { scope with names := scope.names.map fun (n, k) => if (k == .free && sc.kind == .function && sc.names.lookup n == some .cell) then (n, .cell) else (n, k) }
def cloFrom (cells : List (Str × Addr)) : List (Str × NameKind) → List (Str × Addr) → List (Str × Addr)
  | [], acc => acc
  | (n, k) :: r, acc => if k == .free then cloFrom cells r ((n, (cells.lookup n).getD 0) :: acc) else cloFrom cells r acc
theorem closure_loop (env : Env) (f : Str × NameKind → List (Str × Addr) → Sem (ForInStep (List (Str × Addr))))
    (hf : ∀ n k c, f (n, k) c = if k == .free then (do let a ← cellOf env n; pure (.yield ((n, a) :: c))) else pure (.yield c)) :
    ∀ (names : List (Str × NameKind)) (acc : List (Str × Addr)), (∀ y ∈ names, y.2 = .free → ∃ c, env.cells.lookup y.1 = some c) → forIn names acc f = pure (cloFrom env.cells names acc)
  | [], acc, _ => by rw [List.forIn_nil]; rfl
  | (n, k) :: r, acc, h => by
    rw [List.forIn_cons, hf]
    have ih := fun acc => closure_loop env f hf r acc fun y hy => h y (List.mem_cons_of_mem _ hy)
    unfold cloFrom
    by_cases hk : (k == NameKind.free) = true
    · rw [if_pos hk, if_pos hk]
      obtain ⟨c, hc⟩ := h (n, k) List.mem_cons_self (by simpa using hk)
      have e : cellOf env n = pure c := by unfold cellOf; rw [hc]
      rw [e]
      have e2 : (env.cells.lookup n).getD 0 = c := by rw [hc]; rfl
      rw [e2]
      exact ih _
    · rw [if_neg hk, if_neg hk]
      exact ih _
theorem closure_ok {scope : Scope} {env : Env} (h : ∀ y ∈ scope.names, y.2 = .free → ∃ c, env.cells.lookup y.1 = some c) : closureFor scope env = pure (cloFrom env.cells scope.names []) := by
  simp only [closureFor]
  rw [closure_loop env _ (fun n k c => rfl) scope.names [] h]
  rfl
theorem mem_lookup {α : Type} : ∀ {l : List (Str × α)} {n : Str} {c : α}, (n, c) ∈ l → ∃ c', l.lookup n = some c'
  | (k, v) :: r, n, c, h => by
    rw [List.lookup_cons]
    cases hb : n == k with
    | true => exact ⟨_, rfl⟩
    | false =>
      rcases List.mem_cons.mp h with e | h
      · cases e; simp at hb
      · exact mem_lookup h
theorem cloFrom_mem {cells : List (Str × Addr)} : ∀ {names : List (Str × NameKind)} {acc : List (Str × Addr)} {n : Str} {c : Addr}, (n, c) ∈ cloFrom cells names acc → (n, c) ∈ acc ∨ ((n, .free) ∈ names ∧ c = (cells.lookup n).getD 0)
  | [], _, _, _, h => .inl h
  | (m, k) :: r, acc, n, c, h => by
    unfold cloFrom at h
    split at h
    · rename_i hk
      have hk : k = .free := by simpa using hk
      rcases cloFrom_mem h with h | ⟨h1, h2⟩
      · rcases List.mem_cons.mp h with e | h
        · cases e; exact .inr ⟨hk ▸ List.mem_cons_self, rfl⟩
        · exact .inl h
      · exact .inr ⟨List.mem_cons_of_mem _ h1, h2⟩
    · rcases cloFrom_mem h with h | ⟨h1, h2⟩
      · exact .inl h
      · exact .inr ⟨List.mem_cons_of_mem _ h1, h2⟩
theorem cloFrom_acc {cells : List (Str × Addr)} : ∀ {names : List (Str × NameKind)} {acc : List (Str × Addr)} {p : Str × Addr}, p ∈ acc → p ∈ cloFrom cells names acc
  | [], _, _, h => h
  | (m, k) :: r, acc, p, h => by
    unfold cloFrom
    split
    · exact cloFrom_acc (List.mem_cons_of_mem _ h)
    · exact cloFrom_acc h
theorem cloFrom_has {cells : List (Str × Addr)} : ∀ {names : List (Str × NameKind)} {acc : List (Str × Addr)} {n : Str}, (n, .free) ∈ names → (n, (cells.lookup n).getD 0) ∈ cloFrom cells names acc
  | (m, k) :: r, acc, n, h => by
    unfold cloFrom
    rcases List.mem_cons.mp h with e | h
    · cases e
      exact cloFrom_acc List.mem_cons_self
    · split
      · exact cloFrom_has h
      · exact cloFrom_has h
theorem cells_mem : ∀ {names : List (Str × NameKind)} {h : Heap} {acc : List (Str × Addr)} {x : Str} {c : Addr}, (x, c) ∈ cellsFrom h.objs.size names acc →
    (x, c) ∈ acc ∨ ((x, .cell) ∈ names ∧ h.objs.size ≤ c ∧ CellAt (pushCells h names) c none)
  | [], _, _, _, _, h => .inl h
  | (n, k) :: r, h, acc, x, c, hm => by
    unfold cellsFrom at hm
    unfold pushCells
    split at hm
    · rename_i hk
      rw [if_pos hk]
      have hk : k = .cell := by simpa using hk
      rw [← Heap.size_push h { cls := .type "cell", data := .cell none }] at hm
      rcases cells_mem hm with hm | ⟨h1, h2, h3⟩
      · rcases List.mem_cons.mp hm with e | hm
        · cases e
          exact .inr ⟨hk ▸ List.mem_cons_self, Nat.le_refl _, _, pushCells_keeps r _ _ _ (Heap.get?_push_size _ rfl), rfl⟩
        · exact .inl hm
      · rw [Heap.size_push] at h2
        exact .inr ⟨List.mem_cons_of_mem _ h1, Nat.le_of_succ_le h2, h3⟩
    · rename_i hk
      rw [if_neg hk]
      rcases cells_mem hm with hm | ⟨h1, h2, h3⟩
      · exact .inl hm
      · exact .inr ⟨List.mem_cons_of_mem _ h1, h2, h3⟩
theorem cells_acc : ∀ {names : List (Str × NameKind)} {n : Nat} {acc : List (Str × Addr)} {p : Str × Addr}, p ∈ acc → p ∈ cellsFrom n names acc
  | [], _, _, _, h => h
  | (m, k) :: r, n, acc, p, h => by
    unfold cellsFrom
    split
    · exact cells_acc (List.mem_cons_of_mem _ h)
    · exact cells_acc h
theorem cells_has : ∀ {names : List (Str × NameKind)} {n : Nat} {acc : List (Str × Addr)} {x : Str}, (x, .cell) ∈ names → ∃ c, (x, c) ∈ cellsFrom n names acc
  | (m, k) :: r, n, acc, x, h => by
    unfold cellsFrom
    rcases List.mem_cons.mp h with e | h
    · cases e
      exact ⟨n, cells_acc List.mem_cons_self⟩
    · split
      · exact cells_has h
      · exact cells_has h
theorem cells_inj : ∀ {names : List (Str × NameKind)} {h : Heap} {acc : List (Str × Addr)} {x y : Str} {c : Addr}, (∀ p ∈ acc, p.2 < h.objs.size) → (∀ x y c, (x, c) ∈ acc → (y, c) ∈ acc → x = y) →
    (x, c) ∈ cellsFrom h.objs.size names acc → (y, c) ∈ cellsFrom h.objs.size names acc → x = y
  | [], _, _, _, _, _, _, hi, h1, h2 => hi _ _ _ h1 h2
  | (n, k) :: r, h, acc, x, y, c, hl, hi, h1, h2 => by
    unfold cellsFrom at h1 h2
    split at h1
    · rename_i hk
      rw [if_pos hk] at h2
      rw [← Heap.size_push h { cls := .type "cell", data := .cell none }] at h1 h2
      refine cells_inj (h := h.push _) (fun p hp => ?_) (fun x y c a b => ?_) h1 h2
      · rw [Heap.size_push]
        rcases List.mem_cons.mp hp with rfl | hp
        · exact Nat.lt_succ_self _
        · exact Nat.lt_succ_of_lt (hl p hp)
      · rcases List.mem_cons.mp a with e | a <;> rcases List.mem_cons.mp b with e' | b
        · cases e; cases e'; rfl
        · cases e; exact absurd (hl _ b) (Nat.lt_irrefl _)
        · cases e'; exact absurd (hl _ a) (Nat.lt_irrefl _)
        · exact hi _ _ _ a b
    · rename_i hk
      rw [if_neg hk] at h2
      exact cells_inj hl hi h1 h2
theorem newEnv_comp {M : Model} {A : Around} {E : Value → Shared → Prop} {s : Shared} {scope : Scope} {globals : Addr} {closure : List (Str × Addr)} {qual : Str} {func : Option Addr} {code : Value} {around : Env} {builtins : Addr} {Q : Env → Shared → Prop}
    (h : Q (newEnv scope s.heap.objs.size globals (cellsFrom (s.heap.objs.size + 1) scope.names closure) qual func code (some around) builtins)
      { s with heap := pushCells (s.heap.push { cls := .type "dict", data := .dict #[] }) scope.names }) :
    wpAny M A (newFunctionEnv scope globals closure [] qual func code (some around) builtins) Q E s := by
  simp only [newFunctionEnv, Option.isSome_some, if_true]
  refine wpAny_bind (wpAny_alloc ?_)
  refine wpAny_bind (wpAny_layCells _ (fun n k c => rfl) scope.names closure _ _ ?_)
  rw [show ({ s with heap := s.heap.push { cls := .type "dict", data := .dict #[] } } : Shared).heap.objs.size = s.heap.objs.size + 1 from Heap.size_push ..]
  rw [List.forIn_nil]
  exact wpAny_bind (wpAny_pure (wpAny_pure h))
theorem lookup_relS {sc : Scope} : ∀ {names : List (Str × NameKind)} {x : Str} {k : NameKind},
    (names.map fun (n, k) => if (k == NameKind.free && sc.kind == .function && sc.names.lookup n == some .cell) then (n, NameKind.cell) else (n, k)).lookup x = some k →
    ∃ k', names.lookup x = some k' ∧ (k = k' ∨ (k' = .free ∧ k = .cell))
  | [], _, _, h => by simp at h
  | (n, k₀) :: r, x, k, h => by
    have ih := @lookup_relS sc r x k
    have h' : List.lookup x ((if (k₀ == NameKind.free && sc.kind == .function && sc.names.lookup n == some .cell) = true then (n, NameKind.cell) else (n, k₀)) :: (r.map _)) = some k := h
    cases hx : x == n with
    | true =>
      simp only [List.lookup_cons, hx]
      by_cases hc : (k₀ == NameKind.free && sc.kind == .function && sc.names.lookup n == some .cell) = true
      · rw [if_pos hc] at h'
        simp only [List.lookup_cons, hx] at h'
        cases h'
        simp only [Bool.and_eq_true, beq_iff_eq] at hc
        exact ⟨k₀, rfl, .inr ⟨hc.1.1, rfl⟩⟩
      · rw [if_neg hc] at h'
        simp only [List.lookup_cons, hx] at h'
        cases h'
        exact ⟨_, rfl, .inl rfl⟩
    | false =>
      simp only [List.lookup_cons, hx]
      by_cases hc : (k₀ == NameKind.free && sc.kind == .function && sc.names.lookup n == some .cell) = true
      · rw [if_pos hc] at h'
        simp only [List.lookup_cons, hx] at h'
        exact ih h'
      · rw [if_neg hc] at h'
        simp only [List.lookup_cons, hx] at h'
        exact ih h'
structure BlkOk (N : List Str) (sc scope : Scope) (own : List (Str × Nat)) : Prop where
  kind : scope.kind = .function
  uniq : ∀ y ∈ scope.names, scope.names.lookup y.1 = some y.2
  ix : ∀ p ∈ own, N[p.2]? = some p.1
  free : ∀ y ∈ scope.names, y.2 = .free → sc.names.lookup y.1 = some .cell ∨ sc.names.lookup y.1 = some .free
  own : ∀ y ∈ scope.names, y.2 = .local ∨ y.2 = .cell → y.1 ∈ own.map (·.1) ∨ y.1 ∉ N
def wipe (σ : St) : List Nat → St
  | [] => σ
  | v :: vs => (wipe σ vs).set v none
theorem wipe_length (σ : St) : ∀ vs : List Nat, (wipe σ vs).length = σ.length
  | [] => rfl
  | v :: vs => by unfold wipe; rw [List.length_set, wipe_length σ vs]
theorem wipe_some {σ : St} {i : Nat} {x : V} : ∀ {vs : List Nat}, (wipe σ vs)[i]? = some (some x) → σ[i]? = some (some x) ∧ i ∉ vs
  | [], h => ⟨h, by simp⟩
  | v :: vs, h => by
    unfold wipe at h
    by_cases hi : v = i
    · subst hi
      by_cases hv : v < (wipe σ vs).length
      · rw [List.getElem?_set_self hv] at h; cases h
      · rw [List.getElem?_eq_none (by simpa using hv)] at h; cases h
    · rw [List.getElem?_set_ne hi] at h
      obtain ⟨h1, h2⟩ := wipe_some h
      exact ⟨h1, by simp only [List.mem_cons, not_or]; exact ⟨fun e => hi e.symm, h2⟩⟩
abbrev Cx.blk (X : Cx) (s : Shared) (H : Hp) (scope : Scope) (cenv : Env) (fp : List Addr) : Cx := { X with s_0 := s, H_0 := H, env := cenv, outer := X.stack, ex := fp, fn := fun x => scope.names.lookup x == some .cell, pn := [], xe := fun _ _ => False }
section
variable {X : Cx} {pins : List (Addr × Obj)} {σ : St} {H : Hp} {s : Shared}
theorem block_start {scope : Scope} {own : List (Str × Nat)} {fp : List Addr} (I : Inv X pins σ H s) (ok : BlkOk X.N X.env.scope scope own) (hN : X.N.Nodup) (hfp : ∀ b ∈ fp, FpOk X pins H b ∧ b < s.heap.objs.size) :
    Inv (X.blk s H scope (compEnvC scope (cellsFrom (s.heap.objs.size + 1) scope.names (cloFrom X.env.cells scope.names [])) s.heap.objs.size X.env) fp) [] (wipe σ (own.map (·.2))) H { s with heap := pushCells (s.heap.push { cls := .type "dict", data := .dict #[] }) scope.names } := by
  have hfree : ∀ y ∈ scope.names, y.2 = .free → ∃ c, X.env.cells.lookup y.1 = some c := fun y hy e => by
    rcases ok.free y hy e with k | k
    · exact I.ok.has _ (.inl k)
    · exact I.ok.has _ (.inr k)
  generalize hcenv : compEnvC scope (cellsFrom (s.heap.objs.size + 1) scope.names (cloFrom X.env.cells scope.names [])) s.heap.objs.size X.env = cenv
  have kp : ∀ b o, s.heap.get? b = some o → (pushCells (s.heap.push { cls := .type "dict", data := .dict #[] }) scope.names).get? b = some o := fun b o e => pushCells_keeps _ _ _ _ (Heap.get?_push_of_some _ e)
  have hL : cenv.locals = s.heap.objs.size := by rw [← hcenv]; rfl
  have hcl : cenv.cells = cellsFrom (s.heap.objs.size + 1) scope.names (cloFrom X.env.cells scope.names []) := by rw [← hcenv]; rfl
  have hsc : cenv.scope = relS scope X.env.scope := by rw [← hcenv]; rfl
  rw [← Heap.size_push s.heap { cls := .type "dict", data := .dict #[] }] at hcl
  have cm : ∀ {y c}, (y, c) ∈ cloFrom X.env.cells scope.names [] → X.env.cells.lookup y = some c ∧ c < s.heap.objs.size := fun {y c} hm => by
    rcases cloFrom_mem hm with hm | ⟨h1, rfl⟩
    · cases hm
    · obtain ⟨c, hc⟩ := hfree _ h1 rfl
      rw [hc]
      obtain ⟨w, z⟩ := I.cell _ _ hc
      exact ⟨rfl, z.lt⟩
  have mem : ∀ {y c}, cenv.cells.lookup y = some c → (X.env.cells.lookup y = some c ∧ c < s.heap.objs.size) ∨ (s.heap.objs.size + 1 ≤ c ∧ CellAt (pushCells (s.heap.push { cls := .type "dict", data := .dict #[] }) scope.names) c none) := fun {y c} e => by
    rw [hcl] at e
    rcases cells_mem (PySem.mem_of_lookup e) with hm | ⟨_, h2, h3⟩
    · exact .inl (cm hm)
    · rw [Heap.size_push] at h2; exact .inr ⟨h2, h3⟩
  have look : ∀ {y}, scope.names.lookup y = some .free → ∃ c, cenv.cells.lookup y = some c ∧ X.env.cells.lookup y = some c := fun {y} hl => by
    have hy : (y, NameKind.free) ∈ scope.names := PySem.mem_of_lookup hl
    obtain ⟨c', e'⟩ := mem_lookup (cells_acc (names := scope.names) (n := (s.heap.push { cls := .type "dict", data := .dict #[] }).objs.size) (cloFrom_has (cells := X.env.cells) (acc := []) hy))
    rw [← hcl] at e'
    refine ⟨c', e', ?_⟩
    rw [hcl] at e'
    rcases cells_mem (PySem.mem_of_lookup e') with hm | ⟨h1, _, _⟩
    · exact (cm hm).1
    · have := ok.uniq _ h1
      rw [hl] at this; cases this
  have okB : (X.blk s H scope cenv fp).Ok := by
    refine ⟨I.ok.mod, by show cenv.scope.kind = _; rw [hsc]; exact ok.kind, by show cenv.globals = _; rw [← hcenv]; exact I.ok.glob, by show cenv.builtins = _; rw [← hcenv]; exact I.ok.blt, by show s.heap.objs.size ≤ cenv.locals; rw [hL]; exact Nat.le_refl _,
      fun y z c e1 e2 => ?_, fun y hy => ?_, fun y c z e => ?_, I.ok.hd, I.ok.frames, .inl rfl, fun b hb => ⟨?_, fun y c e z => ?_⟩, I.bs, Nat.le_trans I.ok.bsz I.sz, fun b o e hb => ?_, fun b hb z => ?_, I.stack, I.stkFree⟩
    · have e1 : cenv.cells.lookup y = some c := e1
      have e2 : cenv.cells.lookup z = some c := e2
      rw [hcl] at e1 e2
      refine cells_inj (fun p hp => ?_) (fun y z c a b => I.ok.inj y z c (cm a).1 (cm b).1) (PySem.mem_of_lookup e1) (PySem.mem_of_lookup e2)
      rw [Heap.size_push]
      exact Nat.lt_succ_of_lt (cm (y := p.1) (c := p.2) hp).2
    · show ∃ c, cenv.cells.lookup y = some c
      have key : ∀ k, cenv.kindOf y = some k → (k = .cell ∨ k = .free) → ∃ c, cenv.cells.lookup y = some c := fun k hk hk' => by
        unfold Env.kindOf at hk
        rw [hsc] at hk
        obtain ⟨k', e, r⟩ := lookup_relS hk
        have : k' = .cell ∨ k' = .free := by
          rcases r with rfl | ⟨rfl, _⟩
          · exact hk'
          · exact .inr rfl
        rcases this with rfl | rfl
        · obtain ⟨c, hm⟩ := cells_has (n := (s.heap.push { cls := .type "dict", data := .dict #[] }).objs.size) (acc := cloFrom X.env.cells scope.names []) (PySem.mem_of_lookup e)
          obtain ⟨c', e'⟩ := mem_lookup hm
          exact ⟨c', by rw [hcl]; exact e'⟩
        · obtain ⟨c, h1, _⟩ := look e
          exact ⟨c, h1⟩
      rcases hy with hy | hy
      · exact key _ hy (.inl rfl)
      · exact key _ hy (.inr rfl)
    · have z : (scope.names.lookup y == some NameKind.cell) = true := z
      have z : scope.names.lookup y = some .cell := by simpa using z
      have e : cenv.cells.lookup y = some c := e
      rw [hcl] at e
      rcases cells_mem (PySem.mem_of_lookup e) with hm | ⟨_, h2, _⟩
      · rcases cloFrom_mem hm with hm | ⟨h1, _⟩
        · cases hm
        · have q := ok.uniq _ h1
          rw [z] at q; cases q
      · rw [Heap.size_push] at h2
        exact Nat.le_of_succ_le h2
    · show b ≠ cenv.locals
      rw [hL]; exact Nat.ne_of_lt (hfp b hb).2
    · have e : cenv.cells.lookup y = some c := e
      rcases mem e with ⟨h1, _⟩ | ⟨h1, _⟩
      · exact (hfp b hb).1.2.2.2.2.1 y c h1 z
      · have h2 : s.heap.objs.size + 1 ≤ b := by rw [← z]; exact h1
        exact absurd (Nat.lt_of_lt_of_le (hfp b hb).2 (Nat.le_of_succ_le h2)) (Nat.lt_irrefl _)
    · rcases (hfp b hb).1.2.2.2.1 with z | z
      · exact I.ok.noex b o e z
      · exact absurd (Nat.lt_of_lt_of_le (Heap.lt_size e) (Nat.le_trans I.ok.bsz z)) (Nat.lt_irrefl _)
    · rcases List.mem_cons.mp (I.stkSub b z) with z | z
      · exact (hfp b hb).1.2.1 z
      · exact (hfp b hb).1.2.2.1 z
  refine ⟨okB, rfl, I.bare, Un.kept kp, ⟨fun _ => none, ?_, fun i y av e1 e2 e3 => ?_⟩, fun y c e => ?_, ?_, fun y c e => ?_, fun p hp => ?_, I.hok.kept kp, by rw [wipe_length]; exact I.len⟩
  · show Heap.Ns _ cenv.locals _
    rw [hL]
    exact Heap.Ns.keeps (Heap.Ns.new ..) fun b o e => pushCells_keeps _ _ _ _ e
  · obtain ⟨e2, hne⟩ := wipe_some e2
    have hfr : scope.names.lookup y = some .free ∧ (cenv.kindOf y = some .cell ∨ cenv.kindOf y = some .free) := by
      have key : ∀ k, cenv.scope.names.lookup y = some k → k = .local ∨ k = .cell ∨ k = .free → scope.names.lookup y = some .free ∧ (cenv.kindOf y = some .cell ∨ cenv.kindOf y = some .free) := fun k hk hk' => by
        have hk0 := hk
        rw [hsc] at hk
        obtain ⟨k', e, r⟩ := lookup_relS hk
        have no : ¬ (k' = .local ∨ k' = .cell) := fun hh => by
          rcases ok.own _ (PySem.mem_of_lookup e) hh with e' | e'
          · obtain ⟨p, hp, hpy⟩ := List.mem_map.mp e'
            have e3 := ok.ix p hp
            have : p.1 = y := hpy
            rw [this] at e3
            exact hne (List.mem_map.mpr ⟨p, hp, nodup_ix hN e3 e1⟩)
          · exact e' (List.mem_of_getElem? e1)
        rcases r with rfl | ⟨rfl, rfl⟩
        · rcases hk' with rfl | rfl | rfl
          · exact absurd (.inl rfl) no
          · exact absurd (.inr rfl) no
          · exact ⟨e, .inr hk0⟩
        · exact ⟨e, .inl hk0⟩
      have e3 : Vis cenv.scope y := e3
      rcases e3 with e3 | e3 | e3
      · exact key _ e3 (.inl rfl)
      · exact key _ e3 (.inr (.inl rfl))
      · exact key _ e3 (.inr (.inr rfl))
    obtain ⟨m, hn, hl⟩ := I.loc
    have hvis : Vis X.env.scope y := (ok.free _ (PySem.mem_of_lookup hfr.1) rfl).elim (fun k => .inr (.inl k)) (fun k => .inr (.inr k))
    obtain ⟨w, r, q⟩ := hl i y av e1 e2 hvis
    refine ⟨w, r, .inr ⟨hfr.2, ?_⟩⟩
    obtain ⟨c, h1, h2⟩ := look hfr.1
    rcases q with ⟨k, _⟩ | ⟨_, c', e', z⟩
    · have k : X.env.scope.names.lookup y = some .local := k
      rcases ok.free _ (PySem.mem_of_lookup hfr.1) rfl with k' | k' <;> rw [show X.env.scope.names.lookup y = _ from k'] at k <;> cases k
    · rw [h2] at e'; cases e'
      exact ⟨c, h1, z.keeps kp⟩
  · have e : cenv.cells.lookup y = some c := e
    rcases mem e with ⟨h1, _⟩ | ⟨_, z⟩
    · obtain ⟨w, z⟩ := I.cell y c h1
      exact ⟨w, z.keeps kp⟩
    · exact ⟨_, z⟩
  · show H cenv.locals = none
    rw [hL]; exact I.hok.fresh (Nat.le_refl _)
  · have e : cenv.cells.lookup y = some c := e
    rcases mem e with ⟨h1, _⟩ | ⟨h1, _⟩
    · exact I.freeC y c h1
    · exact I.hok.fresh (Nat.le_of_succ_le h1)
  · exact absurd (show p ∈ ([] : List (Addr × Obj)) ++ [] from hp) (by simp)
theorem app_ok {E : Value → Shared → Prop} {D : Addr} {xs : List V} {y : V} {v : Value} {Q : Value → Shared → Prop} (I : Inv X pins σ H s) (hD : H D = some (.lst xs)) (hz : xs.length < sizeLine) (r : RelV y v)
    (h : ∀ s', Inv X pins σ (upd H D (.lst (xs ++ [y]))) s' → Q .none s') : wpAny (model X.prog X.w) X.A (call (.builtin "list.append") [.ref D, v]) Q E s := by
  obtain ⟨hz', its, n, ri, e⟩ := I.hok D _ hD
  have hl := ri.length
  refine append_at (hsz := by rw [List.size_toArray]; omega) e fun h' sb ho' => ?_
  refine h { s with heap := h' } (I.write (t' := s.toks) (by rw [hD]; trivial) (.inl rfl) (fun b u hb q => (sb.2 b hb).trans q) ⟨_, ho'⟩ ⟨by rw [List.length_append]; exact hz, its ++ [v], n + 1, ri.append (.cons r .nil), ?_⟩)
  rw [ho']
  simp
def PTs (X : Cx) (ifs : List Expr) (t : TT) : Prop :=
  ∀ (pins : List (Addr × Obj)) (s : Shared) (σ : St) (H : Hp) (Q : Bool → Hp → Prop), Inv X pins σ H s → t σ H Q →
    wpAny (model X.prog X.w) X.A (forIn ifs true fun c r => if r = true then do let ok ← isTrue c X.env (eval c X.env); pure (ForInStep.yield ok) else pure (ForInStep.yield r)) (TP X pins σ Q) X.xe s
def tYes : TT := fun _ H Q => Q true H
theorem pts_nil : PTs X [] tYes := fun _ _ _ H _ I h => wpAny_tests_nil ⟨H, I, h⟩
end
theorem thnF {α : Type} {t : Sem α} {Q Q' : α → Shared → Prop} {M : Model} {A : Around} {E : Value → Shared → Prop} {s : Shared} (h : wpAny M A t Q (fun _ _ => False) s) (hQ : ∀ a s, Q a s → Q' a s) : wpAny M A t Q' E s := wpAny_mono h hQ fun _ _ z => False.elim z
theorem compLoop_any {prog : Program} {w : World} {A : Around} {R : Result → Shared → Prop} {s : Shared} {elt target iter : Expr} {ifs : List Expr} {scope : Scope} {pos : Pos} {it acc : Value} {env : Env} (I : Nat → Shared → Prop)
    (turn : ∀ n s, I n s → wpAny (model prog w) A (pyNext it) (fun r s₁ => match r with
      | none => R (.ok .next) s₁
      | some v => wpAny (model prog w) A (letOwnedTupleGo target it v) (fun _ s₁' => wpAny (model prog w) A (assign target env v) (fun _ s₂ =>
          wpAny (model prog w) A (forIn ifs true fun c r => if r = true then do let ok ← isTrue c env (eval c env); pure (ForInStep.yield ok) else pure (ForInStep.yield r)) (fun ok s₃ =>
            if ok = true then wpAny (model prog w) A (eval elt env) (fun x s₄ =>
              wpAny (model prog w) A (call (.builtin "list.append") [acc, x]) (fun _ s₅ => ∃ m, m < n ∧ I m s₅) (notedBy (model prog w) A env fun e s' => R (.error e) s') s₄) (notedBy (model prog w) A env fun e s' => R (.error e) s') s₃
            else ∃ m, m < n ∧ I m s₃) (notedBy (model prog w) A env fun e s' => R (.error e) s') s₂) (notedBy (model prog w) A env fun e s' => R (.error e) s') s₁') (notedBy (model prog w) A env fun e s' => R (.error e) s') s₁) (notedBy (model prog w) A env fun e s' => R (.error e) s') s)
    (n : Nat) (h : I n s) :
    codeAny (model prog w) A (.compLoop (.ListComp elt [⟨target, iter, ifs, 0⟩] scope pos) 0 it acc env) R s := by
  refine codeAny_loop rfl I (fun n s hI => ?_) n h
  show wpAny _ A ((compTurn (.ListComp elt [⟨target, iter, ifs, 0⟩] scope pos) 0 it acc env).onRaise (fun x => do noteFrame x env; theTreesLotGoes x)) _ _ s
  refine wpAny_noted ?_
  rw [compTurn_list]
  refine wpAny_bind (wpAny_standAt (wpAny_bind (wpAny_mono (turn n s hI) (fun r s₁ h₁ => ?_) fun _ _ h' => h')))
  cases r with
  | none => exact wpAny_pure h₁
  | some v =>
    refine wpAny_bind (wpAny_mono h₁ (fun _ s₁' h₁' => ?_) fun _ _ h' => h')
    refine wpAny_bind (wpAny_mono h₁' (fun _ s₂ h₂ => wpAny_bind (wpAny_mono h₂ (fun ok s₃ h₃ => ?_) fun _ _ h' => h')) fun _ _ h' => h')
    cases ok with
    | false => exact wpAny_pure ⟨rfl, h₃⟩
    | true =>
      exact wpAny_bind (wpAny_bind (wpAny_mono h₃ (fun x s₄ h₄ => wpAny_bind (wpAny_mono h₄ (fun _ s₅ h₅ => wpAny_pure (wpAny_pure ⟨rfl, h₅⟩)) fun _ _ h' => h')) fun _ _ h' => h'))
section
variable {X : Cx}
def tLc (wi : TI) (g : TG) (tt : TT) (te : TE) (vs : List Nat) : TE := fun σ H Q => wi σ H fun J H1 => ∀ D, H1 D = none → ∃ W : Nat → Nat → Hp → Prop, (∃ m, W 0 m (upd H1 D (.lst []))) ∧ ∀ i m H, W i m H →
  (J.stop i H ∧ Q (.ref D) H) ∨ (J.go i H ∧ ∃ Nx : Hp → Prop, (∀ H', Nx H' → ∃ m', m' < m ∧ W (i + 1) m' H') ∧ ∀ x H', J.yld i H x H' → g x (wipe σ vs) H' fun σ2 H2 => wipe σ2 vs = wipe σ vs ∧ tt σ2 H2 fun b H3 =>
    if b = true then te σ2 H3 fun y H4 => ∃ acc, H4 D = some (.lst acc) ∧ acc.length < sizeLine ∧ Nx (upd H4 D (.lst (acc ++ [y]))) else Nx H3)
theorem lc_core {pins : List (Addr × Obj)} {s : Shared} {σ : St} {H : Hp} {Q : VK} {elt tg iter : Expr} {ifs : List Expr} {scope : Scope} {own : List (Str × Nat)} {pos pos' : Pos} {wi : TI} {g : TG} {tt : TT} {te : TE} {use : Option (Value → Sem Unit)} {Qf : Value → Shared → Prop}
    (hc : X.calm = true) (hN : X.N.Nodup) (I : Inv X pins σ H s) (hi : PI X tg iter wi) (ok : BlkOk X.N X.env.scope scope own)
    (hg : ∀ (s : Shared) (H : Hp) (C : Addr) (cl : List (Str × Addr)) (fp : List Addr), PG (X.blk s H scope (compEnvC scope cl C X.env) fp) tg g) (ht : ∀ (s : Shared) (H : Hp) (C : Addr) (cl : List (Str × Addr)) (fp : List Addr), PTs (X.blk s H scope (compEnvC scope cl C X.env) fp) ifs tt)
    (he : ∀ (s : Shared) (H : Hp) (C : Addr) (cl : List (Str × Addr)) (fp : List Addr), PE (X.blk s H scope (compEnvC scope cl C X.env) fp) elt te) (hs : ∀ x, foldedSetIterable iter X.env x = pure x)
    (h : tLc wi g tt te (own.map (·.2)) σ H Q)
    (hRR : ∀ D C s' m H', Inv X pins σ H' s' → Q (.ref D) H' → s'.heap.Ns C m → FpOk X pins H' C → compPost (model X.prog X.w) X.A X.xe use Qf (.ref D) C (.ok .next) s') :
    wpAny (model X.prog X.w) X.A (comprehension (.ListComp elt [⟨tg, iter, ifs, 0⟩] scope pos) scope X.env pos' (newList []) false (eval iter X.env) use) Qf X.xe s := by
  have hfree : ∀ y ∈ scope.names, y.2 = .free → ∃ c, X.env.cells.lookup y.1 = some c := fun y hy e => by
    rcases ok.free y hy e with k | k
    · exact I.ok.has _ (.inl k)
    · exact I.ok.has _ (.inr k)
  refine wpAny_comprehension_free (use := use) rfl hs (closure_ok hfree) ok.kind (fun y hy e => by rw [ok.uniq y hy, e])
    (thn (hi pins s σ H _ I h) fun xv s1 hx => thn hx fun itv s2 h2 => ?_)
  obtain ⟨it, fp, tn, J, H2, e, I2, T, st2, f2, q⟩ := h2
  subst e
  refine wpAny_newObj_type (newEnv_comp ?_) (by show 0 ≤ sizeLine; decide)
  generalize hD : s2.heap.objs.size = D
  have hDn : H2 D = none := I2.hok.fresh (Nat.le_of_eq hD)
  obtain ⟨W, ⟨m0, w0⟩, turn⟩ := q D hDn
  -- the new list
  generalize hs3 : ({ s2 with heap := s2.heap.push { cls := .type "list", data := .seq ([] : List Value).toArray } } : Shared) = s3
  have I3 : Inv X pins σ (upd H2 D (.lst [])) s3 := by
    rw [← hs3]
    refine I2.laid (t' := s2.toks) (fun b o e => Heap.get?_push_of_some _ e) (Nat.le_of_eq hD) ⟨Nat.zero_le _, [], 0, .nil, ?_⟩
    rw [← hD]
    exact Heap.get?_push_size _ rfl
  have h3 : s3.heap = s2.heap.push { cls := .type "list", data := .seq ([] : List Value).toArray } := by rw [← hs3]
  have sz : ∀ b ∈ fp, b < s2.heap.objs.size := fun b hb => by
    obtain ⟨o, e, _⟩ := T.obj _ _ st2 b hb
    exact Heap.lt_size e
  have f3 : ∀ b ∈ fp, FpOk X pins (upd H2 D (.lst [])) b ∧ b < s3.heap.objs.size := fun b hb => by
    have hlt := sz b hb
    refine ⟨⟨?_, (f2 b hb).2⟩, by rw [h3, Heap.size_push]; exact Nat.lt_succ_of_lt hlt⟩
    rw [upd_ne (by rw [← hD]; exact Nat.ne_of_lt hlt)]
    exact (f2 b hb).1
  have st3 : tn 0 s3.heap := T.keep _ _ _ st2 fun b _ o e => by rw [h3]; exact Heap.get?_push_of_some _ e
  have I4 := block_start I3 ok hN f3
  have pg := hg s3 (upd H2 D (.lst [])) s3.heap.objs.size (cellsFrom (s3.heap.objs.size + 1) scope.names (cloFrom X.env.cells scope.names [])) fp
  have pt := ht s3 (upd H2 D (.lst [])) s3.heap.objs.size (cellsFrom (s3.heap.objs.size + 1) scope.names (cloFrom X.env.cells scope.names [])) fp
  have pe := he s3 (upd H2 D (.lst [])) s3.heap.objs.size (cellsFrom (s3.heap.objs.size + 1) scope.names (cloFrom X.env.cells scope.names [])) fp
  show codeAny _ _ (.compStart (.ListComp elt [⟨tg, iter, ifs, 0⟩] scope pos) 0 (.ref it) (.ref D) (compEnvC scope (cellsFrom (s3.heap.objs.size + 1) scope.names (cloFrom X.env.cells scope.names [])) s3.heap.objs.size X.env)) (compPost (model X.prog X.w) X.A X.xe use Qf (.ref D) s3.heap.objs.size) { s3 with heap := pushCells (s3.heap.push { cls := .type "dict", data := .dict #[] }) scope.names }
  have nfp : ∀ b ∈ fp, (upd H2 D (.lst [])) b = none := fun b hb => (f3 b hb).1.1
  generalize hce : compEnvC scope (cellsFrom (s3.heap.objs.size + 1) scope.names (cloFrom X.env.cells scope.names [])) s3.heap.objs.size X.env = ce at I4 pg pt pe ⊢
  have cL : ce.locals = s3.heap.objs.size := by subst hce; rfl
  generalize hH3 : upd H2 D (.lst []) = H3 at I3 I4 pg pt pe w0 nfp f3
  generalize hs4 : ({ s3 with heap := pushCells (s3.heap.push { cls := .type "dict", data := .dict #[] }) scope.names } : Shared) = s4 at I4 ⊢
  have st4 : tn 0 s4.heap := T.keep _ _ _ st3 fun b _ o e => by rw [← hs4]; exact pushCells_keeps _ _ _ _ (Heap.get?_push_of_some _ e)
  have stat : ∀ {σ' : St} {H' : Hp} {s' : Shared}, Inv (X.blk s3 H3 scope ce fp) [] σ' H' s' → (∀ b ∈ fp, H' b = none) → ∀ b ∈ fp, FpOk (X.blk s3 H3 scope ce fp) [] H' b := fun {σ' H' s'} I' hn b hb =>
    ⟨hn b hb, (I'.ok.exf b hb).1, I'.ok.exfs b hb, .inl hb, fun x c e => (I'.ok.exf b hb).2 x c e, fun p hp => absurd (show p ∈ ([] : List (Addr × Obj)) ++ [] from hp) (by simp)⟩
  have loop : codeAny (model X.prog X.w) X.A (.compLoop (.ListComp elt [⟨tg, iter, ifs, 0⟩] scope pos) 0 (.ref it) (.ref D) ce) (compPost (model X.prog X.w) X.A X.xe use Qf (.ref D) s3.heap.objs.size) s4 := by
    refine compLoop_any (fun n s' => ∃ i H', Inv (X.blk s3 H3 scope ce fp) [] (wipe σ (own.map (·.2))) H' s' ∧ tn i s'.heap ∧ (∀ b ∈ fp, H' b = none) ∧ W i n H') ?_ m0 ⟨0, H3, I4, st4, nfp, w0⟩
    rintro n s5 ⟨i, H5, I5, st5, n5, w5⟩
    rcases turn i n H5 w5 with ⟨stop, qq⟩ | ⟨go, Nx, hNx, step⟩
    · have td := T.done (X.blk s3 H3 scope ce fp) rfl rfl rfl hc i [] s5 _ H5 (fun _ _ => False) I5 (stat I5 n5) st5 stop
      refine thnF td fun r s6 ⟨hr, I6⟩ => ?_
      subst hr
      -- back in the def's context
      have I7 : Inv X pins σ H5 s6 := I3.call' (ch := fp) I6.os I6.base I6.hok I6.bare fun b hb => ⟨(f3 b hb).1.2.2.2.1, (f3 b hb).1.2.1, (f3 b hb).1.2.2.2.2.1, (f3 b hb).1.2.2.2.2.2⟩
      have nC : H5 s3.heap.objs.size = none := by
        have z : H5 ce.locals = none := I6.free
        rw [cL] at z
        exact z
      obtain ⟨m, hn, _⟩ := I6.loc
      have hn : s6.heap.Ns ce.locals m := hn
      rw [cL] at hn
      exact hRR D s3.heap.objs.size s6 m H5 I7 qq hn (I3.fpOk (Nat.le_refl _) nC)
    · have ti := T.item (X.blk s3 H3 scope ce fp) rfl rfl rfl hc i [] s5 _ H5 (fun _ _ => False) I5 (stat I5 n5) st5 go
      refine thnF ti fun r s6 ⟨u, hr, h6⟩ => ?_
      subst hr
      refine thnF h6 fun _ s7 ⟨x, H7, I7, r7, y7, st7, n7⟩ => ?_
      have I7' := I7.pinned (stat I7 n7) (T.obj _ _ st7)
      refine thnF (pg _ s7 _ H7 x u _ I7' r7 (step x H7 y7)) fun _ s8 ⟨σ8, H8, I8, hw8, q8⟩ => ?_
      refine thnF (pt _ s8 σ8 H8 _ I8 q8) fun b s9 ⟨H9, I9, q9⟩ => ?_
      -- the turn's end
      have fin : ∀ {s' : Shared} {H' : Hp}, Inv (X.blk s3 H3 scope ce fp) ([] ++ pinsAt fp s7.heap) σ8 H' s' → Nx H' → ∃ m, m < n ∧ ∃ i H', Inv (X.blk s3 H3 scope ce fp) [] (wipe σ (own.map (·.2))) H' s' ∧ tn i s'.heap ∧ (∀ b ∈ fp, H' b = none) ∧ W i m H' := fun {s' H'} I' nx => by
        obtain ⟨m', hm, w'⟩ := hNx H' nx
        have pin' : ∀ b ∈ fp, ∀ o, s7.heap.get? b = some o → s'.heap.get? b = some o ∧ H' b = none := fun b hb o e =>
          let z := I'.pin (b, o) (List.mem_append_right _ (List.mem_append_right _ (mem_pinsAt hb e)))
          ⟨z.1, z.2.1⟩
        have hl : (wipe σ (own.map (·.2))).length = σ8.length := by rw [← hw8, wipe_length]
        refine ⟨m', hm, i + 1, H', (I'.unpinned (pins := [])).weak hl (fun j v e => ?_), T.keep _ _ _ st7 fun b hb o e => (pin' b hb o e).1, fun b hb => ?_, w'⟩
        · rw [← hw8] at e
          exact (wipe_some e).1
        · obtain ⟨o, e, _⟩ := T.obj _ _ st7 b hb
          exact (pin' b hb o e).2
      cases b with
      | false =>
        simp only [Bool.false_eq_true, if_false] at q9 ⊢
        exact fin I9 q9
      | true =>
        simp only [if_true] at q9 ⊢
        refine thnF (pe _ s9 σ8 H9 _ I9 q9) fun z s10 ⟨yv, H10, I10, r10, acc, hD10, hz10, nx⟩ => ?_
        exact app_ok (X := X.blk s3 H3 scope ce fp) I10 hD10 hz10 r10 fun s11 I11 => fin I11 nx
  exact codeAny_compStart_list loop (T.self X.A 0 _ _ _ st4 loop)
theorem pe_lc {elt tg iter : Expr} {ifs : List Expr} {scope : Scope} {own : List (Str × Nat)} {pos : Pos} {wi : TI} {g : TG} {tt : TT} {te : TE} (hc : X.calm = true) (hN : X.N.Nodup) (hi : PI X tg iter wi) (ok : BlkOk X.N X.env.scope scope own)
    (hg : ∀ (s : Shared) (H : Hp) (C : Addr) (cl : List (Str × Addr)) (fp : List Addr), PG (X.blk s H scope (compEnvC scope cl C X.env) fp) tg g) (ht : ∀ (s : Shared) (H : Hp) (C : Addr) (cl : List (Str × Addr)) (fp : List Addr), PTs (X.blk s H scope (compEnvC scope cl C X.env) fp) ifs tt)
    (he : ∀ (s : Shared) (H : Hp) (C : Addr) (cl : List (Str × Addr)) (fp : List Addr), PE (X.blk s H scope (compEnvC scope cl C X.env) fp) elt te) (hs : ∀ x, foldedSetIterable iter X.env x = pure x := by intro _; rfl) :
    PE X (.ListComp elt [⟨tg, iter, ifs, 0⟩] scope pos) (tLc wi g tt te (own.map (·.2))) := by
  intro pins s σ H Q I h
  rw [eval_ListComp]
  refine lc_core hc hN I hi ok hg ht he hs h fun D C s' m H' I' q hn f => ⟨m, hn, fun h'' sb => ?_⟩
  obtain ⟨f0, f1, f2, f3, f4, f5⟩ := f
  exact ⟨.ref D, H', I'.turned (t' := s'.toks) (fun b o hb e => (sb.2 b hb).trans e) f0 f1 f3 f4 f5, rfl, q⟩
theorem ps_setLc {i : Nat} {y : Str} {py : Pos} {elt tg iter : Expr} {ifs : List Expr} {scope : Scope} {own : List (Str × Nat)} {pos spos : Pos} {wi : TI} {g : TG} {tt : TT} {te : TE} (hc : X.calm = true) (hN : X.N.Nodup) (hy : X.N[i]? = some y) (hyl : X.env.scope.names.lookup y = some .local)
    (hsw : swapsWith (.ListComp elt [⟨tg, iter, ifs, 0⟩] scope pos) (some (.Name y py)) spos.line X.env = pure true) (hi : PI X tg iter wi) (ok : BlkOk X.N X.env.scope scope own)
    (hg : ∀ (s : Shared) (H : Hp) (C : Addr) (cl : List (Str × Addr)) (fp : List Addr), PG (X.blk s H scope (compEnvC scope cl C X.env) fp) tg g) (ht : ∀ (s : Shared) (H : Hp) (C : Addr) (cl : List (Str × Addr)) (fp : List Addr), PTs (X.blk s H scope (compEnvC scope cl C X.env) fp) ifs tt)
    (he : ∀ (s : Shared) (H : Hp) (C : Addr) (cl : List (Str × Addr)) (fp : List Addr), PE (X.blk s H scope (compEnvC scope cl C X.env) fp) elt te) (hs : ∀ x, foldedSetIterable iter X.env x = pure x := by intro _; rfl) :
    PS X (.Assign [.Name y py] (.ListComp elt [⟨tg, iter, ifs, 0⟩] scope pos) spos) (tAsg (tLc wi g tt te (own.map (·.2))) (gName i)) := by
  intro pins s σ H D I h
  rw [exec_Assign_Name_used _ _ _ _ hsw]
  refine wpAny_bind (wpAny_standAt (wpAny_bind ?_))
  show wpAny _ X.A (do let _ ← comprehension (.ListComp elt [⟨tg, iter, ifs, 0⟩] scope pos) scope X.env (firstIterPos [⟨tg, iter, ifs, 0⟩] pos) (newList []) false (eval iter X.env) (some (assign (.Name y py) X.env))) _ _ s
  have h : tLc wi g tt te (own.map (·.2)) σ H (fun x H1 => gName i x σ H1 D.nx) := h
  refine wpAny_bind (thn (lc_core (Qf := fun _ s' => SP X pins D .next s') hc hN I hi ok hg ht he hs h fun L C s' m H' I' q hn f => ?_) fun _ s' hq => wpAny_pure (wpAny_pure hq))
  show wpAny _ _ (assign (.Name y py) X.env (.ref L)) _ _ _
  refine wpAny_assign_Name (store_ok2 (v := V.ref L) I' hN hy (.inl hyl) rfl (fun s2 I2 ⟨a, sb, ha⟩ => ?_) (.inr hyl))
  obtain ⟨f0, f1, f2, f3, f4, f5⟩ := f
  have haC : C ≠ a := by
    rcases ha with z | z
    · rw [z]; exact f1
    · exact fun e => f4 y a z e.symm
  refine ⟨m, hn.sameBut sb haC, fun h3 sb3 => ?_⟩
  exact ⟨_, H', I2.turned (t' := s2.toks) (fun b o hb e => (sb3.2 b hb).trans e) f0 f1 f3 f4 f5, q⟩
theorem sw_true {elt : Expr} {gs : List Comprehension} {scope : Scope} {pos py : Pos} {y : Str} {l : Nat} {env : Env} (hk : env.scope.kind = .function) (hy : env.scope.names.lookup y = some .local) (hl : (py.line == pos.line) = true)
    (ha : (scope.names.any fun (n, k) => n == y && (k == .local || k == .cell)) = false) : swapsWith (.ListComp elt gs scope pos) (some (.Name y py)) l env = pure true := by
  have ky : env.kindOf y = some .local := hy
  have hb : env.blockKind = .function := by unfold Env.blockKind; rw [hk]; rfl
  unfold swapsWith
  simp only [hb, ky, ha, Expr.pos, hl]
  rfl
end
theorem lc_range {lo : Int} {n : Nat} {g : TG} {tt : TT} {te : TE} {vs : List Nat} {σ : St} {H1 : Hp} {D : Addr} {Qd : Hp → Prop} (Pv : Nat → Hp → Prop) (h0 : Pv 0 (upd H1 D (.lst [])))
    (hs : ∀ i H, i < n → Pv i H → g (.int (lo + i)) (wipe σ vs) H fun σ2 H2 => wipe σ2 vs = wipe σ vs ∧ tt σ2 H2 fun b H3 =>
      if b = true then te σ2 H3 fun y H4 => ∃ acc, H4 D = some (.lst acc) ∧ acc.length < sizeLine ∧ Pv (i + 1) (upd H4 D (.lst (acc ++ [y]))) else Pv (i + 1) H3) (hd : ∀ H, Pv n H → Qd H) :
    ∃ W : Nat → Nat → Hp → Prop, (∃ m, W 0 m (upd H1 D (.lst []))) ∧ ∀ i m H, W i m H →
      ((Itr lo n).stop i H ∧ Qd H) ∨ ((Itr lo n).go i H ∧ ∃ Nx : Hp → Prop, (∀ H', Nx H' → ∃ m', m' < m ∧ W (i + 1) m' H') ∧ ∀ x H', (Itr lo n).yld i H x H' → g x (wipe σ vs) H' fun σ2 H2 => wipe σ2 vs = wipe σ vs ∧ tt σ2 H2 fun b H3 =>
        if b = true then te σ2 H3 fun y H4 => ∃ acc, H4 D = some (.lst acc) ∧ acc.length < sizeLine ∧ Nx (upd H4 D (.lst (acc ++ [y]))) else Nx H3) := by
  refine ⟨fun i m H => m = n - i ∧ i ≤ n ∧ Pv i H, ⟨n, by simp, Nat.zero_le _, h0⟩, ?_⟩
  rintro i m H ⟨rfl, hi, p⟩
  by_cases hlt : i < n
  · refine .inr ⟨hlt, Pv (i + 1), fun H' p' => ⟨n - (i + 1), by omega, rfl, hlt, p'⟩, fun x H' y => ?_⟩
    obtain ⟨e, y⟩ := y
    subst e y
    exact hs i _ hlt p
  · have e : i = n := by omega
    subst e
    exact .inl ⟨Nat.le_refl _, hd H p⟩
theorem lc_list {K : PySem.W.Frag} {a : Addr} {xs : List V} {g : TG} {tt : TT} {te : TE} {vs : List Nat} {σ : St} {H1 : Hp} {D : Addr} {Qd : Hp → Prop} (Pv : Nat → Hp → Prop) (h0 : Pv 0 (upd H1 D (.lst []))) (hl : ∀ i H, i ≤ xs.length → Pv i H → SqL K H a xs)
    (hs : ∀ i x H, xs[i]? = some x → Pv i H → g x (wipe σ vs) H fun σ2 H2 => wipe σ2 vs = wipe σ vs ∧ tt σ2 H2 fun b H3 =>
      if b = true then te σ2 H3 fun y H4 => ∃ acc, H4 D = some (.lst acc) ∧ acc.length < sizeLine ∧ Pv (i + 1) (upd H4 D (.lst (acc ++ [y]))) else Pv (i + 1) H3) (hd : ∀ H, Pv xs.length H → Qd H) :
    ∃ W : Nat → Nat → Hp → Prop, (∃ m, W 0 m (upd H1 D (.lst []))) ∧ ∀ i m H, W i m H →
      ((Itl K a).stop i H ∧ Qd H) ∨ ((Itl K a).go i H ∧ ∃ Nx : Hp → Prop, (∀ H', Nx H' → ∃ m', m' < m ∧ W (i + 1) m' H') ∧ ∀ x H', (Itl K a).yld i H x H' → g x (wipe σ vs) H' fun σ2 H2 => wipe σ2 vs = wipe σ vs ∧ tt σ2 H2 fun b H3 =>
        if b = true then te σ2 H3 fun y H4 => ∃ acc, H4 D = some (.lst acc) ∧ acc.length < sizeLine ∧ Nx (upd H4 D (.lst (acc ++ [y]))) else Nx H3) := by
  refine ⟨fun i m H => m = xs.length - i ∧ i ≤ xs.length ∧ Pv i H, ⟨xs.length, by simp, Nat.zero_le _, h0⟩, ?_⟩
  rintro i m H ⟨rfl, hi, p⟩
  have q := hl i H hi p
  by_cases hlt : i < xs.length
  · refine .inr ⟨⟨xs, xs[i], q, by simp [hlt]⟩, Pv (i + 1), fun H' p' => ⟨xs.length - (i + 1), by omega, rfl, hlt, p'⟩, fun x H' y => ?_⟩
    obtain ⟨e, y⟩ := y
    subst e
    exact hs i x _ (y xs q) p
  · have e : i = xs.length := by omega
    subst e
    exact .inl ⟨⟨xs, q, Nat.le_refl _⟩, hd H p⟩
end L2
namespace L2
open PySem PySem.Spec PyProof.Rows
section
variable {prog : Program} {w : World} {A : Around} {R : Result → Shared → Prop} {s : Shared} {elt t0 i0 t1 i1 : Expr} {ifs0 ifs1 : List Expr} {scope : Scope} {pos : Pos} {it acc : Value} {env : Env}
end
section
variable {X : Cx}
end
end L2
namespace L2
open PySem PySem.Spec PyProof.Rows
section
variable {κ : Type} [DecidableEq κ]
end
section
variable {P : Program} {w : World} {H : Hp} {h : Heap} {a : Addr}
end
section
variable {X : Cx} {pins : List (Addr × Obj)} {σ : St} {H : Hp} {s : Shared} {a : Addr} {y v : V} {u r : Value} {o : Option V} {A : Around} {E : Value → Shared → Prop}
end
section
variable {X : Cx} {pins : List (Addr × Obj)} {σ : St} {H : Hp} {s : Shared} {a : Addr} {kvs : List (Key × V)} {k : Key} {u : Value} {A : Around} {E : Value → Shared → Prop}
end
section
variable {X : Cx} {o i e value : Expr} {pos pos' tpos : Pos} {td ty tv : TE}
end
section
variable {X : Cx} {pos : Pos}
end
section
variable {X : Cx} {pins : List (Addr × Obj)} {σ : St} {H : Hp} {s : Shared} {a : Addr} {y d : V} {u r : Value} {o : Option V} {A : Around} {E : Value → Shared → Prop}
end
section
variable {X : Cx} {o e f : Expr} {apos cpos : Pos} {td ty tx : TE}
end
section
variable {X : Cx} {pins : List (Addr × Obj)} {σ : St} {H : Hp} {s : Shared} {a : Addr} {kvs : List (Key × V)} {A : Around} {E : Value → Shared → Prop}
end
section
variable {X : Cx} {pins : List (Addr × Obj)} {σ : St} {H : Hp} {s : Shared} {a : Addr} {y : V} {u : Value} {A : Around} {E : Value → Shared → Prop}
end
end L2
namespace L2
open PySem PySem.Spec PyProof.Rows
section
variable {prog : Program} {w : World} {A : Around} {E : Value → Shared → Prop}
end
section
variable {X : Cx}
end
end L2
namespace L2
open PySem PySem.Spec PyProof.Rows
section
variable {X : Cx} {pins : List (Addr × Obj)} {σ : St} {H : Hp} {s : Shared} {h' : Heap}
theorem Inv.turnedL {t' : Nat} {ch : List Addr} (I : Inv X pins σ H s) (k : ∀ b o, b ∉ ch → s.heap.get? b = some o → h'.get? b = some o) (hf : ∀ b ∈ ch, FpOk X pins H b) : Inv X pins σ H { s with heap := h', toks := t' } := by
  have nit : ∀ b u, H b = some u → b ∉ ch := fun b u e z => by
    have q := (hf b z).1
    rw [q] at e; cases e
  refine I.step (g' := s.gens) (d' := s.drawn) (ch := ch) (fun b hb => ⟨(hf b hb).2.2.2.1, (hf b hb).2.1, (hf b hb).2.2.2.2.1, (hf b hb).2.2.2.2.2⟩) (fun b o _ _ hc e _ => k b o hc e) (fun b o _ _ hc e _ => ⟨o.slots, k b o hc e⟩)
    (fun _ _ _ _ n => n) (fun b o hc e => ⟨o, k b o hc e⟩) (fun _ _ e => e) (fun _ _ _ e => e) (fun b ps e => ⟨#[], by rw [e]; simp⟩) (fun m hm => ?_) (fun b u e => ?_) I.bare
  · obtain ⟨o, es, ep, ho, r⟩ := hm
    exact ⟨o, es, ep, k _ o (fun z => (hf _ z).2.1 rfl) ho, r⟩
  · refine (I.hok b u e).stay (fun c v hc q => k c v ?_ q) (fun _ q => q) fun _ _ q => q
    rcases hc with z | z
    · rw [z]; exact nit b u e
    · exact nit c _ z
theorem Inv.turnedNew {t' : Nat} {ch : List Addr} {T : Addr} {ob : HO} (I : Inv X pins σ H s) (k : ∀ b o, b ∉ ch → s.heap.get? b = some o → h'.get? b = some o) (hf : ∀ b ∈ ch, FpOk X pins H b) (hT : s.heap.objs.size ≤ T)
    (new : ObjOk X.prog X.w (upd H T ob) h' T ob) : Inv X pins σ (upd H T ob) { s with heap := h', toks := t' } := by
  have hn : H T = none := I.hok.fresh hT
  have nit : ∀ b u, H b = some u → b ∉ ch := fun b u e z => by
    have q := (hf b z).1
    rw [q] at e; cases e
  refine I.step (g' := s.gens) (d' := s.drawn) (ch := ch) (fun b hb => ⟨(hf b hb).2.2.2.1, (hf b hb).2.1, (hf b hb).2.2.2.2.1, (hf b hb).2.2.2.2.2⟩) (fun b o _ _ hc e _ => k b o hc e) (fun b o _ _ hc e _ => ⟨o.slots, k b o hc e⟩)
    (fun b o _ e n => ?_) (fun b o hc e => ⟨o, k b o hc e⟩) (fun b xs e => ?_) (fun b o u e => ?_) (fun b ps e => ⟨#[], ?_⟩) (fun m hm => ?_) (fun b u e => ?_) I.bare
  · rw [upd_ne (Nat.ne_of_lt (Nat.lt_of_lt_of_le (Heap.lt_size e) hT))]; exact n
  · rw [upd_ne (ne_of_none e hn)]; exact e
  · rw [upd_ne (ne_of_none e hn)]; exact e
  · rw [upd_ne (ne_of_none e hn), e]; simp
  · obtain ⟨o, es, ep, ho, r⟩ := hm
    exact ⟨o, es, ep, k _ o (fun z => (hf _ z).2.1 rfl) ho, r⟩
  · by_cases hb : b = T
    · subst hb
      rw [upd_same] at e
      cases e
      exact new
    · rw [upd_ne hb] at e
      refine (I.hok b u e).stay (fun c v hc q => k c v ?_ q) (fun c q => by rw [upd_ne (ne_of_none q hn)]; exact q) fun c xs q => by rw [upd_ne (ne_of_none q hn)]; exact q
      rcases hc with z | z
      · rw [z]; exact nit b u e
      · exact nit c _ z
theorem Inv.lock {d : Addr} {u : HO} (I : Inv X pins σ H s) (h : H d = some u) (mu : Mut (some u)) : ∃ od, Inv X pins σ (upd H d (.frz od u)) s := by
  have x := I.hok d u h
  have ex : ∃ od, s.heap.get? d = some od := by
    cases u with
    | lst xs => obtain ⟨_, _, _, _, e⟩ := x; exact ⟨_, e⟩
    | dK kvs => obtain ⟨_, _, _, _, o, _, _, e, _⟩ := x; exact ⟨o, e⟩
    | dT kvs => obtain ⟨_, _, _, _, o, _, _, e, _⟩ := x; exact ⟨o, e⟩
    | set S n => obtain ⟨o, _, _, _, e, _⟩ := x; exact ⟨o, e⟩
    | ins C dx fs => obtain ⟨_, _, _, e, _⟩ := x; exact ⟨_, e⟩
    | ext φ => obtain ⟨_, ⟨_, e⟩, _⟩ := x; exact ⟨_, e⟩
    | _ => exact False.elim mu
  obtain ⟨od, e⟩ := ex
  have new : ObjOk X.prog X.w (upd H d (.frz od u)) s.heap d (.frz od u) := by
    refine ⟨e, x.stay (fun b v _ q => q) (fun b q => ?_) fun b xs q => ?_⟩
    · rw [upd_ne (fun z => by rw [z, h] at q; cases q; exact mu)]; exact q
    · rw [upd_ne (fun z => by rw [z, h] at q; cases q; exact mu)]; exact q
  exact ⟨od, I.write (x := d) (e := d) (t' := s.toks) (h' := s.heap) (by rw [h]; exact mu) (.inl rfl) (fun b v _ q => q) ⟨od, e⟩ new⟩
theorem Inv.nofrz {d : Addr} {u : HO} (I : Inv X pins σ H s) (h : H d = some u) (mu : Mut (some u)) : ∀ o' u', X.H_0 d ≠ some (.frz o' u') := fun o' u' e => by
  have q := I.base.frzs d o' u' e
  rw [h] at q
  cases q
  exact mu
theorem Inv.unlock {d : Addr} {od : Obj} {u : HO} (I : Inv X pins σ H s) (h : H d = some (.frz od u)) (hn : ∀ o' u', X.H_0 d ≠ some (.frz o' u')) : Inv X pins σ (upd H d u) s := by
  have neH : ∀ b o, H b = some o → (∀ o' u', o ≠ .frz o' u') → b ≠ d := fun b o e hne z => by
    rw [z, h] at e
    cases e
    exact hne _ _ rfl
  have neN : ∀ b, H b = none → b ≠ d := fun b e z => by rw [z, h] at e; cases e
  refine ⟨I.ok, I.os, I.bare, ⟨I.base.keep, I.base.slot, fun b o e n hx => ?_, I.base.there, fun b xs e => ?_, fun b o x e => ?_, fun b ps e => ?_⟩, I.loc, I.cell, ?_, fun x c e => ?_, fun p hp => ?_, fun b o e => ?_, I.len⟩
  · rw [upd_ne (neN b (I.base.free b o e n hx))]; exact I.base.free b o e n hx
  · have q := I.base.tups b xs e
    rw [upd_ne (neH b _ q (fun _ _ z => nomatch z))]; exact q
  · have q := I.base.frzs b o x e
    rw [upd_ne (fun z => by rw [z] at e; exact hn _ _ e)]; exact q
  · obtain ⟨m, q⟩ := I.base.tbls b ps e
    exact ⟨m, by rw [upd_ne (neH b _ q (fun _ _ z => nomatch z))]; exact q⟩
  · rw [upd_ne (neN _ I.free)]; exact I.free
  · rw [upd_ne (neN c (I.freeC x c e))]; exact I.freeC x c e
  · obtain ⟨e, n, r⟩ := I.pin p hp
    exact ⟨e, by rw [upd_ne (neN _ n)]; exact n, r⟩
  · by_cases hb : b = d
    · rw [hb, upd_same] at e
      cases e
      rw [hb]
      obtain ⟨_, x⟩ := I.hok d _ h
      exact x.stay (fun c v _ q => q) (fun c q => by rw [upd_ne (neH c _ q (fun _ _ z => nomatch z))]; exact q) fun c xs q => by rw [upd_ne (neH c _ q (fun _ _ z => nomatch z))]; exact q
    · rw [upd_ne hb] at e
      exact (I.hok b o e).stay (fun c v _ q => q) (fun c q => by rw [upd_ne (neH c _ q (fun _ _ z => nomatch z))]; exact q) fun c xs q => by rw [upd_ne (neH c _ q (fun _ _ z => nomatch z))]; exact q
end
def tLockE (t : TE) : TE := fun σ H Q => ∃ d u, H d = some u ∧ Mut (some u) ∧ ∀ od, t σ (upd H d (.frz od u)) fun v H' => H' d = some (.frz od u) ∧ Q v (upd H' d u)
section
variable {X : Cx}
theorem pe_lock {e : Expr} {t : TE} (h : PE X e t) : PE X e (tLockE t) := by
  intro pins s σ H Q I hw
  obtain ⟨d, u, hd, mu, hw⟩ := hw
  obtain ⟨od, I1⟩ := I.lock hd mu
  refine thn (h pins s σ _ _ I1 (hw od)) fun v s1 ⟨x, H1, I2, r, e2, q⟩ => ?_
  exact ⟨x, _, I2.unlock e2 (I.nofrz hd mu), r, q⟩
end
section
variable {X : Cx} {tg : Expr}
end
section
variable {X : Cx} {tg : Expr}
end
section
variable {prog : Program} {w : World} {A : Around} {E : Value → Shared → Prop} {s : Shared}
end
section
variable {X : Cx} {pins : List (Addr × Obj)} {σ : St} {H : Hp} {s : Shared} {d : Addr} {o : Obj}
end
section
variable {P : Program} {w : World} {K : PySem.W.Frag} {tg : Expr} {d : Addr} {o : Obj} {es : Array DictEntry} {ep : Nat}
end
section
variable {X : Cx} {tg e : Expr} {td : TE} {apos cpos : Pos}
end
theorem boot_zip5 : bootBuiltins "zip" = some (.type "zip") := by decide +kernel
def Itz (K : PySem.W.Frag) (a b : Addr) : It :=
  ⟨fun i H => ∃ (xs ys : List V) (x y : V), SqL K H a xs ∧ SqL K H b ys ∧ xs[i]? = some x ∧ ys[i]? = some y,
    fun i H v H' => ∃ T x y, v = .ref T ∧ H T = none ∧ H' = upd H T (.tup [x, y]) ∧ (∀ xs, SqL K H a xs → xs[i]? = some x) ∧ ∀ ys, SqL K H b ys → ys[i]? = some y,
    fun i H => ∃ xs ys : List V, SqL K H a xs ∧ SqL K H b ys ∧ (xs.length ≤ i ∨ ys.length ≤ i)⟩
theorem turn_zip {P : Program} {w : World} {K : PySem.W.Frag} {elts : List Expr} {kk : Nat} {tpos : Pos} {a b z TI TO i1 i2 : Addr} (D : ZipApart z TI TO i1 i2 a b) :
    Turn P w K (.Tuple elts kk tpos) (Itz K a b) [z, TI, TO, i1, i2] z (fun i h => IsZip h z TI TO .none ∧ IsPair h TI (.ref i1) (.ref i2) ∧ (∃ x y, IsPair h TO x y) ∧ h.IsListIter i1 a i ∧ h.IsListIter i2 b i) where
  mem := by simp
  obj := fun i h st c hc => by
    obtain ⟨hz, hTI, ⟨x, y, hTO⟩, ⟨o1, e1, _, d1⟩, ⟨o2, e2, _, d2⟩⟩ := st
    have e' : c = z ∨ c = TI ∨ c = TO ∨ c = i1 ∨ c = i2 := by simpa using hc
    rcases e' with q | q | q | q | q
    · rw [q]; exact ⟨_, hz, fun v q => nomatch q⟩
    · rw [q]; exact ⟨_, hTI, fun v q => nomatch q⟩
    · rw [q]; exact ⟨_, hTO, fun v q => nomatch q⟩
    · rw [q]; exact ⟨o1, e1, fun v q => by rw [d1] at q; cases q⟩
    · rw [q]; exact ⟨o2, e2, fun v q => by rw [d2] at q; cases q⟩
  keep := fun i h h' st k => by
    obtain ⟨hz, hTI, ⟨x, y, hTO⟩, h1, h2⟩ := st
    exact ⟨k z (by simp) _ hz, k TI (by simp) _ hTI, ⟨x, y, k TO (by simp) _ hTO⟩, h1.at fun o q => k i1 (by simp) o q, h2.at fun o q => k i2 (by simp) o q⟩
  item := by
    intro X hP hw hK hc i pins s σ H E I hf st hg
    subst hP hw hK
    obtain ⟨hz, hTI, ⟨x0, y0, hTO⟩, h1, h2⟩ := st
    obtain ⟨xs, ys, x, y, hqx, hqy, hx, hy⟩ := hg
    obtain ⟨its, rv, p, _⟩ := I.list hqx
    obtain ⟨its2, rv2, p2, _⟩ := I.list hqy
    obtain ⟨u, hu, ru⟩ := rv.get hx
    obtain ⟨u2, hu2, ru2⟩ := rv2.get hy
    have hzl : z < s.heap.objs.size := Heap.lt_size hz
    refine wpAny_pyNext_zip_item D hz hTI hTO h1 h2 p.isList p2.isList (x := u) (y := u2) (by simpa using hu) (by simpa using hu2) fun h' z' TO' h1' h2' hT hsz hk => ?_
    refine ⟨_, rfl, wpAny_letOwnedTupleGo_zip (s := { s with heap := h' }) z' fun h'' z'' sb => ?_⟩
    have hT2 : h''.get? s.heap.objs.size = some { cls := .type "tuple", data := .seq #[u, u2] } := (sb.2 _ (Nat.ne_of_gt hzl)).trans hT
    have new : ObjOk X.prog X.w (upd H s.heap.objs.size (.tup [x, y])) h'' s.heap.objs.size (.tup [x, y]) :=
      ⟨by show 2 ≤ sizeLine; decide, [u, u2], .cons ru (.cons ru2 .nil), ⟨_, hT2, rfl, _, rfl⟩⟩
    have I1 : Inv X pins σ (upd H s.heap.objs.size (.tup [x, y])) { s with heap := h'' } :=
      I.turnedNew (t' := s.toks) (ch := [z, TI, TO, i1, i2]) (fun c o hb q => (sb.2 c (fun q' => hb (by simp [q']))).trans (hk c o (fun q' => hb (by simp [q'])) (fun q' => hb (by simp [q'])) (fun q' => hb (by simp [q'])) (fun q' => hb (by simp [q'])) q)) hf (Nat.le_refl _) new
    refine ⟨.ref s.heap.objs.size, _, I1, rfl, ⟨_, x, y, rfl, I.hok.fresh (Nat.le_refl _), rfl, fun l hl => by rw [I.list_inj hl hqx]; exact hx, fun l hl => by rw [I.list_inj hl hqy]; exact hy⟩, ⟨z'', ?_, ⟨u, u2, ?_⟩, ?_, ?_⟩, fun c hcm => ?_⟩
    · exact (sb.2 _ D.TIz).trans (hk _ _ D.TIz D.TITO D.TIi1 D.TIi2 hTI)
    · exact (sb.2 _ D.TOz).trans TO'
    · exact h1'.at fun o q => (sb.2 _ D.i1z).trans q
    · exact h2'.at fun o q => (sb.2 _ D.i2z).trans q
    · have hlt : c < s.heap.objs.size := by
        have e' : c = z ∨ c = TI ∨ c = TO ∨ c = i1 ∨ c = i2 := by simpa using hcm
        rcases e' with q | q | q | q | q
        · rw [q]; exact hzl
        · rw [q]; exact Heap.lt_size hTI
        · rw [q]; exact Heap.lt_size hTO
        · rw [q]; obtain ⟨_, e1, _⟩ := h1; exact Heap.lt_size e1
        · rw [q]; obtain ⟨_, e2, _⟩ := h2; exact Heap.lt_size e2
      rw [upd_ne (Nat.ne_of_lt hlt)]
      exact (hf c hcm).1
  done := by
    intro X hP hw hK hc i pins s σ H E I hf st hg
    subst hP hw hK
    obtain ⟨hz, hTI, ⟨x0, y0, hTO⟩, h1, h2⟩ := st
    obtain ⟨xs, ys, hqx, hqy, hend⟩ := hg
    obtain ⟨its, rv, p, _⟩ := I.list hqx
    obtain ⟨its2, rv2, p2, _⟩ := I.list hqy
    have l1 := rv.length
    have l2 := rv2.length
    have he : its.toArray[i]? = none ∨ its2.toArray[i]? = none := by
      rcases hend with q | q
      · exact .inl (by simp; omega)
      · exact .inr (by simp; omega)
    exact wpAny_pyNext_zip_end (I.ok.hd hc) D hz hTI hTO h1 h2 p.isList p2.isList he fun h' hk => ⟨rfl, I.turnedL (t' := s.toks) (ch := [z, TI, TO, i1, i2]) (fun c o hb q =>
      hk c o (fun q' => hb (by simp [q'])) (fun q' => hb (by simp [q'])) (fun q' => hb (by simp [q'])) (fun q' => hb (by simp [q'])) q) hf⟩
  self := fun A i s Q E st h => wpAny_pyIter_zip st.1 h
def iZip (K : PySem.W.Frag) (ta : TA) : TI := fun σ H R => ta σ H fun vs H1 => ∃ a b xs ys, vs = [.ref a, .ref b] ∧ SqL K H1 a xs ∧ SqL K H1 b ys ∧ R (Itz K a b) H1
theorem pi_zip {X : Cx} {e e2 : Expr} {ta : TA} {p pos tpos : Pos} {elts : List Expr} {kk : Nat} (hg : Gl X "zip") (hm : X.mg "zip" = none) (ha : PA X [e, e2] ta)
    (hs : starEach [e, e2] X.env = (false, eval e X.env) :: starEach [e2] X.env := by rfl) (hpl : (backTo pos (starEach [e2] X.env)).any (·.1) = false := by rfl) :
    PI X (.Tuple elts kk tpos) (.Call (.Name "zip" p) [e, e2] [] pos) (iZip X.K ta) := by
  intro pins s σ H R I h
  refine Call_ (ld_blt I hg hm boot_zip5 (PyProof.Rows.callWith_type1 (thn (ha pos pins s σ H _ I h) fun us s1 ⟨vs, H1, I1, r1, q1⟩ => ?_) hs hpl))
  obtain ⟨a, b, xs, ys, ex, hqx, hqy, q⟩ := q1
  subst ex
  cases r1 with
  | cons r rr =>
    cases rr with
    | cons r' rr =>
      cases rr
      cases r
      cases r'
      obtain ⟨its, rv, p1, _⟩ := I1.list hqx
      obtain ⟨its2, rv2, p2, _⟩ := I1.list hqy
      have la : a < s1.heap.objs.size := p1.lt
      have lb : b < s1.heap.objs.size := p2.lt
      refine call_zip_2 p1.isList p2.isList fun h' hz hTI hTO h1 h2 hsz hk => wpAny_pyIter_zip hz ?_
      have I2 : Inv X pins σ H1 { s1 with heap := h' } := I1.kept (t' := s1.toks) hk
      refine ⟨s1.heap.objs.size + 4, [s1.heap.objs.size + 4, s1.heap.objs.size + 2, s1.heap.objs.size + 3, s1.heap.objs.size, s1.heap.objs.size + 1], _, _, H1, rfl, I2, turn_zip (PySem.W.ktu_apart s1.heap.objs.size a b la lb), ⟨hz, hTI, ⟨_, _, hTO⟩, h1, h2⟩, fun c hcm => ?_, q⟩
      have e' : c = s1.heap.objs.size + 4 ∨ c = s1.heap.objs.size + 2 ∨ c = s1.heap.objs.size + 3 ∨ c = s1.heap.objs.size ∨ c = s1.heap.objs.size + 1 := by simpa using hcm
      have hle : s1.heap.objs.size ≤ c := by
        rcases e' with z | z | z | z | z
        · rw [z]; exact Nat.le_add_right _ _
        · rw [z]; exact Nat.le_add_right _ _
        · rw [z]; exact Nat.le_add_right _ _
        · rw [z]; exact Nat.le_refl _
        · rw [z]; exact Nat.le_add_right _ _
      exact I1.fpOk hle (I1.hok.fresh hle)
end L2
section 
namespace Bits
open PySem PyProof.Rows
end Bits
end 
section 
namespace TL
open PySem PySem.Builtin PySem.Builtin.Str PySem.StrLaws
end TL
end 
namespace L2
open PySem PySem.Spec PyProof.Rows
section
variable {X : Cx} {pins : List (Addr × Obj)} {σ : St} {H : Hp} {s : Shared} {Q : VK}
end
section
variable {X : Cx}
end
section
variable {X : Cx} {o e : Expr} {to te : TE}
end
end L2
namespace L2
open PySem PySem.Spec PyProof.Rows
section
variable {X : Cx}
end
end L2
namespace Att
open PySem PySem.W PySem.Calls PyProof.Rows
section
variable {prog : Program} {w : World} {A : Around} {E : Value → Shared → Prop} {s : Shared} {K : Frag}
end
end Att
namespace L2
open PySem PySem.Spec PyProof.Rows
end L2
namespace L2
open PySem PySem.Spec PyProof.Rows
end L2
/- THE LAST THEOREM (shape; LID, My.* are yours):
   My.Adr: a structure of the addresses that your layer names (classes, functions); My.Txt K t: a structure (Prop) of the equations over K;
   My.txt_mk : {K} {implicit addresses ..} (e1 : nsIn K mainGlobals "law" = some (some (.ref f))) (e2 : K.lookup f = some ⟨oc, od, .func (fnOf "law" "law" params body scope dV kV doc pm an cdv ct), sl⟩) (e3 : codeIn K cdv "law" = true) .. : ∃ t, My.Txt K t
(the tactic k_is has no namespace: write k_is) -/
namespace L2
open PySem PySem.Spec PyProof.Rows
def inClass (s : Stmt) (j : Nat) : Stmt := match s with
  | .ClassDef _ _ _ body _ _ _ _ _ _ _ => body.getD j (.Pass ⟨0, 0, 0, 0⟩)
  | _ => .Pass ⟨0, 0, 0, 0⟩
def defArgs (s : Stmt) : Arguments := match s with
  | .FunctionDef _ a _ _ _ _ _ _ _ _ => a
  | _ => { posonlyargs := [], args := [], vararg := none, kwonlyargs := [], kw_defaults := [], kwarg := none, defaults := [] }
def defBody (s : Stmt) : List Stmt := match s with
  | .FunctionDef _ _ b _ _ _ _ _ _ _ => b
  | _ => []
def defScope (s : Stmt) : Scope := match s with
  | .FunctionDef _ _ _ _ _ _ sc _ _ _ => sc
  | _ => { kind := .function, names := [], isGenerator := false, isCoroutine := false }
abbrev CX0 : CXT := fun _ _ _ _ _ _ => False
abbrev E0 : XK := fun _ _ _ => False
theorem pass0 {X : Cx} : Passes CX0 X E0 := fun _ _ _ _ _ _ _ h => h.elim
structure Fun (K : PySem.W.Frag) (x qual : Str) (st : Stmt) (f : Addr) (fd : FuncData) : Prop where
  ex : ∃ (oc : Value) (od : Option Addr) (kV doc pm : Value) (an : Option Addr) (cdv ct : Value) (osl : Array (Option Value)),
    fd = PySem.W.fnOf x qual (defArgs st) (defBody st) (defScope st) .none kV doc pm an cdv ct ∧ K.lookup f = some ⟨oc, od, .func fd, osl⟩ ∧ PySem.W.codeIn K cdv qual = true
  kp : PySem.W.keepIn K (.ref f) = true
section
variable {P : Program} {w : World} {K : PySem.W.Frag} {mg : Str → Option Value} {base : Heap}
theorem Fun.ok {x qual : Str} {st : Stmt} {f : Addr} {fd : FuncData} {N ps : List Str} {k : Nat} {sp : Sp} (F : Fun K x qual st f fd) (S : FnScope N ps (defScope st)) (len : ∀ vs H Q E, sp vs H Q E → vs.length = ps.length)
    (hbody : ∀ (cdv : Value) (A : Around) (outer : List Env) (s : Shared) (H : Hp) (vs : List V) (Q : VK) (E : XK), Room k (A.deeper (envOfC qual (defScope st) s.heap.objs.size f cdv)) → sp vs H Q E →
      ∃ t, PSs (cxOf CX0 P w K mg base N qual (defScope st) f cdv A outer s H E).nox (defBody st) t ∧ t { nx := fun _ H' => Q .non H', rt := Q } (start N vs) H) : FnOk P w K mg base CX0 (k + 1) f fd ps sp := by
  obtain ⟨oc, od, kV, doc, pm, an, cdv, ct, osl, rfl, lk, hcd⟩ := F.ex
  refine fn_of lk hcd S len fun A outer s H vs Q E hr hsp => ?_
  obtain ⟨t, h, q⟩ := hbody cdv A outer s H vs Q E hr hsp
  exact ⟨t, h.nox, q⟩
theorem Fun.binds {x qual : Str} {st : Stmt} {f : Addr} {fd : FuncData} {ps : List Str} (F : Fun K x qual st f fd)
    (h : ∀ (kV doc pm : Value) (an : Option Addr) (cdv ct : Value) (us : List Value), us.length = ps.length → bindArgs (PySem.W.fnOf x qual (defArgs st) (defBody st) (defScope st) .none kV doc pm an cdv ct) ⟨us, []⟩ = pure (ps.zip us)) : Binds K fd ps [] := by
  obtain ⟨oc, od, kV, doc, pm, an, cdv, ct, osl, rfl, lk, hcd⟩ := F.ex
  exact .all (h kV doc pm an cdv ct)
theorem fun_mk {x qual : Str} {st : Stmt} {f : Addr} {oc : Value} {od an : Option Addr} {osl : Array (Option Value)} {kV doc pm cdv ct : Value} (l : K.lookup f = some ⟨oc, od, .func (PySem.W.fnOf x qual (defArgs st) (defBody st) (defScope st) .none kV doc pm an cdv ct), osl⟩)
    (c : PySem.W.codeIn K cdv qual = true) (k : PySem.W.keepIn K (.ref f) = true) : Fun K x qual st f (PySem.W.fnOf x qual (defArgs st) (defBody st) (defScope st) .none kV doc pm an cdv ct) := ⟨⟨oc, od, kV, doc, pm, an, cdv, ct, osl, rfl, l, c⟩, k⟩
end
section
variable {X : Cx}
theorem pv (i : Nat) {x : Str} {pos : Pos} (hN : X.N[i]? = some x := by rfl) (hv : Vis X.env.scope x := by first | exact Or.inl rfl | exact Or.inr (Or.inl rfl) | exact Or.inr (Or.inr rfl)) (hd : (x == ("__debug__" : Str)) = false := by decide)
    (hcd : (x == ("__classdict__" : Str)) = false := by decide) : PE X (.Name x pos) (tVar i) := pe_var hN hv hd hcd
end
theorem iteF {A B : Prop} (h : B) : if false = true then A else B := by
  rw [if_neg Bool.false_ne_true]
  exact h
theorem iteT {A B : Prop} (h : A) : if true = true then A else B := by
  rw [if_pos rfl]
  exact h
theorem ite2 {c A B : Prop} [Decidable c] (h1 : c → A) (h2 : ¬ c → B) : if c then A else B := by
  by_cases h : c
  · rw [if_pos h]
    exact h1 h
  · rw [if_neg h]
    exact h2 h
def Same (H H' : Hp) : Prop := ∀ b o, H b = some o → H' b = some o
theorem Same.refl (H : Hp) : Same H H := fun _ _ h => h
theorem Same.trans {H H1 H2 : Hp} (a : Same H H1) (b : Same H1 H2) : Same H H2 := fun c o h => b c o (a c o h)
theorem Same.free {H H' : Hp} (e : Same H H') {l : Addr} (h : H' l = Option.none) : H l = Option.none := by
  cases q : H l with
  | none => rfl
  | some o =>
    rw [e l o q] at h
    cases h
theorem Same.seq {K : PySem.W.Frag} {H H' : Hp} {a : Addr} {xs : List V} (e : Same H H') (h : SqL K H a xs) : SqL K H' a xs := by
  rcases h with (h | ⟨o, h⟩) | h
  · exact .inl (.inl (e _ _ h))
  · exact .inl (.inr ⟨o, e _ _ h⟩)
  · exact .inr h
section
variable {κ : Type} [DecidableEq κ]
end
theorem at_of {xs : List V} {z : Int} {j : Nat} {v : V} (e : z = (j : Int)) (h : xs[j]? = some v) : atI xs z = some v := by
  rw [e]
  exact atI_nat h
theorem Same.made {H H1 : Hp} {x dx C : Addr} (nx : H x = Option.none) (nd : H dx = Option.none) (k : ∀ b o, (upd (upd H dx (.own x)) x (.ins C dx [])) b = some o → b ≠ x → H1 b = some o) : Same H H1 := fun b o e =>
  k b o (by rw [upd_ne (ne_of_none e nx), upd_ne (ne_of_none e nd)]; exact e) (ne_of_none e nx)
end L2
section
set_option Elab.async false
set_option linter.all false
set_option maxRecDepth 100000
set_option maxHeartbeats 2000000
namespace L2
open PySem PySem.Spec PyProof.Rows
open PySem.W (WData Codec OpenSpec Well WellAll ReadsW ReadsAllW)
mutual
/-- x stands for the datum d, lists and tuples all the way -/
inductive Dw (K : PySem.W.Frag) (H : Hp) : V → WData → Prop
  | int (i : Int) : Dw K H (.int i) (.int i)
  | lst {a : Addr} {xs : List V} {ds : List WData} : SqL K H a xs → DwAll K H xs ds → Dw K H (.ref a) (.list ds)
inductive DwAll (K : PySem.W.Frag) (H : Hp) : List V → List WData → Prop
  | nil : DwAll K H [] []
  | cons {v : V} {vs : List V} {d : WData} {ds : List WData} : Dw K H v d → DwAll K H vs ds → DwAll K H (v :: vs) (d :: ds)
end
theorem dw_ints {K : PySem.W.Frag} {H : Hp} : ∀ ns : List Int, DwAll K H (ns.map V.int) (ns.map WData.int)
  | [] => .nil
  | n :: r => .cons (.int n) (dw_ints r)
theorem ints_dw {K : PySem.W.Frag} {H : Hp} : ∀ (ns : List Int) (xs : List V), DwAll K H xs (ns.map WData.int) → xs = ns.map V.int
  | [], xs, h => by
    cases h
    rfl
  | n :: r, xs, h => by
    cases h with
    | cons h1 h2 =>
      cases h1
      rw [ints_dw r _ h2] <;> rfl
section
variable {P : Program} {w : World} {K : PySem.W.Frag} {H : Hp} {h : Heap} {R : PySem.W.WRecords} {cl : Str → Option Addr}
theorem sqL_at {a : Addr} {xs : List V} (hok : HOk P w H h) (KX : K.In h) (q : SqL K H a xs) : ∃ (its : List Value) (o : Obj) (n : Nat), Vals xs its ∧ h.get? a = some o ∧ o.cls = .type "list" ∧ o.data = .seq its.toArray n := by
  rcases q with q | ⟨o, its, n, e, hc, _, hd, _, hv⟩
  · obtain ⟨_, its, n, hv, e⟩ := (show ObjOk P w H h a (.lst xs) from q.ok hok)
    exact ⟨its, _, n, hv, e, rfl, rfl⟩
  · exact ⟨its.toList, o, n, hv, KX _ _ e, hc, by simp [hd]⟩
mutual
theorem Dw.reads (hok : HOk P w H h) (KX : K.In h) : ∀ (d : WData) (v : V) (u : Value), Dw K H v d → RelV v u → ∃ as, ReadsW R cl h u d as
  | .int i, _, _, x, r => by
    cases x
    obtain ⟨t, rfl⟩ := r
    exact ⟨_, ReadsW.int i t⟩
  | .list ds, _, _, x, r => by
    cases x with
    | lst hs ha =>
      cases r
      obtain ⟨its, o, n, rv, ho, hc, hd⟩ := sqL_at hok KX hs
      obtain ⟨as, hr⟩ := Dw.readsAll hok KX ds _ its ha rv
      exact ⟨_, ReadsW.list ho hc hd hr⟩
  | .none, _, _, x, _ => by cases x
  | .bool _, _, _, x, _ => by cases x
  | .str _, _, _, x, _ => by cases x
  | .bytes _, _, _, x, _ => by cases x
  | .tuple _, _, _, x, _ => by cases x
  | .float _, _, _, x, _ => by cases x
  | .dict _, _, _, x, _ => by cases x
  | .bytearray _, _, _, x, _ => by cases x
  | .set _, _, _, x, _ => by cases x
  | .frozenset _, _, _, x, _ => by cases x
  | .obj _ _, _, _, x, _ => by cases x
theorem Dw.readsAll (hok : HOk P w H h) (KX : K.In h) : ∀ (ds : List WData) (vs : List V) (us : List Value), DwAll K H vs ds → Vals vs us → ∃ as, ReadsAllW R cl h us ds as
  | [], _, _, x, r => by
    cases x
    cases r
    exact ⟨_, ReadsAllW.nil⟩
  | d :: ds, _, _, x, r => by
    cases x with
    | cons h1 h2 =>
      cases r with
      | cons r1 r2 =>
        obtain ⟨as, q1⟩ := Dw.reads hok KX d _ _ h1 r1
        obtain ⟨bs, q2⟩ := Dw.readsAll hok KX ds _ _ h2 r2
        exact ⟨_, ReadsAllW.cons q1 q2⟩
end
end
mutual
/-- data that a codec tells -/
def plW : WData → Bool
  | .int _ => true
  | .list xs => plWs xs
  | _ => false
def plWs : List WData → Bool
  | [] => true
  | x :: r => plW x && plWs r
end
theorem plWs_map {α : Type} {f : α → WData} (h : ∀ a, plW (f a) = true) : ∀ l : List α, plWs (l.map f) = true
  | [] => rfl
  | x :: r => by
    show (plW (f x) && plWs (r.map f)) = true
    rw [h x, plWs_map h r] <;> rfl
theorem weight_mem : ∀ {xs : List WData} {d : WData}, d ∈ xs → d.weight ≤ WData.weightAll xs
  | [], d, h => absurd h (by simp)
  | x :: r, d, h => by
    show d.weight ≤ x.weight + 1 + WData.weightAll r
    rcases List.mem_cons.mp h with e | m
    · rw [e]
      omega
    · have z := weight_mem m
      omega
def toV : Value → V
  | .int i _ => .int i
  | .ref a => .ref a
  | _ => .non
def OkU (A : List Addr) : Value → Prop
  | .int _ _ => True
  | .ref a => a ∈ A
  | _ => False
theorem OkU.mono {A B : List Addr} (h : ∀ a ∈ A, a ∈ B) : ∀ {u : Value}, OkU A u → OkU B u := fun {u} x => by
  cases u with
  | ref a => exact h a x
  | int i t => trivial
  | _ => exact False.elim x
theorem relV_toV {A : List Addr} {u : Value} (x : OkU A u) : RelV (toV u) u := by
  cases u with
  | ref a => rfl
  | int i t => exact ⟨t, rfl⟩
  | _ => exact False.elim x
theorem vals_toV {A : List Addr} : ∀ {vs : List Value}, (∀ u ∈ vs, OkU A u) → Vals (vs.map toV) vs
  | [], _ => .nil
  | u :: r, h => .cons (relV_toV (h u (List.mem_cons_self ..))) (vals_toV fun x hx => h x (List.mem_cons_of_mem _ hx))
def ArgOb (h : Heap) (A : List Addr) (a : Addr) : Prop := ∃ vs : List Value, vs.length ≤ sizeLine ∧ (∀ u ∈ vs, OkU A u) ∧ h.get? a = some { cls := .type "list", data := .seq vs.toArray }
theorem ArgOb.mono {h : Heap} {A B : List Addr} {a : Addr} (k : ∀ a ∈ A, a ∈ B) (x : ArgOb h A a) : ArgOb h B a := by
  obtain ⟨vs, h1, h2, h3⟩ := x
  exact ⟨vs, h1, fun u hu => (h2 u hu).mono k, h3⟩
theorem wellAll_len {P : Params} {h : Heap} : ∀ {vs : List Value} {ds : List WData}, WellAll P h vs ds → vs.length = ds.length
  | _, _, .nil => rfl
  | _, _, .cons _ b => by
    show _ + 1 = _ + 1
    rw [wellAll_len b]
theorem well_list {P : Params} {h : Heap} {v : Value} {ds : List WData} (x : Well P h v (.list ds)) : ∃ (a : Addr) (vs : List Value), v = .ref a ∧ h.get? a = some { cls := .type "list", data := .seq vs.toArray } ∧ WellAll P h vs ds := by
  cases x with
  | list ho hall => exact ⟨_, _, rfl, ho, hall⟩
theorem well_cons {P : Params} {h : Heap} {us : List Value} {d : WData} {ds : List WData} (x : WellAll P h us (d :: ds)) : ∃ (v : Value) (vs : List Value), us = v :: vs ∧ Well P h v d ∧ WellAll P h vs ds := by
  cases x with
  | cons a b => exact ⟨_, _, rfl, a, b⟩
theorem line_of {n : Nat} (h : n ≤ 1048576) : n ≤ sizeLine := Nat.le_trans h (by decide)
section
variable {P : Params} {h : Heap}
mutual
theorem area_one : ∀ (d : WData) (v : Value), Well P h v d → plW d = true → d.weight ≤ 1048576 → ∃ A : List Addr, OkU A v ∧ ∀ a ∈ A, ArgOb h A a
  | .int i, _, x, _, _ => by
    cases x
    exact ⟨[], trivial, fun a m => absurd m (by simp)⟩
  | .list ds, _, x, p, z => by
    obtain ⟨a, vs, rfl, ho, hall⟩ := well_list x
    have z2 : WData.weightAll ds ≤ 1048576 := z
    obtain ⟨A, h1, h2⟩ := area_all ds _ hall p fun d hd => Nat.le_trans (weight_mem hd) z2
    have k : ∀ b ∈ A, b ∈ a :: A := fun b hb => List.mem_cons_of_mem _ hb
    refine ⟨a :: A, List.mem_cons_self .., fun b hb => ?_⟩
    rcases List.mem_cons.mp hb with e | m
    · rw [e]
      exact ⟨vs, line_of (by rw [wellAll_len hall]; exact Nat.le_trans (PySem.W.length_le_weightAllW ds) z2), fun u hu => (h1 u hu).mono k, ho⟩
    · exact (h2 b m).mono k
  | .none, _, _, p, _ => Bool.noConfusion (show false = true from p)
  | .bool _, _, _, p, _ => Bool.noConfusion (show false = true from p)
  | .str _, _, _, p, _ => Bool.noConfusion (show false = true from p)
  | .bytes _, _, _, p, _ => Bool.noConfusion (show false = true from p)
  | .tuple _, _, _, p, _ => Bool.noConfusion (show false = true from p)
  | .float _, _, _, p, _ => Bool.noConfusion (show false = true from p)
  | .dict _, _, _, p, _ => Bool.noConfusion (show false = true from p)
  | .bytearray _, _, _, p, _ => Bool.noConfusion (show false = true from p)
  | .set _, _, _, p, _ => Bool.noConfusion (show false = true from p)
  | .frozenset _, _, _, p, _ => Bool.noConfusion (show false = true from p)
  | .obj _ _, _, _, p, _ => Bool.noConfusion (show false = true from p)
theorem area_all : ∀ (ds : List WData) (vs : List Value), WellAll P h vs ds → plWs ds = true → (∀ d ∈ ds, d.weight ≤ 1048576) → ∃ A : List Addr, (∀ u ∈ vs, OkU A u) ∧ ∀ a ∈ A, ArgOb h A a
  | [], _, x, _, _ => by
    cases x
    exact ⟨[], fun u m => absurd m (by simp), fun a m => absurd m (by simp)⟩
  | d :: ds, _, x, p, z => by
    obtain ⟨v, vs, rfl, x1, x2⟩ := well_cons x
    have q : plW d = true ∧ plWs ds = true := Bool.and_eq_true_iff.mp p
    obtain ⟨A, a1, a2⟩ := area_one d v x1 q.1 (z d (List.mem_cons_self ..))
    obtain ⟨B, b1, b2⟩ := area_all ds vs x2 q.2 fun e he => z e (List.mem_cons_of_mem _ he)
    have kA : ∀ b ∈ A, b ∈ A ++ B := fun b hb => List.mem_append.mpr (.inl hb)
    have kB : ∀ b ∈ B, b ∈ A ++ B := fun b hb => List.mem_append.mpr (.inr hb)
    refine ⟨A ++ B, fun u hu => ?_, fun b hb => ?_⟩
    · rcases List.mem_cons.mp hu with e | m
      · rw [e]
        exact a1.mono kA
      · exact (b1 u m).mono kB
    · rcases List.mem_append.mp hb with m | m
      · exact (a2 b m).mono kA
      · exact (b2 b m).mono kB
end
end
def hoOf (o : Obj) : Option HO := match o.data with
  | .seq vs _ => if (o.cls == Value.type "list") = true then some (.frz o (.lst (vs.toList.map toV))) else some (.frz o (.tup (vs.toList.map toV)))
  | _ => none
def argH (K : PySem.W.Frag) (h : Heap) (A : List Addr) : Hp := fun b => if b ∈ A then (if (K.lookup b).isNone = true then (h.get? b).bind hoOf else none) else none
def OnlyF (H : Hp) : Prop := ∀ b, H b = none ∨ ∃ o u, H b = some (.frz o u)
theorem hoOf_lst (vs : List Value) : hoOf { cls := .type "list", data := .seq vs.toArray } = some (.frz { cls := .type "list", data := .seq vs.toArray } (.lst (vs.map toV))) := by
  show (if (Value.type "list" == Value.type "list") = true then some (HO.frz { cls := .type "list", data := .seq vs.toArray } (.lst (vs.toArray.toList.map toV))) else some (HO.frz { cls := .type "list", data := .seq vs.toArray } (.tup (vs.toArray.toList.map toV)))) = _
  rw [if_pos (beq_self_eq_true _)]
section
variable {P : Program} {w : World} {K : PySem.W.Frag} {h : Heap} {A : List Addr}
theorem argH_at {b : Addr} {o : Obj} (hb : b ∈ A) (hk : K.lookup b = none) (e : h.get? b = some o) : argH K h A b = hoOf o := by
  unfold argH
  rw [if_pos hb, hk, if_pos (show (none : Option Obj).isNone = true from rfl), e] <;> rfl
theorem of_argH {b : Addr} {u : HO} (q : argH K h A b = some u) : b ∈ A ∧ K.lookup b = none := by
  unfold argH at q
  by_cases hb : b ∈ A
  · rw [if_pos hb] at q
    cases hk : K.lookup b with
    | none => exact ⟨hb, rfl⟩
    | some o =>
      rw [hk, if_neg (by simp)] at q
      cases q
  · rw [if_neg hb] at q
    cases q
theorem argH_is (ar : ∀ a ∈ A, ArgOb h A a) {b : Addr} {u : HO} (q : argH K h A b = some u) : K.lookup b = none ∧ ∃ vs : List Value, vs.length ≤ sizeLine ∧ (∀ u ∈ vs, OkU A u) ∧
    h.get? b = some { cls := .type "list", data := .seq vs.toArray } ∧ u = .frz { cls := .type "list", data := .seq vs.toArray } (.lst (vs.map toV)) := by
  obtain ⟨hb, hk⟩ := of_argH q
  obtain ⟨vs, h1, h2, e⟩ := ar b hb
  refine ⟨hk, vs, h1, h2, ?_⟩
  rw [argH_at hb hk e, hoOf_lst] at q
  exact ⟨e, (Option.some.inj q).symm⟩
theorem argH_only (ar : ∀ a ∈ A, ArgOb h A a) : OnlyF (argH K h A) := fun b => by
  cases q : argH K h A b with
  | none => exact .inl rfl
  | some u =>
    obtain ⟨_, vs, _, _, _, e⟩ := argH_is ar q
    exact .inr ⟨_, _, by rw [e]⟩
theorem argH_ok (ar : ∀ a ∈ A, ArgOb h A a) : HOk P w (argH K h A) h := fun b u q => by
  obtain ⟨_, vs, h1, h2, e, rfl⟩ := argH_is ar q
  exact ⟨e, by rw [List.length_map]; exact h1, vs, _, vals_toV h2, e⟩
theorem seq_inj {c c' : Value} {vs us : List Value} (e : (some { cls := c, data := .seq vs.toArray } : Option Obj) = some { cls := c', data := .seq us.toArray }) : c = c' ∧ vs = us := by
  have e1 := Option.some.inj e
  have e2 : c = c' := congrArg Obj.cls e1
  have e3 : Data.seq vs.toArray = Data.seq us.toArray := congrArg Obj.data e1
  injection e3 with e4
  refine ⟨e2, ?_⟩
  have e5 := congrArg Array.toList e4
  simpa using e5
theorem argL (KX : K.In h) (ar : ∀ a ∈ A, ArgOb h A a) {a : Addr} {vs : List Value} (ha : a ∈ A) (e : h.get? a = some { cls := .type "list", data := .seq vs.toArray }) : (∀ u ∈ vs, OkU A u) ∧ SqL K (argH K h A) a (vs.map toV) := by
  obtain ⟨us, h1, h2, h3⟩ := ar a ha
  have hu : us = vs := by
    rw [e] at h3
    exact (seq_inj h3).2.symm
  subst hu
  refine ⟨h2, ?_⟩
  cases hk : K.lookup a with
  | none => exact .inl (.inr ⟨_, by rw [argH_at ha hk e, hoOf_lst]⟩)
  | some o =>
    have e2 := KX a o hk
    rw [e] at e2
    obtain rfl := Option.some.inj e2
    exact .inr ⟨_, us.toArray, _, hk, rfl, rfl, rfl, by rw [List.size_toArray]; exact h1, by simpa using vals_toV h2⟩
mutual
theorem dw_one {Pm : Params} (KX : K.In h) (ar : ∀ a ∈ A, ArgOb h A a) : ∀ (d : WData) (v : Value), Well Pm h v d → plW d = true → OkU A v → Dw K (argH K h A) (toV v) d
  | .int i, _, x, _, _ => by
    cases x
    exact .int i
  | .list ds, _, x, p, hu => by
    obtain ⟨a, vs, rfl, ho, hall⟩ := well_list x
    obtain ⟨h2, hs⟩ := argL KX ar hu ho
    exact .lst hs (dw_all KX ar ds _ hall p h2)
  | .none, _, _, p, _ => Bool.noConfusion (show false = true from p)
  | .bool _, _, _, p, _ => Bool.noConfusion (show false = true from p)
  | .str _, _, _, p, _ => Bool.noConfusion (show false = true from p)
  | .bytes _, _, _, p, _ => Bool.noConfusion (show false = true from p)
  | .tuple _, _, _, p, _ => Bool.noConfusion (show false = true from p)
  | .float _, _, _, p, _ => Bool.noConfusion (show false = true from p)
  | .dict _, _, _, p, _ => Bool.noConfusion (show false = true from p)
  | .bytearray _, _, _, p, _ => Bool.noConfusion (show false = true from p)
  | .set _, _, _, p, _ => Bool.noConfusion (show false = true from p)
  | .frozenset _, _, _, p, _ => Bool.noConfusion (show false = true from p)
  | .obj _ _, _, _, p, _ => Bool.noConfusion (show false = true from p)
theorem dw_all {Pm : Params} (KX : K.In h) (ar : ∀ a ∈ A, ArgOb h A a) : ∀ (ds : List WData) (vs : List Value), WellAll Pm h vs ds → plWs ds = true → (∀ u ∈ vs, OkU A u) → DwAll K (argH K h A) (vs.map toV) ds
  | [], _, x, _, _ => by
    cases x
    exact .nil
  | d :: ds, _, x, p, hu => by
    obtain ⟨v, vs, rfl, x1, x2⟩ := well_cons x
    have q : plW d = true ∧ plWs ds = true := Bool.and_eq_true_iff.mp p
    exact .cons (dw_one KX ar d v x1 q.1 (hu _ (List.mem_cons_self ..))) (dw_all KX ar ds vs x2 q.2 fun u m => hu u (List.mem_cons_of_mem _ m))
end
end
theorem spec_call {P : Program} {w : World} {K : PySem.W.Frag} {mg mb : Str → Option Value} {CX : CXT} {k : Nat} {fa : Addr} {fd : FuncData} {ps : List Str} {sp : Sp} {s₁ : Shared} {vals : List Value} {ds : List WData} {R : PySem.W.WRecords} {cl : Str → Option Addr} {d0 : WData}
    (KX : K.In s₁.heap) (hns : s₁.heap.Ns mainGlobals mg) (hb : s₁.heap.Ns builtinsNs mb) (hbb : ∀ x : Str, x ≠ "__name__" → mb x = bootBuiltins x) (hlim : s₁.heap.NoLimit) (hg : s₁.gens = #[])
    (hwl : WellAll w.params s₁.heap vals ds) (hpl : plWs ds = true) (hwt : ∀ d ∈ ds, d.weight ≤ 1048576) (hr : Room k callerA)
    (F : ∀ base : Heap, K.In base → base.Ns mainGlobals mg → FnOk P w K mg base CX k fa fd ps sp) (hbind : ∀ (s : Shared) (us : List Value), us.length = ps.length → BindsTo s fd ⟨us, []⟩ (ps.zip us)) (hlen : ds.length = ps.length)
    (hsp : ∀ (H : Hp) (xs : List V), OnlyF H → DwAll K H xs ds → sp xs H (fun v H' => Dw K H' v d0) fun _ _ _ => False)
    (hCX : ∀ H e s', CX [] H s₁ (fun _ _ _ => False) e s' → False) :
    codeAny (model P w) callerA (.call (.ref fa) ⟨vals, []⟩) (fun r s' => ∃ u as, r = .ok (.ret u) ∧ ReadsW R cl s'.heap u d0 as ∧ OldK s₁.heap s'.heap ∧ s'.os = s₁.os ∧ AllBare s'.gens) s₁ := by
  obtain ⟨A, ho, ar⟩ := area_all ds vals hwl hpl hwt
  have hO : OnlyF (argH K s₁.heap A) := argH_only ar
  have hok : HOk P w (argH K s₁.heap A) s₁.heap := argH_ok ar
  have hS := dw_all KX ar ds vals hwl hpl ho
  have hV := vals_toV ho
  have hK : ∀ b u, argH K s₁.heap A b = some u → K.lookup b = none := fun b u q => (argH_is ar q).1
  have noA : ∀ {b : Addr} {o : Obj} {es : Array DictEntry} {ep : Nat}, s₁.heap.get? b = some o → o.data = .dict es ep → argH K s₁.heap A b = none := fun {b o es ep} e d => by
    cases q : argH K s₁.heap A b with
    | none => rfl
    | some u =>
      obtain ⟨_, vs, _, _, e2, _⟩ := argH_is ar q
      rw [e2] at e
      cases e
      have d' : Data.seq vs.toArray _ = Data.dict es ep := d
      cases d'
  generalize argH K s₁.heap A = H at hO hok hS hK noA
  have base_of : ∀ {b : Addr} {o : Obj}, s₁.heap.get? b = some o → H b = none → (hidT s₁.heap H).get? b = some o := fun e n => hidT_get e n
  have nsK : ∀ {b : Addr} {m : Str → Option Value}, s₁.heap.Ns b m → (hidT s₁.heap H).Ns b m := fun {b m} ⟨o, es, ep, e, d, r⟩ => ⟨o, es, ep, base_of e (noA e d), d, r⟩
  have nK : ∀ b o, K.lookup b = some o → H b = none := fun b o e => by
    cases q : H b with
    | none => rfl
    | some u =>
      rw [hK b u q] at e
      cases e
  have hKb : K.In (hidT s₁.heap H) := fun b o e => base_of (KX b o e) (nK b o e)
  have hM : Mod K mg (hidT s₁.heap H) := ⟨hKb, nsK hns, ⟨mb, nsK hb, hbb⟩, let ⟨mc, h1, h2⟩ := hlim; ⟨mc, nsK h1, h2⟩⟩
  have e0 : Env0 P w K mg (hidT s₁.heap H) callerA [] s₁ H := ⟨rfl, hM, fun b o e => of_hidT e, Nat.le_of_eq (hidT_size _ _), trivial, fun b hb => absurd (show b ∈ ([] : List Addr) from hb) (by simp), hok, .of_eq hg⟩
  have hl : vals.length = ps.length := by rw [wellAll_len hwl]; exact hlen
  refine codeAny_mono ((F _ hKb (nsK hns)).run callerA [] s₁ H ⟨vals, []⟩ vals (vals.map toV) _ _ hr e0 (hbind s₁ vals hl) hV (hsp H _ hO hS)) fun r s' x => ?_
  cases r with
  | error e => exact (hCX H e s' x).elim
  | ok fl =>
    cases fl with
    | next => exact False.elim x
    | brk => exact False.elim x
    | cont => exact False.elim x
    | ret u =>
      obtain ⟨v, H', os, bare, un, hok', r', q⟩ := x
      have kept : ∀ b o, s₁.heap.get? b = some o → s'.heap.get? b = some o := fun b o e => by
        cases q2 : H b with
        | none => exact un.keep b o e q2 (by intro z; exact absurd (show b ∈ ([] : List Addr) from z) (by simp)) (by simp)
        | some u2 =>
          rcases hO b with z | ⟨ob, u3, z⟩
          · rw [q2] at z
            cases z
          · have z2 := un.frzs b ob _ z
            obtain ⟨e1, _⟩ := hok b _ z
            obtain ⟨e2, _⟩ := hok' b _ z2
            rw [e] at e1
            cases e1
            exact e2
      have KX' : K.In s'.heap := fun b o e => kept b o (KX b o e)
      obtain ⟨as, hrd⟩ := Dw.reads (R := R) (cl := cl) hok' KX' d0 v u q r'
      exact ⟨u, as, rfl, hrd, OldK.of_keep kept, os, bare⟩
theorem layable_weight {ds : List WData} (h : WData.layableAll ds = true) : ∀ d ∈ ds, d.weight ≤ 1048576 := fun d hd =>
  (PySem.W.layableW_iff.mp (List.all_eq_true.mp h d hd)).2.2
theorem encAll_len : ∀ (cs : List Codec) (a : Codec.denoteAll cs), (Codec.encAll cs a).length = cs.length
  | [], _ => rfl
  | c :: cs, a => by
    show (Codec.encAll cs a.2).length + 1 = cs.length + 1
    rw [encAll_len cs a.2]
theorem walk_spec {r : OpenSpec} {k : Nat} {q : Program} {loose : List Str} {XP : (Str → Option Value) → Heap → Prop} {YP : World → Heap → Prop} {d : DefRec} {K : Params → PySem.W.Frag} {CX : World → CXT} {ps : List Str} {sp : World → Sp}
    (hpl : ∀ a : Codec.denoteAll r.args, plWs (Codec.encAll r.args a) = true) (hwell : r.wellSaid = true) (hdf : d.params.defaults = []) (hlen : r.args.length = ps.length) (hr : Room k callerA)
    (hY : ∀ (w : World) (h : Heap), YP w h → (K w.params).In h)
    (F : ∀ (w : World) (mg : Str → Option Value) (fa : Addr) (h : Heap), YP w h → (K w.params).In h → h.Ns mainGlobals mg → mg d.name = some (.ref fa) →
      ∃ fd : FuncData, (∀ (s : Shared) (us : List Value), us.length = ps.length → BindsTo s fd ⟨us, []⟩ (ps.zip us)) ∧
        ∀ base : Heap, (K w.params).In base → base.Ns mainGlobals mg → FnOk r.prog w (K w.params) mg base (CX w) k fa fd ps (sp w))
    (hsp : ∀ (w : World) (H : Hp) (xs : List V) (a : Codec.denoteAll r.args), OnlyF H → Codec.withinAll r.args a = true → Codec.app r.args r.asked a = true → DwAll (K w.params) H xs (Codec.encAll r.args a) →
      sp w xs H (fun v H' => Dw (K w.params) H' v (r.ret.enc (Codec.app r.args r.f a))) fun _ _ _ => False)
    (hCX : ∀ (w : World) (H : Hp) (s : Shared) (e : Value) (s' : Shared), CX w [] H s (fun _ _ _ => False) e s' → False) :
    PySem.W.WalkOS q loose XP YP r d [] (fun f vs => PySem.call f vs) := by
  intro w s_0 s₁ mg mb G Y fa o pm cd doc dV kV ho hd hcd hD hmg hg args vals as hpre hlay hrd hwl hlo
  obtain ⟨a, e1, e2⟩ := PySem.W.os_pre_some hpre
  obtain ⟨e3, hwi⟩ := Codec.encAll_of_decAll r.args args a e1
  subst e3
  have KX := hY w _ Y
  obtain ⟨fd, hb, hF⟩ := F w mg fa _ Y KX G.T.g hmg
  refine PySem.W.enter_call (codeAny_mono (spec_call (R := []) (cl := classAt s_0.heap) (d0 := r.ret.enc (Codec.app r.args r.f a)) KX G.T.g G.T.b G.T.builtins G.T.nolimit hg hwl (hpl _) (layable_weight hlay) hr hF hb (by rw [encAll_len]; exact hlen)
    (fun H xs hO hS => hsp w H xs a hO hwi e2 hS) fun H e s' => hCX w H s₁ e s') fun r' s' hq => ?_)
  obtain ⟨u, as', rfl, h1, h2, h3, h4⟩ := hq
  exact ⟨.inl ⟨u, _, as', rfl, fun _ => rfl, h1, (OpenSpec.post_iff hwell hwi _ _).mpr rfl, fun z => Bool.noConfusion (show false = true from z)⟩, h2, h3, h4⟩
theorem walk_specK {r : OpenSpec} {k : Nat} {q : Program} {loose : List Str} {XP : (Str → Option Value) → Heap → Prop} {YP : World → Heap → Prop} {d : DefRec} {K : Params → PySem.W.Frag} {CX : CXT} {ps : List Str} {sp : PySem.W.Frag → Sp}
    (hpl : ∀ a : Codec.denoteAll r.args, plWs (Codec.encAll r.args a) = true) (hwell : r.wellSaid = true) (hdf : d.params.defaults = []) (hlen : r.args.length = ps.length) (hr : Room k callerA)
    (hY : ∀ (w : World) (h : Heap), YP w h → (K w.params).In h)
    (F : ∀ (w : World) (mg : Str → Option Value) (fa : Addr) (h : Heap), YP w h → (K w.params).In h → h.Ns mainGlobals mg → mg d.name = some (.ref fa) →
      ∃ fd : FuncData, (∀ (s : Shared) (us : List Value), us.length = ps.length → BindsTo s fd ⟨us, []⟩ (ps.zip us)) ∧
        ∀ base : Heap, (K w.params).In base → base.Ns mainGlobals mg → FnOk r.prog w (K w.params) mg base CX k fa fd ps (sp (K w.params)))
    (hsp : ∀ (K : PySem.W.Frag) (H : Hp) (xs : List V) (a : Codec.denoteAll r.args), OnlyF H → Codec.withinAll r.args a = true → Codec.app r.args r.asked a = true → DwAll K H xs (Codec.encAll r.args a) →
      sp K xs H (fun v H' => Dw K H' v (r.ret.enc (Codec.app r.args r.f a))) fun _ _ _ => False)
    (hCX : ∀ (H : Hp) (s : Shared) (e : Value) (s' : Shared), CX [] H s (fun _ _ _ => False) e s' → False) :
    PySem.W.WalkOS q loose XP YP r d [] (fun f vs => PySem.call f vs) :=
  walk_spec (K := K) (CX := fun _ => CX) (sp := fun w => sp (K w.params)) hpl hwell hdf hlen hr hY F (fun w H xs a h1 h2 h3 h4 => hsp (K w.params) H xs a h1 h2 h3 h4) fun _ H s e s' => hCX H s e s'
end L2
end

set_option Elab.async false
namespace Uf
open Uni (Row plus dot at_)

/-! rows -/
abbrev z6 : Row := [0, 0, 0, 0, 0, 0]

theorem plus_nil_l (b : Row) (k : Int) : plus [] b k = [] := by simp [plus]
theorem plus_nil_r (a : Row) (k : Int) : plus a [] k = [] := by simp [plus]
theorem plus_cons (x : Int) (a : Row) (y : Int) (b : Row) (k : Int) : plus (x :: a) (y :: b) k = (x + k * y) :: plus a b k := by simp [plus]
theorem plus_length (a b : Row) (k : Int) : (plus a b k).length = min a.length b.length := by simp [plus]

theorem plus_zero : ∀ (a b : Row), a.length = b.length → plus a b 0 = a
  | [], [], _ => rfl
  | [], _ :: _, h => by simp at h
  | _ :: _, [], h => by simp at h
  | x :: a, y :: b, h => by
    rw [plus_cons, plus_zero a b (by simpa using h)]; simp
theorem plus_comm3 : ∀ (a b c : Row) (j k : Int), plus (plus a b j) c k = plus (plus a c k) b j
  | [], b, c, j, k => by simp [plus]
  | _ :: _, [], c, j, k => by simp [plus]
  | _ :: _, _ :: _, [], j, k => by simp [plus]
  | x :: a, y :: b, w :: c, j, k => by
    simp only [plus_cons, plus_comm3 a b c j k]
    congr 1; exact Int.add_right_comm _ _ _
theorem plus_assoc : ∀ (a b c : Row) (j k : Int), plus a (plus b c k) j = plus (plus a b j) c (j * k)
  | [], b, c, j, k => by simp [plus]
  | _ :: _, [], c, j, k => by simp [plus]
  | _ :: _, _ :: _, [], j, k => by simp [plus]
  | x :: a, y :: b, w :: c, j, k => by
    simp only [plus_cons, plus_assoc a b c j k]
    congr 1; rw [Int.mul_add, Int.mul_assoc, Int.add_assoc]
theorem plus_twice : ∀ (a b : Row) (j k : Int), plus (plus a b j) b k = plus a b (j + k)
  | [], b, j, k => by simp [plus]
  | _ :: _, [], j, k => by simp [plus]
  | x :: a, y :: b, j, k => by
    simp only [plus_cons, plus_twice a b j k]
    congr 1; rw [Int.add_mul, Int.add_assoc]
theorem plus_back (a b : Row) (k : Int) (h : a.length = b.length) : plus (plus a b k) b (-k) = a := by
  rw [plus_twice, Int.add_right_neg, plus_zero a b h]
theorem plus_z6 (a : Row) (h : a.length = 6) (k : Int) : plus a z6 k = a := by
  match a, h with
  | [a, b, c, d, e, f], _ => simp [plus]
theorem z6_plus (a : Row) (h : a.length = 6) : plus z6 a 1 = a := by
  match a, h with
  | [a, b, c, d, e, f], _ => simp [plus]

theorem foldl_dot : ∀ (l : List (Int × Int)) (s : Int), l.foldl (fun (s : Int) (x : Int × Int) => s + x.1 * x.2) s = s + l.foldl (fun (s : Int) (x : Int × Int) => s + x.1 * x.2) 0
  | [], s => by simp
  | x :: l, s => by
    simp only [List.foldl_cons]
    rw [foldl_dot l (s + x.1 * x.2), foldl_dot l (0 + x.1 * x.2)]; omega
theorem dot_nil_l (b : Row) : dot [] b = 0 := by simp [dot]
theorem dot_nil_r (a : Row) : dot a [] = 0 := by simp [dot]
theorem dot_cons (x y : Int) (a b : Row) : dot (x :: a) (y :: b) = x * y + dot a b := by
  unfold dot
  rw [List.zip_cons_cons, List.foldl_cons, foldl_dot]; simp
theorem dot_plus : ∀ (n a b : Row) (k : Int), a.length = b.length → dot n (plus a b k) = dot n a + k * dot n b
  | [], a, b, k, _ => by simp [dot_nil_l]
  | m :: n, [], [], k, _ => by simp [dot_nil_r, plus]
  | m :: n, [], _ :: _, k, h => by simp at h
  | m :: n, _ :: _, [], k, h => by simp at h
  | m :: n, x :: a, y :: b, k, h => by
    rw [plus_cons, dot_cons, dot_cons, dot_cons, dot_plus n a b k (by simpa using h), Int.mul_add, Int.mul_add, Int.mul_left_comm m k y, Int.add_assoc, Int.add_assoc, Int.add_left_comm (k * (m * y))]
theorem dot_z6 (n : Row) : dot n z6 = 0 := by
  have h := dot_plus n z6 z6 (-1) rfl
  have e : plus z6 z6 (-1) = z6 := rfl
  rw [e] at h; omega

/-! spans -/
abbrev All6 (l : List Row) : Prop := ∀ r ∈ l, r.length = 6
inductive Spn (l : List Row) : Row → Prop
  | zero : Spn l z6
  | add {x r : Row} (k : Int) : Spn l x → r ∈ l → Spn l (plus x r k)

theorem Spn.len {l : List Row} (hl : All6 l) {x : Row} (h : Spn l x) : x.length = 6 := by
  induction h with
  | zero => rfl
  | add k _ hr ih => rw [plus_length, ih, hl _ hr]; rfl
theorem Spn.plus {l : List Row} (hl : All6 l) {x y : Row} (hx : Spn l x) (hy : Spn l y) (k : Int) : Spn l (plus x y k) := by
  induction hy with
  | zero => rw [plus_z6 x (hx.len hl)]; exact hx
  | add j hy hr ih => rw [plus_assoc]; exact Spn.add _ ih hr
theorem Spn.mem {l : List Row} (hl : All6 l) {r : Row} (h : r ∈ l) : Spn l r := by
  have := Spn.add (l := l) 1 Spn.zero h
  rwa [z6_plus r (hl r h)] at this
theorem Spn.sub {l m : List Row} (hm : All6 m) (h : ∀ r ∈ l, Spn m r) {x : Row} (hx : Spn l x) : Spn m x := by
  induction hx with
  | zero => exact Spn.zero
  | add k _ hr ih => exact ih.plus hm (h _ hr) k
theorem Spn.mono {l m : List Row} (h : ∀ r ∈ l, r ∈ m) {x : Row} (hx : Spn l x) : Spn m x := by
  induction hx with
  | zero => exact Spn.zero
  | add k _ hr ih => exact ih.add k (h _ hr)
/-- two lists with one span -/
def SameSp (l m : List Row) : Prop := ∀ x, Spn l x ↔ Spn m x
theorem SameSp.refl (l : List Row) : SameSp l l := fun _ => Iff.rfl
theorem SameSp.symm {l m : List Row} (h : SameSp l m) : SameSp m l := fun x => (h x).symm
theorem SameSp.trans {l m k : List Row} (h : SameSp l m) (g : SameSp m k) : SameSp l k := fun x => (h x).trans (g x)
theorem SameSp.of {l m : List Row} (hl : All6 l) (hm : All6 m) (h : ∀ r ∈ l, Spn m r) (g : ∀ r ∈ m, Spn l r) : SameSp l m :=
  fun _ => ⟨fun s => s.sub hm h, fun s => s.sub hl g⟩

/-- the names' part along what is spanned -/
theorem Spn.dvd {l : List Row} (hl : All6 l) {n : Row} {d : Int} (h : ∀ r ∈ l, d ∣ dot n r) {x : Row} (hx : Spn l x) : d ∣ dot n x := by
  induction hx with
  | zero => rw [dot_z6]; exact Int.dvd_zero d
  | @add x r k hx hr ih =>
    rw [dot_plus _ _ _ _ ((hx.len hl).trans (hl _ hr).symm)]
    exact Int.dvd_add ih (Int.dvd_mul_of_dvd_right (h _ hr))
theorem Spn.split {a : Row} {l : List Row} (hl : All6 (a :: l)) {x : Row} (hx : Spn (a :: l) x) : ∃ k y, Spn l y ∧ x = Uni.plus y a k := by
  have ha : a.length = 6 := hl a (by simp)
  have hl' : All6 l := fun r h => hl r (by simp [h])
  induction hx with
  | zero => exact ⟨0, z6, Spn.zero, by rw [plus_zero z6 a ha.symm]⟩
  | @add x r j _ hr ih =>
    obtain ⟨k, y, hy, rfl⟩ := ih
    rcases List.mem_cons.mp hr with rfl | hr
    · exact ⟨k + j, y, hy, by rw [plus_twice]⟩
    · exact ⟨k, Uni.plus y r j, hy.add j hr, by rw [plus_comm3]⟩
theorem Spn.dot0 {l : List Row} (hl : All6 l) {n : Row} (h : ∀ r ∈ l, dot n r = 0) {x : Row} (hx : Spn l x) : dot n x = 0 := by
  induction hx with
  | zero => exact dot_z6 n
  | @add x r k hx hr ih =>
    rw [dot_plus _ _ _ _ ((hx.len hl).trans (hl _ hr).symm), ih, h _ hr]; simp
/-- what of the span leaves the names' part alone -/
theorem ker_iff {a : Row} {l : List Row} (hl : All6 (a :: l)) {n : Row} (h : ∀ r ∈ l, dot n r = 0) (ha : dot n a ≠ 0) (x : Row) : Spn l x ↔ (Spn (a :: l) x ∧ dot n x = 0) := by
  have ha6 : a.length = 6 := hl a (by simp)
  have hl' : All6 l := fun r h => hl r (by simp [h])
  constructor
  · intro hx
    exact ⟨hx.mono (fun r hr => by simp [hr]), hx.dot0 hl' h⟩
  · rintro ⟨hx, h0⟩
    obtain ⟨k, y, hy, rfl⟩ := hx.split hl
    have hyl := hy.len hl'
    rw [dot_plus _ _ _ _ (hyl.trans ha6.symm), hy.dot0 hl' h] at h0
    have hk : k = 0 := by
      rcases Int.mul_eq_zero.mp (show k * dot n a = 0 by omega) with h | h
      · exact h
      · exact absurd h ha
    subst hk
    rw [plus_zero _ _ (hyl.trans ha6.symm)]; exact hy

/-! Euclid's rounds upon two rows -/
/-- one round leaves the span as it is -/
theorem round_same {a b : Row} (t : Int) {l : List Row} (h : All6 (a :: b :: l)) : SameSp (b :: plus a b t :: l) (a :: b :: l) := by
  have ha : a.length = 6 := h a (by simp)
  have hb : b.length = 6 := h b (by simp)
  have hl : ∀ r ∈ l, r.length = 6 := fun r hr => h r (by simp [hr])
  have hp : (plus a b t).length = 6 := by rw [plus_length, ha, hb]; rfl
  have h2 : All6 (b :: plus a b t :: l) := by
    intro r hr; simp at hr; rcases hr with rfl | rfl | hr
    · exact hb
    · exact hp
    · exact hl r hr
  refine SameSp.of h2 h ?_ ?_
  · intro r hr; simp at hr; rcases hr with rfl | rfl | hr
    · exact Spn.mem h (by simp)
    · exact (Spn.mem h (by simp)).plus h (Spn.mem h (by simp)) t
    · exact Spn.mem h (by simp [hr])
  · intro r hr; simp at hr; rcases hr with rfl | rfl | hr
    · have := (Spn.mem h2 (r := plus r b t) (by simp)).plus h2 (Spn.mem h2 (r := b) (by simp)) (-t)
      rwa [plus_back _ _ _ (ha.trans hb.symm)] at this
    · exact Spn.mem h2 (by simp)
    · exact Spn.mem h2 (by simp [hr])

theorem pair_ok (n : Row) : ∀ (f : Nat) (a b : Row), a.length = 6 → b.length = 6 → (dot n b).natAbs < f →
    (Uni.pair n f a b).1.length = 6 ∧ (Uni.pair n f a b).2.length = 6 ∧ dot n (Uni.pair n f a b).2 = 0 ∧
    SameSp [(Uni.pair n f a b).1, (Uni.pair n f a b).2] [a, b]
  | 0, a, b, ha, hb, hf => by omega
  | f + 1, a, b, ha, hb, hf => by
    unfold Uni.pair
    by_cases h0 : dot n b = 0
    · rw [if_pos h0]; exact ⟨ha, hb, h0, SameSp.refl _⟩
    · rw [if_neg h0]
      have hp : (plus a b (-(dot n a / dot n b))).length = 6 := by rw [plus_length, ha, hb]; rfl
      have e : dot n (plus a b (-(dot n a / dot n b))) = dot n a % dot n b := by
        rw [dot_plus _ _ _ _ (ha.trans hb.symm), Int.emod_def, Int.neg_mul, Int.mul_comm (dot n a / dot n b), ← Int.sub_eq_add_neg]
      have h1 := Int.emod_nonneg (dot n a) h0
      have h2 := Int.emod_lt (dot n a) h0
      have := pair_ok n f b (plus a b (-(dot n a / dot n b))) hb hp (by rw [e]; omega)
      obtain ⟨i1, i2, i3, i4⟩ := this
      refine ⟨i1, i2, i3, i4.trans ?_⟩
      refine round_same _ ?_
      intro r hr; simp at hr; rcases hr with rfl | rfl
      · exact ha
      · exact hb

theorem same_cons {l m : List Row} (r : Row) (hl : All6 (r :: l)) (hm : All6 (r :: m)) (h : SameSp l m) : SameSp (r :: l) (r :: m) := by
  have hl' : All6 l := fun r h => hl r (by simp [h])
  have hm' : All6 m := fun r h => hm r (by simp [h])
  refine SameSp.of hl hm ?_ ?_
  · intro x hx; rcases List.mem_cons.mp hx with rfl | hx
    · exact Spn.mem hm (by simp)
    · exact ((h x).mp (Spn.mem hl' hx)).mono (fun r hr => by simp [hr])
  · intro x hx; rcases List.mem_cons.mp hx with rfl | hx
    · exact Spn.mem hl (by simp)
    · exact ((h x).mpr (Spn.mem hm' hx)).mono (fun r hr => by simp [hr])
theorem same_append {l m l' m' : List Row} (hl : All6 (l ++ l')) (hm : All6 (m ++ m')) (h : SameSp l m) (h' : SameSp l' m') : SameSp (l ++ l') (m ++ m') := by
  have hl1 : All6 l := fun r h => hl r (by simp [h])
  have hl2 : All6 l' := fun r h => hl r (by simp [h])
  have hm1 : All6 m := fun r h => hm r (by simp [h])
  have hm2 : All6 m' := fun r h => hm r (by simp [h])
  refine SameSp.of hl hm ?_ ?_
  · intro x hx; rcases List.mem_append.mp hx with hx | hx
    · exact ((h x).mp (Spn.mem hl1 hx)).mono (fun r hr => by simp [hr])
    · exact ((h' x).mp (Spn.mem hl2 hx)).mono (fun r hr => by simp [hr])
  · intro x hx; rcases List.mem_append.mp hx with hx | hx
    · exact ((h x).mpr (Spn.mem hm1 hx)).mono (fun r hr => by simp [hr])
    · exact ((h' x).mpr (Spn.mem hm2 hx)).mono (fun r hr => by simp [hr])
/-- the same rows in another order -/
theorem same_mem {l m : List Row} (h : ∀ r, r ∈ l ↔ r ∈ m) : SameSp l m := fun _ => ⟨fun s => s.mono fun r hr => (h r).mp hr, fun s => s.mono fun r hr => (h r).mpr hr⟩

/-- one row that goes, a list of rows that stay, which together span what steps span -/
structure Parted (n : Row) (steps : List Row) (a : Row) (l : List Row) : Prop where
  six : All6 (a :: l)
  stay : ∀ r ∈ l, dot n r = 0
  same : SameSp (a :: l) steps

theorem sorted_ok (n : Row) : ∀ (l : List Row), All6 l → (Uni.sorted n l = none ∧ l = []) ∨ ∃ a r, Uni.sorted n l = some (a, r) ∧ Parted n l a r
  | [], _ => .inl ⟨rfl, rfl⟩
  | a :: l, h => by
    have ha : a.length = 6 := h a (by simp)
    have hl : All6 l := fun r hr => h r (by simp [hr])
    refine .inr ?_
    unfold Uni.sorted
    rcases sorted_ok n l hl with ⟨e, rfl⟩ | ⟨b, r, e, P⟩
    · rw [e]; exact ⟨a, [], rfl, h, by simp, SameSp.refl _⟩
    · rw [e]
      have hb : b.length = 6 := P.six b (by simp)
      obtain ⟨i1, i2, i3, i4⟩ := pair_ok n (2 * ((dot n a).natAbs + (dot n b).natAbs) + 2) a b ha hb (by omega)
      refine ⟨_, _, rfl, ?_, ?_, ?_⟩
      · intro x hx; simp at hx; rcases hx with rfl | rfl | hx
        · exact i1
        · exact i2
        · exact P.six x (by simp [hx])
      · intro x hx; simp at hx; rcases hx with rfl | hx
        · exact i3
        · exact P.stay x hx
      · have hr : All6 r := fun x hx => P.six x (by simp [hx])
        have s1 := same_append (l := [_, _]) (m := [a, b]) (l' := r) (m' := r) (by
          intro x hx; simp at hx; rcases hx with rfl | rfl | hx
          · exact i1
          · exact i2
          · exact hr x hx) (by
          intro x hx; simp at hx; rcases hx with rfl | rfl | hx
          · exact ha
          · exact hb
          · exact hr x hx) i4 (SameSp.refl r)
        exact s1.trans (same_cons a (by
          intro x hx; rcases List.mem_cons.mp hx with rfl | hx
          · exact ha
          · exact P.six x hx) h P.same)

/-! how far the names' part goes -/
theorem goes_fold (n : Row) (d : Nat) : ∀ (l : List Row) (g : Nat), d ∣ l.foldl (fun (g : Nat) (r : Row) => Nat.gcd g (dot n r).natAbs) g ↔ (d ∣ g ∧ ∀ r ∈ l, d ∣ (dot n r).natAbs)
  | [], g => by simp
  | a :: l, g => by
    rw [List.foldl_cons, goes_fold n d l, Nat.dvd_gcd_iff]
    simp only [List.mem_cons, forall_eq_or_imp, and_assoc]
def gof (n : Row) (l : List Row) : Nat := l.foldl (fun (g : Nat) (r : Row) => Nat.gcd g (dot n r).natAbs) 0
theorem goes_eq (w : Uni.Ways) (f : Uni.Form) : Uni.goes w f = gof f.names w.steps := rfl
theorem dvd_gof {n : Row} {d : Nat} {l : List Row} : d ∣ gof n l ↔ ∀ r ∈ l, (d : Int) ∣ dot n r := by
  unfold gof
  rw [goes_fold]
  constructor
  · intro h r hr; exact Int.ofNat_dvd_left.mpr (h.2 r hr)
  · intro h; exact ⟨Nat.dvd_zero d, fun r hr => Int.ofNat_dvd_left.mp (h r hr)⟩
theorem dvd_gof_sp {n : Row} {d : Nat} {l : List Row} (hl : All6 l) : d ∣ gof n l ↔ ∀ x, Spn l x → (d : Int) ∣ dot n x := by
  rw [dvd_gof]
  exact ⟨fun h x hx => hx.dvd hl h, fun h r hr => h r (Spn.mem hl hr)⟩
theorem gof_dvd {n : Row} {l : List Row} (hl : All6 l) {x : Row} (h : Spn l x) : (gof n l : Int) ∣ dot n x := (dvd_gof_sp hl).mp (Nat.dvd_refl _) x h
theorem gof_same {n : Row} {l m : List Row} (hl : All6 l) (hm : All6 m) (h : SameSp l m) : gof n l = gof n m :=
  Nat.dvd_antisymm ((dvd_gof_sp hm).mpr fun _ hx => gof_dvd hl ((h _).mpr hx)) ((dvd_gof_sp hl).mpr fun _ hx => gof_dvd hm ((h _).mp hx))
theorem gof_parted {n : Row} {l : List Row} {a : Row} {r : List Row} (hl : All6 l) (P : Parted n l a r) : gof n l = (dot n a).natAbs := by
  rw [← gof_same P.six hl P.same]
  refine Nat.dvd_antisymm (Int.ofNat_dvd_left.mp (dvd_gof.mp (Nat.dvd_refl _) a (by simp))) (dvd_gof.mpr ?_)
  intro x hx; rcases List.mem_cons.mp hx with rfl | hx
  · exact Int.ofNat_dvd_left.mpr (Nat.dvd_refl _)
  · rw [P.stay x hx]; exact Int.dvd_zero _
theorem gof_neg {n n' : Row} {l : List Row} (h : ∀ r ∈ l, dot n' r = - dot n r) : gof n' l = gof n l := by
  refine Nat.dvd_antisymm (dvd_gof.mpr fun r hr => ?_) (dvd_gof.mpr fun r hr => ?_)
  · have := dvd_gof.mp (Nat.dvd_refl (gof n' l)) r hr
    rw [h r hr] at this; exact Int.dvd_neg.mp this
  · have := dvd_gof.mp (Nat.dvd_refl (gof n l)) r hr
    rw [h r hr]; exact Int.dvd_neg.mpr this
end Uf

set_option Elab.async false
namespace Uf
open Uni (Row plus dot at_)

def gd (l : List Row) (b : Nat) : Row := l.getD b []
/-- a line (names' part n, known part e) that no way of these keeps -/
def LineNo (n e : Row) (starts steps : List Row) : Prop := ¬ ∀ b, b < 7 → (gof n steps : Int) ∣ at_ e b + dot n (gd starts b)
/-- the ways of these that keep a line -/
structure LineYes (n e : Row) (starts steps starts' steps' : List Row) : Prop where
  len : starts'.length = 7
  six : All6 starts'
  sixS : All6 steps'
  ker : ∀ x, Spn steps' x ↔ (Spn steps x ∧ dot n x = 0)
  one : ∀ b, b < 7 → ∃ x, Spn steps x ∧ gd starts' b = plus (gd starts b) x 1 ∧ at_ e b + dot n (gd starts' b) = 0
/-- ways in form -/
structure Good (starts steps : List Row) : Prop where
  len : starts.length = 7
  six : All6 starts
  sixS : All6 steps
theorem Good.gd6 {s t : List Row} (G : Good s t) {b : Nat} (h : b < 7) : (gd s b).length = 6 := by
  unfold gd
  have hb : b < s.length := by rw [G.len]; exact h
  rw [List.getD_eq_getElem?_getD, List.getElem?_eq_getElem hb]
  exact G.six _ (List.getElem_mem hb)
theorem LineYes.good {n e : Row} {s t s' t' : List Row} (Y : LineYes n e s t s' t') : Good s' t' := ⟨Y.len, Y.six, Y.sixS⟩

theorem LineYes.not_no {n e : Row} {s t s' t' : List Row} (G : Good s t) (Y : LineYes n e s t s' t') : ¬ LineNo n e s t := by
  intro h; apply h; intro b hb
  obtain ⟨x, hx, e1, e2⟩ := Y.one b hb
  rw [e1, dot_plus _ _ _ _ ((G.gd6 hb).trans (hx.len G.sixS).symm)] at e2
  have := gof_dvd (n := n) G.sixS hx
  have e3 : at_ e b + dot n (gd s b) = - dot n x := by omega
  rw [e3]; exact Int.dvd_neg.mpr this

/-- the same line told the other way round -/
theorem LineYes.neg {n e n' e' : Row} {s t s' t' : List Row} (hn : ∀ x, dot n' x = - dot n x) (he : ∀ b, at_ e' b = - at_ e b) (Y : LineYes n e s t s' t') : LineYes n' e' s t s' t' := by
  refine ⟨Y.len, Y.six, Y.sixS, fun x => ?_, fun b hb => ?_⟩
  · rw [Y.ker x, hn x]
    constructor
    · rintro ⟨a, b⟩; exact ⟨a, by omega⟩
    · rintro ⟨a, b⟩; exact ⟨a, by omega⟩
  · obtain ⟨x, h1, h2, h3⟩ := Y.one b hb
    exact ⟨x, h1, h2, by rw [hn, he]; omega⟩
theorem LineNo.neg {n e n' e' : Row} {s t : List Row} (hn : ∀ x, dot n' x = - dot n x) (he : ∀ b, at_ e' b = - at_ e b) (Y : LineNo n e s t) : LineNo n' e' s t := by
  intro h; apply Y; intro b hb
  have := h b hb
  rw [gof_neg (n := n) (fun r _ => hn r), hn, he] at this
  have e1 : at_ e b + dot n (gd s b) = -(- at_ e b + - dot n (gd s b)) := by omega
  rw [e1]; exact Int.dvd_neg.mpr this

theorem told_get (w : Uni.Ways) (f : Uni.Form) {b : Nat} (h : b < 7) : (Uni.told w f)[b]? = some (at_ f.base b + dot f.names (gd w.one b)) := by
  unfold Uni.told Uni.rowOf gd
  rw [List.getElem?_map, List.getElem?_range (by exact h)]; rfl
theorem told_len (w : Uni.Ways) (f : Uni.Form) : (Uni.told w f).length = 7 := by
  unfold Uni.told Uni.rowOf; simp [Uni.BASES]
theorem told_all (w : Uni.Ways) (f : Uni.Form) (p : Int → Bool) : (Uni.told w f).all p = true ↔ ∀ b, b < 7 → p (at_ f.base b + dot f.names (gd w.one b)) = true := by
  rw [List.all_eq_true]
  constructor
  · intro h b hb
    exact h _ (List.mem_of_getElem? (told_get w f hb))
  · intro h x hx
    obtain ⟨b, hb, rfl⟩ := List.mem_iff_getElem.mp hx
    rw [told_len] at hb
    have := told_get w f hb
    rw [List.getElem?_eq_getElem (by rw [told_len]; exact hb)] at this
    rw [Option.some.inj this]; exact h b hb

theorem line_all_zero {n e : Row} {s t : List Row} (G : Good s t) (h0 : gof n t = 0) (h : ∀ b, b < 7 → at_ e b + dot n (gd s b) = 0) : LineYes n e s t s t := by
  refine ⟨G.len, G.six, G.sixS, fun x => ⟨fun hx => ⟨hx, ?_⟩, fun h => h.1⟩, fun b hb => ⟨z6, Spn.zero, ?_, h b hb⟩⟩
  · have := gof_dvd (n := n) G.sixS hx
    rw [h0] at this; exact Int.zero_dvd.mp this
  · rw [plus_z6 _ (G.gd6 hb)]

/-- ways moved along a row that goes by what is told -/
theorem line_moved {n e : Row} {s t : List Row} (G : Good s t) {a : Row} {l : List Row} (P : Parted n t a l) (h0 : dot n a ≠ 0) {s' : List Row} (hlen : s'.length = 7)
    (hs : ∀ b, b < 7 → ∃ k, gd s' b = plus (gd s b) a k ∧ at_ e b + dot n (gd s b) + k * dot n a = 0) : LineYes n e s t s' l := by
  have ha : a.length = 6 := P.six a (by simp)
  have hsp : Spn t a := (P.same a).mp (Spn.mem P.six (by simp))
  refine ⟨hlen, ?_, fun r hr => P.six r (by simp [hr]), fun x => ?_, fun b hb => ?_⟩
  · intro r hr
    obtain ⟨b, hb, rfl⟩ := List.mem_iff_getElem.mp hr
    rw [hlen] at hb
    obtain ⟨k, e1, _⟩ := hs b hb
    have e2 : s'[b] = gd s' b := by
      unfold gd; rw [List.getD_eq_getElem?_getD, List.getElem?_eq_getElem (by rw [hlen]; exact hb)]; rfl
    rw [e2, e1, plus_length, G.gd6 hb, ha]; rfl
  · rw [ker_iff P.six P.stay h0, P.same x]
  · obtain ⟨k, e1, e2⟩ := hs b hb
    have h6 := G.gd6 hb
    have hsp' : Spn t (plus z6 a k) := (Spn.zero (l := t)).plus G.sixS hsp k
    refine ⟨plus z6 a k, hsp', ?_, ?_⟩
    · rw [e1, plus_assoc, plus_z6 _ h6]; simp
    · rw [e1, dot_plus _ _ _ _ (h6.trans ha.symm)]; omega

theorem bound_ok (w : Uni.Ways) (f : Uni.Form) (G : Good w.one w.steps) : (Uni.bound w f = none ∧ LineNo f.names f.base w.one w.steps) ∨ ∃ w', Uni.bound w f = some w' ∧ LineYes f.names f.base w.one w.steps w'.one w'.steps := by
  have zero_case : gof f.names w.steps = 0 → ((if (Uni.told w f).all (fun (x : Int) => x == 0) = true then some w else none) = (none : Option Uni.Ways) ∧ LineNo f.names f.base w.one w.steps) ∨ ∃ w', (if (Uni.told w f).all (fun (x : Int) => x == 0) = true then some w else none) = some w' ∧ LineYes f.names f.base w.one w.steps w'.one w'.steps := by
    intro h0
    by_cases h : (Uni.told w f).all (fun (x : Int) => x == 0) = true
    · rw [if_pos h]
      refine .inr ⟨w, rfl, line_all_zero G h0 fun b hb => ?_⟩
      exact eq_of_beq ((told_all w f _).mp h b hb)
    · rw [if_neg h]
      refine .inl ⟨rfl, fun hd => h ((told_all w f _).mpr fun b hb => ?_)⟩
      have := hd b hb
      rw [h0] at this
      exact beq_iff_eq.mpr (Int.zero_dvd.mp this)
  unfold Uni.bound
  rcases sorted_ok f.names w.steps G.sixS with ⟨e, hnil⟩ | ⟨a, l, e, P⟩
  · rw [e]
    exact zero_case (by rw [hnil]; rfl)
  · rw [e]
    have hg := gof_parted G.sixS P
    by_cases h0 : dot f.names a = 0
    · simp only [if_pos h0]
      exact zero_case (by rw [hg, h0]; rfl)
    · simp only [if_neg h0]
      by_cases h : (Uni.told w f).all (fun (x : Int) => x % dot f.names a == 0) = true
      · rw [if_pos h]
        refine .inr ⟨_, rfl, line_moved G P h0 ?_ fun b hb => ⟨-((at_ f.base b + dot f.names (gd w.one b)) / dot f.names a), ?_, ?_⟩⟩
        · simp [told_len, G.len]
        · have hb' : b < w.one.length := by rw [G.len]; exact hb
          have e1 : w.one[b]? = some (gd w.one b) := by
            unfold gd; rw [List.getD_eq_getElem?_getD, List.getElem?_eq_getElem hb']; rfl
          have e2 : (w.one.zip (Uni.told w f))[b]? = some (gd w.one b, at_ f.base b + dot f.names (gd w.one b)) :=
            List.getElem?_zip_eq_some.mpr ⟨e1, told_get w f hb⟩
          show List.getD _ b [] = _
          rw [List.getD_eq_getElem?_getD, List.getElem?_map, e2]; rfl
        · have := eq_of_beq ((told_all w f _).mp h b hb)
          have hd := Int.ediv_mul_cancel (Int.dvd_of_emod_eq_zero this)
          rw [Int.neg_mul]; omega
      · rw [if_neg h]
        refine .inl ⟨rfl, fun hd => h ((told_all w f _).mpr fun b hb => ?_)⟩
        have := hd b hb
        rw [hg] at this
        exact beq_iff_eq.mpr (Int.emod_eq_zero_of_dvd (Int.natAbs_dvd.mp this))

/-- the program's ways and the specification's are the same ways -/
structure Rel (starts steps : List Row) (w : Uni.Ways) : Prop where
  good : Good starts steps
  goodW : Good w.one w.steps
  same : SameSp steps w.steps
  one : ∀ b, b < 7 → ∃ x, Spn steps x ∧ gd starts b = plus (gd w.one b) x 1
theorem Rel.gof {s t : List Row} {w : Uni.Ways} (R : Rel s t w) (f : Uni.Form) : gof f.names t = Uni.goes w f := by
  rw [goes_eq]; exact gof_same R.good.sixS R.goodW.sixS R.same
theorem Rel.dot {s t : List Row} {w : Uni.Ways} (R : Rel s t w) (n : Row) {b : Nat} (hb : b < 7) : ∃ d, (Uf.gof n t : Int) ∣ d ∧ dot n (gd s b) = dot n (gd w.one b) + d := by
  obtain ⟨x, hx, e⟩ := R.one b hb
  exact ⟨Uni.dot n x, gof_dvd R.good.sixS hx, by rw [e, dot_plus _ _ _ _ ((R.goodW.gd6 hb).trans (hx.len R.good.sixS).symm)]; omega⟩
theorem Rel.no {s t : List Row} {w : Uni.Ways} {f : Uni.Form} (R : Rel s t w) (h : LineNo f.names f.base s t) : Uni.bound w f = none := by
  rcases bound_ok w f R.goodW with ⟨e, _⟩ | ⟨w', e, Y⟩
  · exact e
  · refine absurd ?_ h
    intro b hb
    have h1 : ∀ b, b < 7 → (Uf.gof f.names w.steps : Int) ∣ at_ f.base b + Uni.dot f.names (gd w.one b) := Classical.byContradiction fun q => Y.not_no R.goodW q
    obtain ⟨d, hd, e1⟩ := R.dot f.names hb
    have hs := gof_same (n := f.names) R.good.sixS R.goodW.sixS R.same
    rw [hs] at hd ⊢
    rw [e1, ← Int.add_assoc]
    exact Int.dvd_add (h1 b hb) hd
theorem Rel.yes {s t s' t' : List Row} {w : Uni.Ways} {f : Uni.Form} (R : Rel s t w) (Y : LineYes f.names f.base s t s' t') : ∃ w', Uni.bound w f = some w' ∧ Rel s' t' w' := by
  rcases bound_ok w f R.goodW with ⟨_, N⟩ | ⟨w', e, Z⟩
  · exfalso
    apply N
    intro b hb
    have h1 : ∀ b, b < 7 → (Uf.gof f.names t : Int) ∣ at_ f.base b + Uni.dot f.names (gd s b) := Classical.byContradiction fun q => Y.not_no R.good q
    obtain ⟨d, hd, e1⟩ := R.dot f.names hb
    have hs := gof_same (n := f.names) R.good.sixS R.goodW.sixS R.same
    have h2 := h1 b hb
    rw [e1, ← Int.add_assoc] at h2
    rw [hs] at hd h2
    exact (Int.dvd_add_left hd).mp h2
  · refine ⟨w', e, Y.good, Z.good, fun x => by rw [Y.ker x, Z.ker x, R.same x], fun b hb => ?_⟩
    obtain ⟨x, hx, e1⟩ := R.one b hb
    obtain ⟨y, hy, e2, e3⟩ := Y.one b hb
    obtain ⟨u, hu, e4, e5⟩ := Z.one b hb
    have hu' := (R.same u).mpr hu
    have lx := hx.len R.good.sixS
    have ly := hy.len R.good.sixS
    have lu := hu'.len R.good.sixS
    have lo := R.goodW.gd6 hb
    have ls := R.good.gd6 hb
    have hz := (hx.plus R.good.sixS hy 1).plus R.good.sixS hu' (-1)
    have lz := hz.len R.good.sixS
    have eq : gd s' b = plus (gd w'.one b) (plus (plus x y 1) u (-1)) 1 := by
      rw [e2, e1, e4, plus_assoc, plus_assoc]
      rw [show (1 * 1 : Int) = 1 from rfl, show (1 * -1 : Int) = -1 from rfl]
      rw [plus_comm3 (gd w.one b) u x 1 1, plus_comm3 (plus (gd w.one b) x 1) u y 1 1, plus_back]
      rw [plus_length, plus_length, lo, lx, ly, lu]; rfl
    refine ⟨_, (Y.ker _).mpr ⟨hz, ?_⟩, eq⟩
    have l4 : (gd w'.one b).length = 6 := Z.good.gd6 hb
    rw [eq, dot_plus _ _ _ _ (l4.trans lz.symm)] at e3
    omega

/-- unit: the numbers told are the same -/
theorem emod_same {x y g d : Int} (hd : g ∣ d) (e : y = x + d) : y % g = x % g := by
  obtain ⟨k, rfl⟩ := hd
  rw [e, Int.add_mul_emod_self_left]
theorem free_good : Good Uni.free.one Uni.free.steps := by
  refine ⟨rfl, ?_, ?_⟩ <;> · intro r hr; revert r; decide
theorem Rel.refl {w : Uni.Ways} (G : Good w.one w.steps) : Rel w.one w.steps w := ⟨G, G, SameSp.refl _, fun b hb => ⟨z6, Spn.zero, by rw [plus_z6 _ (G.gd6 hb)]⟩⟩
end Uf

set_option Elab.async false
namespace Uf
open Uni (Row plus dot at_)

/-! sizes -/
def Bd (X : Nat) (r : Row) : Prop := ∀ x ∈ r, x.natAbs ≤ X
theorem Bd.mono {X Y : Nat} {r : Row} (h : Bd X r) (e : X ≤ Y) : Bd Y r := fun x hx => Nat.le_trans (h x hx) e
theorem Bd.nil (X : Nat) : Bd X [] := fun x hx => by simp at hx
theorem Bd.cons {X : Nat} {x : Int} {r : Row} : Bd X (x :: r) ↔ (x.natAbs ≤ X ∧ Bd X r) := by simp [Bd]
theorem Bd.plus : ∀ {a b : Row} {X Y : Nat} (k : Int), Bd X a → Bd Y b → Bd (X + k.natAbs * Y) (plus a b k)
  | [], b, X, Y, k, _, _ => by rw [plus_nil_l]; exact Bd.nil _
  | _ :: _, [], X, Y, k, _, _ => by rw [plus_nil_r]; exact Bd.nil _
  | x :: a, y :: b, X, Y, k, ha, hb => by
    rw [plus_cons]
    have ha' := Bd.cons.mp ha
    have hb' := Bd.cons.mp hb
    refine Bd.cons.mpr ⟨?_, Bd.plus k ha'.2 hb'.2⟩
    have h1 : (x + k * y).natAbs ≤ x.natAbs + (k * y).natAbs := Int.natAbs_add_le _ _
    rw [Int.natAbs_mul] at h1
    exact Nat.le_trans h1 (Nat.add_le_add ha'.1 (Nat.mul_le_mul_left _ hb'.1))
theorem dot_bd : ∀ {n a : Row} {N X : Nat}, Bd N n → Bd X a → (dot n a).natAbs ≤ n.length * (N * X)
  | [], a, N, X, _, _ => by rw [dot_nil_l]; simp
  | _ :: _, [], N, X, _, _ => by rw [dot_nil_r]; simp
  | m :: n, x :: a, N, X, hn, ha => by
    rw [dot_cons]
    have hn' := Bd.cons.mp hn
    have ha' := Bd.cons.mp ha
    have h1 : (m * x + dot n a).natAbs ≤ (m * x).natAbs + (dot n a).natAbs := Int.natAbs_add_le _ _
    rw [Int.natAbs_mul] at h1
    have h2 := dot_bd hn'.2 ha'.2
    have h3 : m.natAbs * x.natAbs ≤ N * X := Nat.mul_le_mul hn'.1 ha'.1
    rw [List.length_cons, Nat.add_mul]
    omega
theorem dot_bd72 {n a : Row} {X : Nat} (h6 : n.length = 6) (hn : Bd 12 n) (ha : Bd X a) : (dot n a).natAbs ≤ 72 * X := by
  have := dot_bd hn ha
  rw [h6] at this; omega

/-! the loop upon two rows: between two rounds -/
structure PairInv (n a b : Row) (C P : Nat) (L S : Row) : Prop where
  lenL : L.length = 6
  lenS : S.length = 6
  same : SameSp [L, S] [a, b]
  goesL : dot n L ≠ 0
  pL : (dot n L).natAbs ≤ P
  pS : (dot n S).natAbs ≤ P
  bdL : Bd C L
  size : ∃ XL XS : Nat, Bd XL L ∧ Bd XS S ∧ ((0 ≤ dot n L * dot n S ∧ XL * (dot n S).natAbs + XS * (dot n L).natAbs ≤ C) ∨ XL * (dot n S).natAbs + XS * (dot n L).natAbs + 2 * (XS * (dot n S).natAbs) ≤ C)
theorem PairInv.bdS {n a b L S : Row} {C P : Nat} (I : PairInv n a b C P L S) : Bd C S := by
  obtain ⟨XL, XS, _, h2, h3⟩ := I.size
  have h0 : 1 ≤ (dot n L).natAbs := by have := I.goesL; omega
  have h4 : XS * 1 ≤ XS * (dot n L).natAbs := Nat.mul_le_mul_left _ h0
  exact h2.mono (by omega)
theorem fround_pos {p q : Int} (hq : 0 < q) : (0 ≤ p → (p / q).natAbs * q.natAbs + (p % q).natAbs = p.natAbs) ∧ (p / q).natAbs * q.natAbs + (p % q).natAbs ≤ p.natAbs + 2 * q.natAbs := by
  have h1 := Int.emod_nonneg p (show q ≠ 0 by omega)
  have h2 := Int.emod_lt_of_pos p hq
  have h3 := Int.mul_ediv_add_emod p q
  have h4 : ((p / q).natAbs * q.natAbs : Nat) = (q * (p / q)).natAbs := by rw [Int.natAbs_mul, Nat.mul_comm]
  rw [h4]
  refine ⟨fun h => ?_, by omega⟩
  have h5 : 0 ≤ q * (p / q) := Int.mul_nonneg (by omega) (Int.ediv_nonneg h (by omega))
  omega
/-- the numbers of a round: floor division leaves a rest of the divisor's sign -/
theorem fround {p q : Int} (hq : q ≠ 0) : ∃ r, p + -(p.fdiv q) * q = r ∧ r.natAbs < q.natAbs ∧ 0 ≤ q * r ∧ (0 ≤ p * q → (p.fdiv q).natAbs * q.natAbs + r.natAbs = p.natAbs) ∧ (p.fdiv q).natAbs * q.natAbs + r.natAbs ≤ p.natAbs + 2 * q.natAbs := by
  rcases Int.lt_or_gt_of_ne hq with h | h
  · have e : p.fdiv q = (-p) / (-q) := by
      rw [← Int.neg_fdiv_neg, Int.fdiv_eq_ediv_of_nonneg _ (by omega)]
    have h1 := Int.emod_nonneg (-p) (show -q ≠ 0 by omega)
    have h2 := Int.emod_lt_of_pos (-p) (show 0 < -q by omega)
    have h3 := Int.mul_ediv_add_emod (-p) (-q)
    have h4 := fround_pos (p := -p) (q := -q) (by omega)
    rw [e]
    refine ⟨-((-p) % (-q)), ?_, ?_, ?_, ?_⟩
    · rw [← e] at h3 ⊢; generalize (-p) % (-q) = r at h3; grind
    · omega
    · exact Int.mul_nonneg_of_nonpos_of_nonpos (by omega) (by omega)
    · simp only [Int.natAbs_neg] at h4 ⊢
      refine ⟨fun g => h4.1 ?_, h4.2⟩
      rcases Int.lt_or_le 0 p with g1 | g1
      · have := Int.mul_neg_of_pos_of_neg g1 h
        omega
      · omega
  · have e : p.fdiv q = p / q := by rw [Int.fdiv_eq_ediv_of_nonneg _ (by omega)]
    have h1 := Int.emod_nonneg p (show q ≠ 0 by omega)
    have h2 := Int.emod_lt_of_pos p (show 0 < q by omega)
    have h3 := Int.mul_ediv_add_emod p q
    have h4 := fround_pos (p := p) (q := q) (by omega)
    rw [e]
    refine ⟨p % q, ?_, ?_, ?_, ?_⟩
    · generalize p % q = r at h3; grind
    · omega
    · exact Int.mul_nonneg (by omega) (by omega)
    · refine ⟨fun g => h4.1 ?_, h4.2⟩
      rcases Int.lt_or_le p 0 with g1 | g1
      · have := Int.mul_neg_of_neg_of_pos g1 h
        omega
      · omega
theorem PairInv.start {n a b : Row} {XL XS : Nat} (ha : a.length = 6) (hb : b.length = 6) (h0 : dot n a ≠ 0) (h6 : n.length = 6) (hn : Bd 12 n) (hL : Bd XL a) (hS : Bd XS b) (hx : XS ≤ XL) (h1 : 1 ≤ XS) :
    PairInv n a b (288 * XS * XL) (72 * XL) a b := by
  have p1 := dot_bd72 h6 hn hL
  have p2 := dot_bd72 h6 hn hS
  refine ⟨ha, hb, SameSp.refl _, h0, p1, ?_, hL.mono ?_, XL, XS, hL, hS, .inr ?_⟩
  · omega
  · have : 1 * XL ≤ 288 * XS * XL := Nat.mul_le_mul_right _ (by omega)
    omega
  · have e1 : XL * (dot n b).natAbs ≤ XL * (72 * XS) := Nat.mul_le_mul_left _ p2
    have e2 : XS * (dot n a).natAbs ≤ XS * (72 * XL) := Nat.mul_le_mul_left _ p1
    have e3 : XS * (dot n b).natAbs ≤ XS * (72 * XL) := Nat.mul_le_mul_left _ (by omega)
    have e4 : XL * (72 * XS) = 72 * (XS * XL) := by rw [Nat.mul_left_comm, Nat.mul_comm XL XS]
    have e5 : XS * (72 * XL) = 72 * (XS * XL) := Nat.mul_left_comm _ _ _
    have e6 : 288 * XS * XL = 288 * (XS * XL) := Nat.mul_assoc _ _ _
    omega
theorem PairInv.round {n a b L S : Row} {C P : Nat} (I : PairInv n a b C P L S) (h : dot n S ≠ 0) :
    PairInv n a b C P S (plus L S (-((dot n L).fdiv (dot n S)))) ∧ (dot n (plus L S (-((dot n L).fdiv (dot n S))))).natAbs < (dot n S).natAbs := by
  obtain ⟨r, e, r1, r2, r3, r4⟩ := fround (p := dot n L) h
  have ed : dot n (plus L S (-((dot n L).fdiv (dot n S)))) = r := by
    rw [dot_plus _ _ _ _ (I.lenL.trans I.lenS.symm)]; exact e
  have h6 : All6 [L, S] := by
    intro x hx; simp at hx; rcases hx with rfl | rfl
    · exact I.lenL
    · exact I.lenS
  have pS := I.pS
  refine ⟨⟨I.lenS, by rw [plus_length, I.lenL, I.lenS]; rfl, (round_same _ h6).trans I.same, h, pS, by rw [ed]; omega, I.bdS, ?_⟩, by rw [ed]; exact r1⟩
  obtain ⟨XL, XS, b1, b2, b3⟩ := I.size
  refine ⟨XS, _, b2, b1.plus _ b2, .inl ⟨by rw [ed]; exact r2, ?_⟩⟩
  rw [ed, Int.natAbs_neg]
  generalize ((dot n L).fdiv (dot n S)).natAbs = t at *
  generalize (dot n S).natAbs = q at *
  generalize (dot n L).natAbs = p at *
  generalize r.natAbs = r' at *
  have e1 : XS * r' + (XL + t * XS) * q = XL * q + XS * (t * q + r') := by rw [Nat.add_mul, Nat.mul_add, Nat.mul_assoc, Nat.mul_left_comm t XS q]; omega
  rw [e1]
  rcases b3 with ⟨g, b3⟩ | b3
  · rw [r3 g]; exact b3
  · have e2 : XS * (t * q + r') ≤ XS * (p + 2 * q) := Nat.mul_le_mul_left _ r4
    have e3 : XS * (p + 2 * q) = XS * p + 2 * (XS * q) := by rw [Nat.mul_add, Nat.mul_left_comm XS 2 q]
    omega

/-! the loop over the steps: what was parted so far -/
structure PartInv (n : Row) (X : Nat) (pre : List Row) (lead : Row) (idle : List Row) : Prop where
  six : All6 (lead :: idle)
  pre6 : All6 pre
  stay : ∀ r ∈ idle, dot n r = 0
  same : SameSp (lead :: idle) pre
  none_ : dot n lead = 0 → lead = z6 ∧ idle = pre
  some_ : dot n lead ≠ 0 → idle.length + 1 = pre.length
  bd : ∀ r ∈ lead :: idle, Bd ((288 * X) ^ (pre.length - 1) * X) r
theorem PartInv.parted {n : Row} {X : Nat} {pre : List Row} {lead : Row} {idle : List Row} (I : PartInv n X pre lead idle) : Parted n pre lead idle := ⟨I.six, I.stay, I.same⟩
theorem All6.cons {a : Row} {l : List Row} (ha : a.length = 6) (hl : All6 l) : All6 (a :: l) := by
  intro r hr; rcases List.mem_cons.mp hr with rfl | hr
  · exact ha
  · exact hl r hr
theorem All6.tail {a : Row} {l : List Row} (h : All6 (a :: l)) : All6 l := fun r hr => h r (by simp [hr])
theorem All6.head {a : Row} {l : List Row} (h : All6 (a :: l)) : a.length = 6 := h a (by simp)
theorem All6.app {l m : List Row} (h : All6 l) (g : All6 m) : All6 (l ++ m) := by
  intro r hr; rcases List.mem_append.mp hr with hr | hr
  · exact h r hr
  · exact g r hr
theorem All6.nil : All6 [] := fun r hr => by simp at hr
theorem z6_same {l : List Row} (hl : All6 l) : SameSp (z6 :: l) l := by
  refine SameSp.of (All6.cons rfl hl) hl (fun r hr => ?_) (fun r hr => Spn.mem (All6.cons rfl hl) (by simp [hr]))
  rcases List.mem_cons.mp hr with rfl | hr
  · exact Spn.zero
  · exact Spn.mem hl hr
theorem Bd.z6 (X : Nat) : Bd X z6 := by intro x hx; simp at hx; subst hx; simp
theorem PartInv.start (n : Row) (X : Nat) : PartInv n X [] z6 [] :=
  ⟨All6.cons rfl All6.nil, All6.nil, by simp, z6_same All6.nil, fun _ => ⟨rfl, rfl⟩, fun h => absurd (dot_z6 n) h, fun r hr => by simp at hr; subst hr; exact Bd.z6 _⟩
theorem grow1 {X k : Nat} (h : 1 ≤ X) : (288 * X) ^ (k - 1) * X ≤ (288 * X) ^ (k + 1 - 1) * X :=
  Nat.mul_le_mul_right _ (Nat.pow_le_pow_right (by omega) (by omega))
theorem part_bd {X k : Nat} {l : List Row} {s : Row} (h1 : 1 ≤ X) (hX : Bd X s) (I : ∀ r ∈ l, Bd ((288 * X) ^ (k - 1) * X) r) : ∀ r, r ∈ l ∨ r = s → Bd ((288 * X) ^ (k + 1 - 1) * X) r := by
  intro r hr
  rcases hr with hr | rfl
  · exact (I r hr).mono (grow1 h1)
  · refine hX.mono ?_
    have : 1 * X ≤ (288 * X) ^ (k + 1 - 1) * X := Nat.mul_le_mul_right _ (Nat.pow_pos (by omega))
    omega
/-- a step that stays -/
theorem PartInv.idle {n : Row} {X : Nat} {pre : List Row} {lead : Row} {idle : List Row} (I : PartInv n X pre lead idle) (h1 : 1 ≤ X) {s : Row} (hs : s.length = 6) (hX : Bd X s) (h0 : dot n s = 0) : PartInv n X (pre ++ [s]) lead (idle ++ [s]) := by
  have h6s : All6 [s] := All6.cons hs All6.nil
  refine ⟨I.six.app h6s, I.pre6.app h6s, ?_, same_append (l := lead :: idle) (I.six.app h6s) (I.pre6.app h6s) I.same (SameSp.refl _), ?_, ?_, ?_⟩
  · intro r hr; rcases List.mem_append.mp hr with hr | hr
    · exact I.stay r hr
    · simp at hr; subst hr; exact h0
  · intro h; obtain ⟨rfl, rfl⟩ := I.none_ h; exact ⟨rfl, rfl⟩
  · intro h; have := I.some_ h; simp; omega
  · intro r hr
    rw [List.length_append, List.length_singleton]
    refine part_bd h1 hX I.bd r ?_
    simpa [or_assoc] using hr
/-- the first step that goes -/
theorem PartInv.first {n : Row} {X : Nat} {pre : List Row} {lead : Row} {idle : List Row} (I : PartInv n X pre lead idle) (h1 : 1 ≤ X) {s : Row} (hs : s.length = 6) (hX : Bd X s) (h0 : dot n s ≠ 0) (hl : dot n lead = 0) : PartInv n X (pre ++ [s]) s idle := by
  have h6s : All6 [s] := All6.cons hs All6.nil
  obtain ⟨rfl, rfl⟩ := I.none_ hl
  refine ⟨All6.cons hs I.pre6, I.pre6.app h6s, I.stay, same_mem fun r => by simp [or_comm], fun h => absurd h h0, fun _ => by simp, ?_⟩
  intro r hr
  rw [List.length_append, List.length_singleton]
  refine part_bd h1 hX I.bd r ?_
  rcases List.mem_cons.mp hr with rfl | hr
  · exact .inr rfl
  · exact .inl (by simp [hr])
/-- another step that goes: parted with the lead -/
theorem PartInv.next {n : Row} {X : Nat} {pre : List Row} {lead : Row} {idle : List Row} (I : PartInv n X pre lead idle) (h1 : 1 ≤ X) {s L S : Row} (hs : s.length = 6) (hX : Bd X s) (hl : dot n lead ≠ 0)
    {P : Nat} (J : PairInv n lead s (288 * X * ((288 * X) ^ (pre.length - 1) * X)) P L S) (h0 : dot n S = 0) : PartInv n X (pre ++ [s]) L (idle ++ [S]) := by
  have h6s : All6 [s] := All6.cons hs All6.nil
  have h6S : All6 [S] := All6.cons J.lenS All6.nil
  have hidle : All6 idle := I.six.tail
  have hlead : lead.length = 6 := I.six.head
  have hlen := I.some_ hl
  refine ⟨(All6.cons J.lenL hidle).app h6S, I.pre6.app h6s, ?_, ?_, fun h => absurd h J.goesL, fun _ => by simp; omega, ?_⟩
  · intro r hr; rcases List.mem_append.mp hr with hr | hr
    · exact I.stay r hr
    · simp at hr; subst hr; exact h0
  · have s1 : SameSp (L :: (idle ++ [S])) ([L, S] ++ idle) := same_mem fun r => by simp [or_comm, or_left_comm]
    have s2 : SameSp ([L, S] ++ idle) ([lead, s] ++ idle) := same_append ((All6.cons J.lenL (All6.cons J.lenS All6.nil)).app hidle) ((All6.cons hlead (All6.cons hs All6.nil)).app hidle) J.same (SameSp.refl _)
    have s3 : SameSp ([lead, s] ++ idle) ((lead :: idle) ++ [s]) := same_mem fun r => by simp [or_comm, or_left_comm]
    have s4 := same_append (l := lead :: idle) (I.six.app h6s) (I.pre6.app h6s) I.same (SameSp.refl [s])
    exact s1.trans (s2.trans (s3.trans s4))
  · intro r hr
    rw [List.length_append, List.length_singleton]
    have e : 288 * X * ((288 * X) ^ (pre.length - 1) * X) = (288 * X) ^ (pre.length + 1 - 1) * X := by
      rw [← Nat.mul_assoc, Nat.mul_comm (288 * X), ← Nat.pow_succ]
      congr 2; omega
    have bL := J.bdL
    have bS := J.bdS
    rw [e] at bL bS
    rcases List.mem_append.mp (show r ∈ (L :: idle) ++ [S] from hr) with hr | hr
    · rcases List.mem_cons.mp hr with rfl | hr
      · exact bL
      · exact (I.bd r (by simp [hr])).mono (grow1 h1)
    · simp at hr; subst hr; exact bS
theorem PartInv.pair {n : Row} {X : Nat} {pre : List Row} {lead : Row} {idle : List Row} (I : PartInv n X pre lead idle) (h1 : 1 ≤ X) {s : Row} (hs : s.length = 6) (hX : Bd X s) (hl : dot n lead ≠ 0) (h6 : n.length = 6) (hn : Bd 12 n) :
    PairInv n lead s (288 * X * ((288 * X) ^ (pre.length - 1) * X)) (72 * ((288 * X) ^ (pre.length - 1) * X)) lead s := by
  refine PairInv.start I.six.head hs hl h6 hn (I.bd lead (by simp)) hX ?_ h1
  have : 1 * X ≤ (288 * X) ^ (pre.length - 1) * X := Nat.mul_le_mul_right _ (Nat.pow_pos (by omega))
  omega

/-! the sizes of ways, by how many steps there are -/
def Ex : Nat → Nat
  | 0 => 6471
  | 1 => 6471
  | 2 => 3231
  | 3 => 1071
  | 4 => 261
  | 5 => 45
  | _ => 0
def Dx : Nat → Nat
  | 0 => 17598
  | 1 => 11119
  | 2 => 4640
  | 3 => 1401
  | 4 => 322
  | 5 => 53
  | _ => 0
structure SizeOk (starts steps : List Row) : Prop where
  few : steps.length ≤ 6
  bdT : ∀ r ∈ steps, Bd (2 ^ Ex steps.length) r
  bdS : ∀ r ∈ starts, Bd (2 ^ Dx steps.length) r
theorem pow_fit (e k : Nat) : (288 * 2 ^ e) ^ k * 2 ^ e ≤ 2 ^ ((9 + e) * k + e) := by
  have h : (288 * 2 ^ e) ^ k ≤ (2 ^ (9 + e)) ^ k := Nat.pow_le_pow_left (by rw [Nat.pow_add]; exact Nat.mul_le_mul_right _ (by decide)) _
  rw [Nat.pow_add 2 ((9 + e) * k), Nat.pow_mul]
  exact Nat.mul_le_mul_right _ h
theorem Ex_fit {m : Nat} (h0 : 1 ≤ m) (h6 : m ≤ 6) : (9 + Ex m) * (m - 1) + Ex m ≤ Ex (m - 1) := by
  match m, h0, h6 with
  | 1, _, _ => decide
  | 2, _, _ => decide
  | 3, _, _ => decide
  | 4, _, _ => decide
  | 5, _, _ => decide
  | 6, _, _ => decide
  | m + 7, _, h => omega
theorem Dx_fit {m : Nat} (h0 : 1 ≤ m) (h6 : m ≤ 6) : Dx m + (Ex (m - 1) + 8) ≤ Dx (m - 1) := by
  match m, h0, h6 with
  | 1, _, _ => decide
  | 2, _, _ => decide
  | 3, _, _ => decide
  | 4, _, _ => decide
  | 5, _, _ => decide
  | 6, _, _ => decide
  | m + 7, _, h => omega
theorem Ex_most (m : Nat) : Ex m ≤ 6471 := by
  unfold Ex; split <;> omega
theorem Dx_most (m : Nat) : Dx m ≤ 17598 := by
  unfold Dx; split <;> omega
/-- what parting makes of steps within their size -/
theorem part_fit {m k : Nat} (h0 : 1 ≤ m) (h6 : m ≤ 6) (hk : k ≤ m - 1) : (288 * 2 ^ Ex m) ^ k * 2 ^ Ex m ≤ 2 ^ Ex (m - 1) := by
  refine Nat.le_trans (pow_fit _ _) (Nat.pow_le_pow_right (by decide) (Nat.le_trans (Nat.add_le_add_right (Nat.mul_le_mul_left _ hk) _) (Ex_fit h0 h6)))
theorem start_fit {m : Nat} (h0 : 1 ≤ m) (h6 : m ≤ 6) : 2 ^ Dx m + (12 + 72 * 2 ^ Dx m) * 2 ^ Ex (m - 1) ≤ 2 ^ Dx (m - 1) := by
  refine Nat.le_trans ?_ (Nat.pow_le_pow_right (by decide) (Dx_fit h0 h6))
  have a1 : 1 ≤ 2 ^ Dx m := Nat.pow_pos (by decide)
  have a2 : 1 ≤ 2 ^ Ex (m - 1) := Nat.pow_pos (by decide)
  rw [Nat.pow_add, Nat.pow_add]
  generalize 2 ^ Dx m = d at *
  generalize 2 ^ Ex (m - 1) = x at *
  have b1 : d * 1 ≤ d * x := Nat.mul_le_mul_left _ a2
  have b2 : 1 * x ≤ d * x := Nat.mul_le_mul_right _ a1
  have b3 : (12 + 72 * d) * x = 12 * x + 72 * (d * x) := by rw [Nat.add_mul, Nat.mul_assoc]
  have b4 : d * (x * 2 ^ 8) = 256 * (d * x) := by rw [show (2 : Nat) ^ 8 = 256 from rfl, ← Nat.mul_assoc, Nat.mul_comm]
  rw [b3, b4]; omega

/-! a line upon ways, as it is reckoned -/
def tn (change missing : Int) : Option Int := if change = 0 then (if missing = 0 then some 0 else none) else (if missing.fmod change = 0 then some (missing.fdiv change) else none)
def missing (n e : Row) (starts : List Row) (b : Nat) : Int := - at_ e b - dot n (gd starts b)
theorem tn_none {c m : Int} (h : tn c m = none) : ¬ c ∣ m := by
  unfold tn at h
  intro hd
  by_cases h0 : c = 0
  · rw [if_pos h0] at h
    rw [h0] at hd
    rw [if_pos (Int.zero_dvd.mp hd)] at h
    cases h
  · rw [if_neg h0, if_pos (Int.fmod_eq_zero_of_dvd hd)] at h
    cases h
theorem tn_some {c m t : Int} (h : tn c m = some t) : m = t * c ∧ t.natAbs ≤ m.natAbs := by
  unfold tn at h
  by_cases h0 : c = 0
  · rw [if_pos h0] at h
    by_cases h1 : m = 0
    · rw [if_pos h1] at h; cases h; subst h1; simp
    · rw [if_neg h1] at h; cases h
  · rw [if_neg h0] at h
    by_cases h1 : m.fmod c = 0
    · rw [if_pos h1] at h
      have e := Int.fmod_add_fdiv_mul m c
      have e2 : m.fdiv c = t := Option.some.inj h
      rw [h1, e2] at e
      have e3 : m = t * c := by omega
      refine ⟨e3, ?_⟩
      rw [e3, Int.natAbs_mul]
      exact Nat.le_mul_of_pos_right _ (by omega)
    · rw [if_neg h1] at h; cases h
theorem tn_zero {m t : Int} (h : tn 0 m = some t) : t = 0 ∧ m = 0 := by
  unfold tn at h
  rw [if_pos rfl] at h
  by_cases h1 : m = 0
  · rw [if_pos h1] at h; cases h; exact ⟨rfl, h1⟩
  · rw [if_neg h1] at h; cases h
theorem line_no {n e : Row} {s t : List Row} (G : Good s t) {X : Nat} {lead : Row} {idle : List Row} (I : PartInv n X t lead idle) {b : Nat} (hb : b < 7) (h : tn (dot n lead) (missing n e s b) = none) : LineNo n e s t := by
  intro q
  have := q b hb
  rw [gof_parted G.sixS I.parted] at this
  have h2 := Int.natAbs_dvd.mp this
  refine tn_none h ?_
  have e1 : missing n e s b = -(at_ e b + dot n (gd s b)) := by unfold missing; omega
  rw [e1]; exact Int.dvd_neg.mpr h2
theorem line_yes {n e : Row} {s t s' : List Row} (G : Good s t) {X : Nat} {lead : Row} {idle : List Row} (I : PartInv n X t lead idle) (hlen : s'.length = 7)
    (h : ∀ b, b < 7 → ∃ k, tn (dot n lead) (missing n e s b) = some k ∧ gd s' b = plus (gd s b) lead k) : LineYes n e s t s' idle := by
  by_cases h0 : dot n lead = 0
  · obtain ⟨e1, e2⟩ := I.none_ h0
    have hs : ∀ b, b < 7 → gd s' b = gd s b ∧ missing n e s b = 0 := by
      intro b hb
      obtain ⟨k, h1, h2⟩ := h b hb
      rw [h0] at h1
      rw [h2, e1, plus_z6 _ (G.gd6 hb)]
      exact ⟨rfl, (tn_zero h1).2⟩
    have es : s' = s := by
      apply List.ext_getElem (hlen.trans G.len.symm)
      intro b h1 h2
      have hb : b < 7 := by omega
      have := (hs b hb).1
      unfold gd at this
      rw [List.getD_eq_getElem?_getD, List.getD_eq_getElem?_getD, List.getElem?_eq_getElem h1, List.getElem?_eq_getElem h2] at this
      exact this
    rw [es, e2]
    refine line_all_zero G ?_ fun b hb => ?_
    · rw [gof_parted G.sixS I.parted, h0]; rfl
    · have := (hs b hb).2
      unfold missing at this
      omega
  · refine line_moved G I.parted h0 hlen fun b hb => ?_
    obtain ⟨k, h1, h2⟩ := h b hb
    refine ⟨k, h2, ?_⟩
    have := (tn_some h1).1
    unfold missing at this
    omega
theorem gd_bd {s : List Row} {X : Nat} (h : ∀ r ∈ s, Bd X r) (b : Nat) : Bd X (gd s b) := by
  unfold gd
  rw [List.getD_eq_getElem?_getD]
  cases e : s[b]? with
  | none => exact Bd.nil _
  | some r => exact h r (List.mem_of_getElem? e)
theorem missing_bd {n e : Row} {s : List Row} {D : Nat} (h6 : n.length = 6) (hn : Bd 12 n) (he : Bd 12 e) (hs : ∀ r ∈ s, Bd D r) (b : Nat) : (missing n e s b).natAbs ≤ 12 + 72 * D := by
  have h1 := dot_bd72 h6 hn (gd_bd hs b)
  have h2 : (at_ e b).natAbs ≤ 12 := by
    unfold at_
    rw [List.getD_eq_getElem?_getD]
    cases q : e[b]? with
    | none => simp
    | some r => exact he r (List.mem_of_getElem? q)
  unfold missing
  omega
theorem line_size {n e : Row} {s t s' : List Row} (G : Good s t) (Z : SizeOk s t) (h6 : n.length = 6) (hn : Bd 12 n) (he : Bd 12 e) {lead : Row} {idle : List Row} (I : PartInv n (2 ^ Ex t.length) t lead idle) (hlen : s'.length = 7)
    (h : ∀ b, b < 7 → ∃ k, tn (dot n lead) (missing n e s b) = some k ∧ gd s' b = plus (gd s b) lead k) : SizeOk s' idle := by
  by_cases h0 : dot n lead = 0
  · obtain ⟨e1, e2⟩ := I.none_ h0
    rw [e2]
    refine ⟨Z.few, Z.bdT, fun r hr => ?_⟩
    obtain ⟨b, hb, rfl⟩ := List.mem_iff_getElem.mp hr
    have hb7 : b < 7 := by omega
    obtain ⟨k, h1, h2⟩ := h b hb7
    rw [e1, plus_z6 _ (G.gd6 hb7)] at h2
    unfold gd at h2
    rw [List.getD_eq_getElem?_getD, List.getElem?_eq_getElem hb] at h2
    have : s'[b] = gd s b := h2
    rw [this]
    exact gd_bd Z.bdS b
  · have hm := I.some_ h0
    have hm1 : idle.length = t.length - 1 := by omega
    have fit := part_fit (m := t.length) (k := t.length - 1) (by omega) Z.few (Nat.le_refl _)
    refine ⟨by have := Z.few; omega, fun r hr => ?_, fun r hr => ?_⟩
    · rw [hm1]
      exact (I.bd r (by simp [hr])).mono fit
    · obtain ⟨b, hb, rfl⟩ := List.mem_iff_getElem.mp hr
      have hb7 : b < 7 := by omega
      obtain ⟨k, h1, h2⟩ := h b hb7
      have e3 : s'[b] = gd s' b := by
        unfold gd
        rw [List.getD_eq_getElem?_getD, List.getElem?_eq_getElem hb]; rfl
      rw [e3, h2, hm1]
      have k1 := (tn_some h1).2
      have k2 := missing_bd h6 hn he Z.bdS b
      refine ((gd_bd Z.bdS b).plus k ((I.bd lead (by simp)).mono fit)).mono (Nat.le_trans ?_ (start_fit (m := t.length) (by omega) Z.few))
      exact Nat.add_le_add_left (Nat.mul_le_mul_right _ (by omega)) _
theorem free_size : SizeOk Uni.free.one Uni.free.steps := by
  refine ⟨by decide, fun r hr => ?_, fun r hr => ?_⟩
  · have e : Uni.free.steps.length = 6 := rfl
    rw [e]
    intro x hx
    have : ∀ r ∈ Uni.free.steps, ∀ x ∈ r, x.natAbs ≤ 1 := by decide
    exact this r hr x hx
  · intro x hx
    have : ∀ r ∈ Uni.free.one, ∀ x ∈ r, x.natAbs ≤ 1 := by decide
    exact Nat.le_trans (this r hr x hx) (Nat.pow_pos (by decide))
end Uf

set_option Elab.async false
namespace Uf
open Uni (Row plus dot at_ rowOf Form)

/-! a formula as one row -/
def rowF (f : Form) : Row := f.names ++ f.base
structure FormOk (f : Form) : Prop where
  n6 : f.names.length = 6
  b7 : f.base.length = 7
  bd : Bd 6 (rowF f)
theorem FormOk.len {f : Form} (h : f.names.length = 6 ∧ f.base.length = 7) : (rowF f).length = 13 := by simp [rowF, h.1, h.2]
theorem rowF_take {f : Form} (h : f.names.length = 6) : (rowF f).take 6 = f.names := by
  unfold rowF; rw [← h, List.take_left]
theorem rowF_drop {f : Form} (h : f.names.length = 6) : (rowF f).drop 6 = f.base := by
  unfold rowF; rw [← h, List.drop_left]
theorem rowOf_len (n : Nat) (g : Nat → Int) : (rowOf n g).length = n := by simp [rowOf]
theorem rowOf_get {n : Nat} {g : Nat → Int} {i : Nat} (h : i < n) : (rowOf n g)[i]? = some (g i) := by
  unfold rowOf; rw [List.getElem?_map, List.getElem?_range h]; rfl
theorem at_get {a : Row} {i : Nat} {x : Int} (h : a[i]? = some x) : at_ a i = x := by
  unfold at_; rw [List.getD_eq_getElem?_getD, h]; rfl
theorem plus_get {a b : Row} {k x y : Int} {i : Nat} (ha : a[i]? = some x) (hb : b[i]? = some y) : (plus a b k)[i]? = some (x + k * y) := by
  unfold plus
  rw [List.getElem?_map, List.getElem?_zip_eq_some (z := (x, y)) |>.mpr ⟨ha, hb⟩]; rfl
theorem row_ext {a b : Row} {n : Nat} (ha : a.length = n) (hb : b.length = n) (h : ∀ i, i < n → a[i]? = b[i]?) : a = b := by
  apply List.ext_getElem?
  intro i
  by_cases hi : i < n
  · exact h i hi
  · rw [List.getElem?_eq_none (by omega), List.getElem?_eq_none (by omega)]
theorem rowOf_plus {a b : Row} {n : Nat} (k : Int) (ha : a.length = n) (hb : b.length = n) (g : Nat → Int) (hg : ∀ i, i < n → g i = at_ a i + k * at_ b i) : rowOf n g = plus a b k := by
  refine row_ext (rowOf_len _ _) (by rw [plus_length, ha, hb]; simp) fun i hi => ?_
  have h1 : a[i]? = some (a[i]'(by omega)) := List.getElem?_eq_getElem _
  have h2 : b[i]? = some (b[i]'(by omega)) := List.getElem?_eq_getElem _
  rw [rowOf_get hi, plus_get h1 h2, hg i hi, at_get h1, at_get h2]
theorem rowOf_scale {a : Row} {n : Nat} (k : Int) (ha : a.length = n) : rowOf n (fun i => at_ a i * k) = a.map (fun x => k * x) := by
  refine row_ext (rowOf_len _ _) (by simp [ha]) fun i hi => ?_
  have h1 : a[i]? = some (a[i]'(by omega)) := List.getElem?_eq_getElem _
  rw [rowOf_get hi, List.getElem?_map, h1, at_get h1]
  simp [Int.mul_comm]
theorem plus_append {a b c d : Row} {k : Int} (h : a.length = b.length) : plus (a ++ c) (b ++ d) k = plus a b k ++ plus c d k := by
  unfold plus
  rw [List.zip_append h, List.map_append]

theorem times_row {f g : Form} (hf : FormOk f) (hg : FormOk g) : rowF (Uni.times f g) = plus (rowF f) (rowF g) 1 := by
  unfold rowF
  rw [plus_append (hf.n6.trans hg.n6.symm)]
  unfold Uni.times Uni.formOf
  rw [rowOf_plus 1 (n := Uni.NAMES) hf.n6 hg.n6 _ (fun i _ => by omega), rowOf_plus 1 (n := Uni.BASES) hf.b7 hg.b7 _ (fun i _ => by omega)]
theorem over_row {f g : Form} (hf : f.names.length = 6 ∧ f.base.length = 7) (hg : g.names.length = 6 ∧ g.base.length = 7) : rowF (Uni.over f g) = plus (rowF f) (rowF g) (-1) := by
  unfold rowF
  rw [plus_append (hf.1.trans hg.1.symm)]
  unfold Uni.over Uni.formOf
  rw [rowOf_plus (-1) (n := Uni.NAMES) hf.1 hg.1 _ (fun i _ => by omega), rowOf_plus (-1) (n := Uni.BASES) hf.2 hg.2 _ (fun i _ => by omega)]
theorem power_row {f : Form} (k : Int) (hf : FormOk f) : rowF (Uni.power f k) = (rowF f).map (fun x => k * x) := by
  unfold rowF Uni.power Uni.formOf
  rw [List.map_append, rowOf_scale (n := Uni.NAMES) k hf.n6, rowOf_scale (n := Uni.BASES) k hf.b7]
theorem formOf_len (g h : Nat → Int) : (Uni.formOf g h).names.length = 6 ∧ (Uni.formOf g h).base.length = 7 := ⟨rowOf_len _ _, rowOf_len _ _⟩
theorem small_iff (x : Int) : Uni.small x = true ↔ x.natAbs ≤ 6 := by
  unfold Uni.small
  rw [Bool.and_eq_true, decide_eq_true_iff, decide_eq_true_iff]
  have e : Uni.LIMIT = 6 := rfl
  rw [e]
  omega
theorem bd_small {r : Row} : r.all Uni.small = true ↔ Bd 6 r := by
  rw [List.all_eq_true]
  exact ⟨fun h x hx => (small_iff x).mp (h x hx), fun h x hx => (small_iff x).mpr (h x hx)⟩
theorem Bd.append {X : Nat} {a b : Row} : Bd X (a ++ b) ↔ (Bd X a ∧ Bd X b) := by
  unfold Bd
  constructor
  · intro h; exact ⟨fun x hx => h x (by simp [hx]), fun x hx => h x (by simp [hx])⟩
  · rintro ⟨h1, h2⟩ x hx
    rcases List.mem_append.mp hx with hx | hx
    · exact h1 x hx
    · exact h2 x hx
theorem fits_iff (f : Form) : Uni.fits f = true ↔ Bd 6 (rowF f) := by
  unfold Uni.fits rowF
  rw [Bool.and_eq_true, bd_small, bd_small, Bd.append]
theorem ofName_ok (n : Nat) : FormOk (Uni.ofName n) := by
  refine ⟨(formOf_len _ _).1, (formOf_len _ _).2, ?_⟩
  unfold rowF Uni.ofName Uni.formOf rowOf
  refine Bd.append.mpr ⟨?_, ?_⟩
  · intro x hx
    obtain ⟨i, _, rfl⟩ := List.mem_map.mp hx
    by_cases h : i = n
    · rw [if_pos h]; decide
    · rw [if_neg h]; decide
  · intro x hx
    obtain ⟨i, _, rfl⟩ := List.mem_map.mp hx
    decide
/-- one exponent alone -/
def single (n len : Nat) : Row := (List.range len).map fun (k : Nat) => if (k : Int) = (n : Int) then 1 else 0
theorem single_row {n : Nat} (h : n < 6) : rowF (Uni.ofName n) = single n 13 := by
  match n, h with
  | 0, _ => rfl
  | 1, _ => rfl
  | 2, _ => rfl
  | 3, _ => rfl
  | 4, _ => rfl
  | 5, _ => rfl
  | n + 6, h => omega

/-! a line of two formulas; the same told the other way round -/
theorem dot_neg : ∀ (a b : Row) (_ : a.length = b.length) (x : Row), dot (plus a b (-1)) x = - dot (plus b a (-1)) x
  | [], [], _, x => by simp [plus_nil_l, dot_nil_l]
  | [], _ :: _, h, x => by simp at h
  | _ :: _, [], h, x => by simp at h
  | a :: as, b :: bs, h, [] => by simp [dot_nil_r]
  | a :: as, b :: bs, h, x :: xs => by
    rw [plus_cons, plus_cons, dot_cons, dot_cons, dot_neg as bs (by simpa using h) xs, Int.neg_add, ← Int.neg_mul, show -(b + -1 * a) = a + -1 * b by omega]
theorem at_neg {a b : Row} (h : a.length = b.length) (i : Nat) : at_ (plus a b (-1)) i = - at_ (plus b a (-1)) i := by
  by_cases hi : i < a.length
  · have h1 : a[i]? = some (a[i]'hi) := List.getElem?_eq_getElem _
    have h2 : b[i]? = some (b[i]'(by omega)) := List.getElem?_eq_getElem _
    rw [at_get (plus_get h1 h2), at_get (plus_get h2 h1)]; omega
  · unfold at_
    rw [List.getD_eq_getElem?_getD, List.getD_eq_getElem?_getD, List.getElem?_eq_none (by rw [plus_length]; omega), List.getElem?_eq_none (by rw [plus_length]; omega)]
    rfl
theorem plus_take : ∀ (a b : Row) (k : Int) (n : Nat), (plus a b k).take n = plus (a.take n) (b.take n) k
  | [], b, k, n => by simp [plus_nil_l]
  | _ :: _, [], k, n => by simp [plus_nil_r]
  | x :: a, y :: b, k, 0 => by simp [plus_nil_l]
  | x :: a, y :: b, k, n + 1 => by rw [plus_cons, List.take_succ_cons, List.take_succ_cons, List.take_succ_cons, plus_cons, plus_take a b k n]
theorem plus_drop : ∀ (a b : Row) (k : Int) (n : Nat), (plus a b k).drop n = plus (a.drop n) (b.drop n) k
  | [], b, k, n => by simp [plus_nil_l]
  | _ :: _, [], k, n => by simp [plus_nil_r]
  | x :: a, y :: b, k, 0 => rfl
  | x :: a, y :: b, k, n + 1 => by rw [plus_cons, List.drop_succ_cons, List.drop_succ_cons, List.drop_succ_cons, plus_drop a b k n]
/-- the names' part and the known part of a line of a and b, and of b and a -/
theorem line_swap {a b : Row} (ha : a.length = 13) (hb : b.length = 13) : (∀ x, dot ((plus a b (-1)).take 6) x = - dot ((plus b a (-1)).take 6) x) ∧ ∀ i, at_ ((plus a b (-1)).drop 6) i = - at_ ((plus b a (-1)).drop 6) i := by
  constructor
  · intro x; rw [plus_take, plus_take]; exact dot_neg _ _ (by simp [ha, hb]) x
  · intro i; rw [plus_drop, plus_drop]; exact at_neg (by simp [ha, hb]) i
end Uf

set_option Elab.async false
namespace Uf
open PyWqaeah (shape)

theorem calls_nil {f : Nat} {cs : List (List (List Int))} (h : PyFlat.calls shape f [] = some cs) : cs = [] := by
  cases f <;> · unfold PyFlat.calls at h; exact (Option.some.inj h).symm
theorem calls_step {f : Nat} {p : Int} {r : List Int} {cs : List (List (List Int))} (h : PyFlat.calls shape f (p :: r) = some cs) :
    ∃ f' c t cs', PyFlat.call shape (p :: r) = some (c, t) ∧ PyFlat.calls shape f' t = some cs' ∧ cs = c :: cs' := by
  cases f with
  | zero => unfold PyFlat.calls at h; cases h
  | succ f =>
    unfold PyFlat.calls at h
    cases e : PyFlat.call shape (p :: r) with
    | none => rw [e] at h; cases h
    | some x =>
      obtain ⟨c, t⟩ := x
      rw [e] at h
      cases e2 : PyFlat.calls shape f t with
      | none => simp only [e2] at h; cases h
      | some cs' =>
        simp only [e2] at h
        exact ⟨f, c, t, cs', rfl, e2, (Option.some.inj h).symm⟩

/-- the forms of a call -/
inductive Form1 : Int → List Int → List (List Int) → List Int → Prop
  | init (t : List Int) : Form1 0 t [[0]] t
  | name (t : List Int) : Form1 1 t [[1]] t
  | base (e t : List Int) : Form1 2 ((e.length : Int) :: (e ++ t)) [[2], e] t
  | two (p a b : Int) (t : List Int) (h1 : 3 ≤ p) (h2 : p ≤ 9) : Form1 p (a :: b :: t) [[p, a, b]] t
  | unit (a : Int) (t : List Int) : Form1 10 (a :: t) [[10, a]] t
  | keep (t : List Int) : Form1 11 t [[11]] t
  | back (t : List Int) : Form1 12 t [[12]] t
theorem call_none {p : Int} {r : List Int} {c : List (List Int)} {t : List Int} (h : PyFlat.call shape (p :: r) = some (c, t)) (hs : shape p = some (0, 0)) : c = [[p]] ∧ t = r := by
  simp only [PyFlat.call, hs] at h
  simp only [Nat.not_lt_zero, if_false, List.drop_zero, PyFlat.rows, List.take_zero, Option.some.injEq, Prod.mk.injEq] at h
  exact ⟨h.1.symm, h.2.symm⟩
theorem call_two {p : Int} {r : List Int} {c : List (List Int)} {t : List Int} (h : PyFlat.call shape (p :: r) = some (c, t)) (hs : shape p = some (2, 0)) (h1 : 3 ≤ p) (h2 : p ≤ 9) : Form1 p r c t := by
  simp only [PyFlat.call, hs] at h
  match r, h with
  | [], h => simp at h
  | [_], h => simp at h
  | a :: b :: r, h =>
    simp [PyFlat.rows] at h
    obtain ⟨e1, e2⟩ := h
    subst e1 e2
    exact .two p a b _ h1 h2
theorem call_unit {r : List Int} {c : List (List Int)} {t : List Int} (h : PyFlat.call shape (10 :: r) = some (c, t)) : Form1 10 r c t := by
  simp only [PyFlat.call, show shape 10 = some (1, 0) from rfl] at h
  cases r with
  | nil => simp at h
  | cons a r =>
    simp [PyFlat.rows] at h
    obtain ⟨e1, e2⟩ := h
    subst e1 e2
    exact .unit _ _
theorem call_base {r : List Int} {c : List (List Int)} {t : List Int} (h : PyFlat.call shape (2 :: r) = some (c, t)) : Form1 2 r c t := by
  simp only [PyFlat.call, show shape 2 = some (0, 1) from rfl] at h
  simp only [Nat.not_lt_zero, if_false, List.drop_zero, List.take_zero, PyFlat.rows] at h
  cases r with
  | nil => simp [PyFlat.row] at h
  | cons n r =>
    unfold PyFlat.row at h
    by_cases hn : 0 ≤ n ∧ n.toNat ≤ r.length
    · simp only [if_pos hn, Option.some.injEq, Prod.mk.injEq] at h
      obtain ⟨e1, e2⟩ := h
      subst e1 e2
      have hl : (r.take n.toNat).length = n.toNat := by rw [List.length_take]; omega
      have hn' : n = ((r.take n.toNat).length : Int) := by rw [hl]; omega
      have : Form1 2 (((r.take n.toNat).length : Int) :: (r.take n.toNat ++ r.drop n.toNat)) [[2], r.take n.toNat] (r.drop n.toNat) := .base _ _
      rw [← hn', List.take_append_drop] at this
      exact this
    · simp only [if_neg hn] at h; cases h
theorem shape_none {p : Int} (h : p < 0 ∨ 12 < p) : shape p = none := by
  have hn : ∀ k : Int, 0 ≤ k → k ≤ 12 → p ≠ k := fun k h1 h2 e => by omega
  unfold PyWqaeah.shape
  rw [if_neg (hn 0 (by decide) (by decide)), if_neg (hn 1 (by decide) (by decide)), if_neg (hn 2 (by decide) (by decide)), if_neg (hn 3 (by decide) (by decide)), if_neg (hn 4 (by decide) (by decide)), if_neg (hn 5 (by decide) (by decide)), if_neg (hn 6 (by decide) (by decide)), if_neg (hn 7 (by decide) (by decide)), if_neg (hn 8 (by decide) (by decide)), if_neg (hn 9 (by decide) (by decide)), if_neg (hn 10 (by decide) (by decide)), if_neg (hn 11 (by decide) (by decide)), if_neg (hn 12 (by decide) (by decide))]
theorem call_form {p : Int} {r : List Int} {c : List (List Int)} {t : List Int} (h : PyFlat.call shape (p :: r) = some (c, t)) : Form1 p r c t := by
  by_cases hp : p < 0 ∨ 12 < p
  · simp only [PyFlat.call, shape_none hp] at h
    cases h
  · obtain ⟨n, rfl⟩ : ∃ n : Nat, p = (n : Int) := ⟨p.toNat, by omega⟩
    match n, hp, h with
    | 0, _, h => obtain ⟨rfl, rfl⟩ := call_none (p := 0) h rfl; exact .init _
    | 1, _, h => obtain ⟨rfl, rfl⟩ := call_none (p := 1) h rfl; exact .name _
    | 2, _, h => exact call_base h
    | 3, _, h => exact call_two (p := 3) h rfl (by decide) (by decide)
    | 4, _, h => exact call_two (p := 4) h rfl (by decide) (by decide)
    | 5, _, h => exact call_two (p := 5) h rfl (by decide) (by decide)
    | 6, _, h => exact call_two (p := 6) h rfl (by decide) (by decide)
    | 7, _, h => exact call_two (p := 7) h rfl (by decide) (by decide)
    | 8, _, h => exact call_two (p := 8) h rfl (by decide) (by decide)
    | 9, _, h => exact call_two (p := 9) h rfl (by decide) (by decide)
    | 10, _, h => exact call_unit h
    | 11, _, h => obtain ⟨rfl, rfl⟩ := call_none (p := 11) h rfl; exact .keep _
    | 12, _, h => obtain ⟨rfl, rfl⟩ := call_none (p := 12) h rfl; exact .back _
    | n + 13, hp, _ => exact absurd (show (12 : Int) < ((n + 13 : Nat) : Int) by omega) fun q => hp (.inr q)

theorem whole_two {p a b : Int} (h1 : 3 ≤ p) (h2 : p ≤ 9) : PyWqaeah.whole [[p, a, b]] = [[p, a, b]] := by
  obtain ⟨n, rfl⟩ : ∃ n : Nat, p = (n : Int) := ⟨p.toNat, by omega⟩
  match n, h1, h2 with
  | 0, h1, _ => exact absurd h1 (by decide)
  | 1, h1, _ => exact absurd h1 (by decide)
  | 2, h1, _ => exact absurd h1 (by decide)
  | 3, _, _ => rfl
  | 4, _, _ => rfl
  | 5, _, _ => rfl
  | 6, _, _ => rfl
  | 7, _, _ => rfl
  | 8, _, _ => rfl
  | 9, _, _ => rfl
  | n + 10, _, h2 => exact absurd h2 (by omega)
theorem whole_form {p : Int} {r : List Int} {c : List (List Int)} {t : List Int} (h : Form1 p r c t) : PyWqaeah.whole c = c := by
  cases h with
  | two _ _ _ _ h1 h2 => exact whole_two h1 h2
  | init => rfl
  | name => rfl
  | base => rfl
  | unit => rfl
  | keep => rfl
  | back => rfl
theorem whole_calls : ∀ (cs : List (List (List Int))) (f : Nat) (l : List Int), PyFlat.calls shape f l = some cs → cs.map PyWqaeah.whole = cs
  | [], _, _, _ => rfl
  | c0 :: cs0, f, [], h => by have := calls_nil h; cases this
  | c0 :: cs0, f, p :: r, h => by
    obtain ⟨f', c, t, cs', q1, q2, q3⟩ := calls_step h
    obtain ⟨rfl, rfl⟩ := List.cons.inj q3
    rw [List.map_cons, whole_form (call_form q1), whole_calls cs0 f' t q2]
theorem calls_eq (l : List Int) : PyWqaeah.calls l = PyFlat.calls shape l.length l := by
  unfold PyWqaeah.calls
  cases e : PyFlat.calls shape l.length l with
  | none => rfl
  | some cs =>
    show some (cs.map PyWqaeah.whole) = some cs
    rw [whole_calls cs _ _ e]

/-! what is due for the calls that are left -/
def due (s : Uni.State) (cs : List (List (List Int))) : List Int := PyFlat.told (PyFlat.played UniNeutral.step s cs)
theorem due_nil (s : Uni.State) : due s [] = [] := rfl
theorem due_cons (s : Uni.State) (c : List (List Int)) (cs : List (List (List Int))) : due s (c :: cs) = (((UniNeutral.step s c).2.length : Int) :: (UniNeutral.step s c).2) ++ due (UniNeutral.step s c).1 cs := by
  unfold due PyFlat.told
  rw [PyFlat.played, List.flatMap_cons]
/-- what is asked of the request -/
theorem asked_calls {l : List Int} (h : PyWqaeah.answers_asked l = true) : ∃ cs, PyFlat.calls shape l.length l = some cs ∧ cs.length ≤ 400 ∧ (∀ c ∈ cs, UniNeutral.asked1 c = true) ∧ PyWqaeah.answers l = due Uni.start cs := by
  unfold PyWqaeah.answers_asked at h
  rw [calls_eq] at h
  cases e : PyFlat.calls shape l.length l with
  | none => rw [e] at h; cases h
  | some cs =>
    rw [e] at h
    simp only [Bool.and_eq_true] at h
    refine ⟨cs, rfl, ?_, ?_, ?_⟩
    · exact of_decide_eq_true h.1
    · have := h.2
      unfold UniNeutral.asked at this
      rw [Bool.and_eq_true] at this
      exact List.all_eq_true.mp this.1
    · unfold PyWqaeah.answers
      rw [calls_eq, e]
      rfl
end Uf

set_option Elab.async false
namespace Uf
open Uni (Row plus dot at_ rowOf Form)

/-- the program's names, formulas and ways, and the specification's -/
structure NowRel (names : Nat) (forms starts steps : List Row) (n : Uni.Now) : Prop where
  hnames : n.names = names
  few : names ≤ 6
  hforms : n.nodes.map rowF = forms
  ok : ∀ f ∈ n.nodes, FormOk f
  most : forms.length ≤ 64
  rel : Rel starts steps n.ways
  size : SizeOk starts steps
theorem start_rel : NowRel 0 [] Uni.free.one Uni.free.steps Uni.start.now := ⟨rfl, by decide, rfl, by simp [Uni.start], by decide, Rel.refl free_good, free_size⟩
section
variable {names : Nat} {forms starts steps : List Row} {n : Uni.Now}
theorem NowRel.len (R : NowRel names forms starts steps n) : n.nodes.length = forms.length := by rw [← R.hforms, List.length_map]
theorem NowRel.get (R : NowRel names forms starts steps n) {a : Nat} {r : Row} (h : forms[a]? = some r) : ∃ f, n.nodes[a]? = some f ∧ rowF f = r ∧ FormOk f := by
  rw [← R.hforms, List.getElem?_map] at h
  cases e : n.nodes[a]? with
  | none => rw [e] at h; cases h
  | some f => rw [e] at h; exact ⟨f, rfl, Option.some.inj h, R.ok f (List.mem_of_getElem? e)⟩
theorem NowRel.none_ (R : NowRel names forms starts steps n) {a : Nat} (h : forms.length ≤ a) : n.nodes[a]? = none := List.getElem?_eq_none (by rw [R.len]; exact h)
theorem NowRel.row (R : NowRel names forms starts steps n) {r : Row} (h : r ∈ forms) : r.length = 13 ∧ Bd 6 r := by
  rw [← R.hforms] at h
  obtain ⟨f, hf, rfl⟩ := List.mem_map.mp h
  exact ⟨FormOk.len ⟨(R.ok f hf).n6, (R.ok f hf).b7⟩, (R.ok f hf).bd⟩
/-- a formula more -/
theorem NowRel.more (R : NowRel names forms starts steps n) {f : Form} (hf : FormOk f) (h : forms.length < 64) : NowRel names (forms ++ [rowF f]) starts steps ⟨n.names, n.nodes ++ [f], n.ways⟩ := by
  refine ⟨R.hnames, R.few, ?_, ?_, by simp; omega, R.rel, R.size⟩
  · show (n.nodes ++ [f]).map rowF = _
    rw [List.map_append, R.hforms]; rfl
  · intro g hg
    rcases List.mem_append.mp hg with hg | hg
    · exact R.ok g hg
    · simp at hg; subst hg; exact hf
/-- other ways -/
theorem NowRel.other (R : NowRel names forms starts steps n) {starts' steps' : List Row} {w : Uni.Ways} (h : Rel starts' steps' w) (z : SizeOk starts' steps') : NowRel names forms starts' steps' ⟨n.names, n.nodes, w⟩ := ⟨R.hnames, R.few, R.hforms, R.ok, R.most, h, z⟩
/-- a name more -/
theorem NowRel.named (R : NowRel names forms starts steps n) (h : names < 6) (h2 : forms.length < 64) : NowRel (names + 1) (forms ++ [single names 13]) starts steps ⟨n.names + 1, n.nodes ++ [Uni.ofName n.names], n.ways⟩ := by
  have := R.more (ofName_ok n.names) h2
  rw [R.hnames, single_row h] at this
  refine ⟨?_, by omega, ?_, ?_, this.most, R.rel, R.size⟩
  · show n.names + 1 = _
    rw [R.hnames]
  · rw [R.hnames]; exact this.hforms
  · rw [R.hnames]; exact this.ok
end

section
variable {names : Nat} {forms starts steps : List Row} {s : Uni.State}
theorem made_yes {f : Form} (R : NowRel names forms starts steps s.now) (h1 : forms.length < 64) (h2 : Bd 6 (rowF f)) : Uni.made s f = (⟨⟨s.now.names, s.now.nodes ++ [f], s.now.ways⟩, s.kept⟩, Uni.says (forms.length : Nat)) := by
  unfold Uni.made
  rw [if_pos ⟨by rw [R.len]; exact h1, (fits_iff f).mpr h2⟩, R.len]
theorem made_no {f : Form} (R : NowRel names forms starts steps s.now) (h : ¬ (forms.length < 64 ∧ Bd 6 (rowF f))) : Uni.made s f = (s, Uni.says (-2)) := by
  unfold Uni.made
  rw [if_neg]
  rintro ⟨h1, h2⟩
  exact h ⟨by rw [← R.len]; exact h1, (fits_iff f).mp h2⟩
theorem ofOne_no {a : Nat} {g : Form → Uni.State × Uni.Answer} (R : NowRel names forms starts steps s.now) (h : forms.length ≤ a) : Uni.ofOne s a g = (s, Uni.says (-1)) := by
  unfold Uni.ofOne
  rw [R.none_ h]
theorem ofOne_yes {a : Nat} {f : Form} {g : Form → Uni.State × Uni.Answer} (h : s.now.nodes[a]? = some f) : Uni.ofOne s a g = g f := by
  unfold Uni.ofOne
  rw [h]
theorem ofTwo_no {a b : Nat} {g : Form → Form → Uni.State × Uni.Answer} (R : NowRel names forms starts steps s.now) (h : forms.length ≤ a ∨ forms.length ≤ b) : Uni.ofTwo s a b g = (s, Uni.says (-1)) := by
  unfold Uni.ofTwo
  by_cases ha : forms.length ≤ a
  · exact ofOne_no R ha
  · have hb := h.resolve_left ha
    cases e : s.now.nodes[a]? with
    | none => unfold Uni.ofOne; rw [e]
    | some f => rw [ofOne_yes e]; exact ofOne_no R hb
theorem ofTwo_yes {a b : Nat} {f g : Form} {k : Form → Form → Uni.State × Uni.Answer} (ha : s.now.nodes[a]? = some f) (hb : s.now.nodes[b]? = some g) : Uni.ofTwo s a b k = k f g := by
  unfold Uni.ofTwo
  rw [ofOne_yes ha, ofOne_yes hb]

/-! the calls without lines -/
theorem step_name (R : NowRel names forms starts steps s.now) (h1 : names < 6) (h2 : forms.length < 64) : ∃ now, Uni.step s .name = (⟨now, s.kept⟩, Uni.says (forms.length : Nat)) ∧ NowRel (names + 1) (forms ++ [single names 13]) starts steps now := by
  refine ⟨_, ?_, R.named h1 h2⟩
  show (if _ then _ else _) = _
  rw [if_pos ⟨by rw [R.hnames]; exact h1, by rw [R.len]; exact h2⟩, R.len]
theorem step_name_no (R : NowRel names forms starts steps s.now) (h : ¬ (names < 6 ∧ forms.length < 64)) : Uni.step s .name = (s, Uni.says (-2)) := by
  show (if _ then _ else _) = _
  rw [if_neg]
  rintro ⟨a, b⟩
  rw [R.hnames] at a
  rw [R.len] at b
  exact h ⟨a, b⟩
theorem z6_row : (rowOf Uni.NAMES fun (_ : Nat) => (0 : Int)) = z6 := rfl
theorem base_ok {e : List Int} (h : e.length = 7) (hb : Bd 6 (z6 ++ e)) : FormOk ⟨rowOf Uni.NAMES fun (_ : Nat) => (0 : Int), e⟩ := ⟨rfl, h, hb⟩
theorem step_base (R : NowRel names forms starts steps s.now) {e : List Int} (he : e.length = 7) (h : forms.length < 64) (hb : Bd 6 (z6 ++ e)) : ∃ now, Uni.step s (.base e) = (⟨now, s.kept⟩, Uni.says (forms.length : Nat)) ∧ NowRel names (forms ++ [z6 ++ e]) starts steps now := by
  refine ⟨_, ?_, R.more (base_ok he hb) h⟩
  show (if _ then _ else _) = _
  have hi : Uni.isUnitRow e = true := by
    unfold Uni.isUnitRow
    rw [Bool.and_eq_true]
    exact ⟨beq_iff_eq.mpr he, bd_small.mpr (Bd.append.mp hb).2⟩
  rw [if_pos hi]
  exact made_yes R h hb
theorem step_base_no (R : NowRel names forms starts steps s.now) {e : List Int} (h : ¬ (e.length = 7 ∧ forms.length < 64 ∧ Bd 6 (z6 ++ e))) : Uni.step s (.base e) = (s, Uni.says (-2)) := by
  show (if _ then _ else _) = _
  by_cases hi : Uni.isUnitRow e = true
  · rw [if_pos hi]
    refine made_no R fun q => h ⟨?_, q.1, q.2⟩
    unfold Uni.isUnitRow at hi
    rw [Bool.and_eq_true] at hi
    exact beq_iff_eq.mp hi.1
  · rw [if_neg hi]
/-- mul, div: the row is ra + k rb -/
theorem step_mul (R : NowRel names forms starts steps s.now) {a b : Nat} {ra rb : Row} (ha : forms[a]? = some ra) (hb : forms[b]? = some rb) :
    ((forms.length < 64 ∧ Bd 6 (plus ra rb 1)) → ∃ now, Uni.step s (.mul a b) = (⟨now, s.kept⟩, Uni.says (forms.length : Nat)) ∧ NowRel names (forms ++ [plus ra rb 1]) starts steps now) ∧
    (¬ (forms.length < 64 ∧ Bd 6 (plus ra rb 1)) → Uni.step s (.mul a b) = (s, Uni.says (-2))) := by
  obtain ⟨f, hf, rfl, okf⟩ := R.get ha
  obtain ⟨g, hg, rfl, okg⟩ := R.get hb
  have e : Uni.step s (.mul a b) = Uni.made s (Uni.times f g) := ofTwo_yes hf hg
  rw [e, ← times_row okf okg]
  refine ⟨fun h => ⟨_, made_yes R h.1 h.2, R.more ⟨(formOf_len _ _).1, (formOf_len _ _).2, h.2⟩ h.1⟩, fun h => made_no R h⟩
theorem step_div (R : NowRel names forms starts steps s.now) {a b : Nat} {ra rb : Row} (ha : forms[a]? = some ra) (hb : forms[b]? = some rb) :
    ((forms.length < 64 ∧ Bd 6 (plus ra rb (-1))) → ∃ now, Uni.step s (.div a b) = (⟨now, s.kept⟩, Uni.says (forms.length : Nat)) ∧ NowRel names (forms ++ [plus ra rb (-1)]) starts steps now) ∧
    (¬ (forms.length < 64 ∧ Bd 6 (plus ra rb (-1))) → Uni.step s (.div a b) = (s, Uni.says (-2))) := by
  obtain ⟨f, hf, rfl, okf⟩ := R.get ha
  obtain ⟨g, hg, rfl, okg⟩ := R.get hb
  have e : Uni.step s (.div a b) = Uni.made s (Uni.over f g) := ofTwo_yes hf hg
  rw [e, ← over_row ⟨okf.n6, okf.b7⟩ ⟨okg.n6, okg.b7⟩]
  refine ⟨fun h => ⟨_, made_yes R h.1 h.2, R.more ⟨(formOf_len _ _).1, (formOf_len _ _).2, h.2⟩ h.1⟩, fun h => made_no R h⟩
theorem step_pow (R : NowRel names forms starts steps s.now) {a : Nat} {ra : Row} (k : Int) (ha : forms[a]? = some ra) :
    ((forms.length < 64 ∧ Bd 6 (ra.map fun x => k * x)) → ∃ now, Uni.step s (.pow a k) = (⟨now, s.kept⟩, Uni.says (forms.length : Nat)) ∧ NowRel names (forms ++ [ra.map fun x => k * x]) starts steps now) ∧
    (¬ (forms.length < 64 ∧ Bd 6 (ra.map fun x => k * x)) → Uni.step s (.pow a k) = (s, Uni.says (-2))) := by
  obtain ⟨f, hf, rfl, okf⟩ := R.get ha
  have e : Uni.step s (.pow a k) = Uni.made s (Uni.power f k) := ofOne_yes hf
  rw [e, ← power_row k okf]
  refine ⟨fun h => ⟨_, made_yes R h.1 h.2, R.more ⟨(formOf_len _ _).1, (formOf_len _ _).2, h.2⟩ h.1⟩, fun h => made_no R h⟩

/-! lines -/
theorem over_take {f g : Form} (hf : f.names.length = 6 ∧ f.base.length = 7) (hg : g.names.length = 6 ∧ g.base.length = 7) : (plus (rowF f) (rowF g) (-1)).take 6 = (Uni.over f g).names ∧ (plus (rowF f) (rowF g) (-1)).drop 6 = (Uni.over f g).base := by
  rw [← over_row hf hg]
  exact ⟨rowF_take (formOf_len _ _).1, rowF_drop (formOf_len _ _).1⟩
/-- a line told as a and b -/
theorem line_no_ab {w : Uni.Ways} {f g : Form} (hf : f.names.length = 6 ∧ f.base.length = 7) (hg : g.names.length = 6 ∧ g.base.length = 7) (R : Rel starts steps w)
    (h : LineNo ((plus (rowF f) (rowF g) (-1)).take 6) ((plus (rowF f) (rowF g) (-1)).drop 6) starts steps) : Uni.bound w (Uni.over f g) = none := by
  rw [(over_take hf hg).1, (over_take hf hg).2] at h
  exact R.no h
theorem line_yes_ab {w : Uni.Ways} {f g : Form} (hf : f.names.length = 6 ∧ f.base.length = 7) (hg : g.names.length = 6 ∧ g.base.length = 7) (R : Rel starts steps w) {starts' steps' : List Row}
    (h : LineYes ((plus (rowF f) (rowF g) (-1)).take 6) ((plus (rowF f) (rowF g) (-1)).drop 6) starts steps starts' steps') : ∃ w', Uni.bound w (Uni.over f g) = some w' ∧ Rel starts' steps' w' := by
  rw [(over_take hf hg).1, (over_take hf hg).2] at h
  exact R.yes h
/-- told as b and a -/
theorem line_no_ba {w : Uni.Ways} {f g : Form} (hf : f.names.length = 6 ∧ f.base.length = 7) (hg : g.names.length = 6 ∧ g.base.length = 7) (R : Rel starts steps w)
    (h : LineNo ((plus (rowF g) (rowF f) (-1)).take 6) ((plus (rowF g) (rowF f) (-1)).drop 6) starts steps) : Uni.bound w (Uni.over f g) = none := by
  have sw := line_swap (a := rowF f) (b := rowF g) (FormOk.len hf) (FormOk.len hg)
  exact line_no_ab hf hg R (h.neg sw.1 sw.2)
theorem line_yes_ba {w : Uni.Ways} {f g : Form} (hf : f.names.length = 6 ∧ f.base.length = 7) (hg : g.names.length = 6 ∧ g.base.length = 7) (R : Rel starts steps w) {starts' steps' : List Row}
    (h : LineYes ((plus (rowF g) (rowF f) (-1)).take 6) ((plus (rowF g) (rowF f) (-1)).drop 6) starts steps starts' steps') : ∃ w', Uni.bound w (Uni.over f g) = some w' ∧ Rel starts' steps' w' := by
  have sw := line_swap (a := rowF f) (b := rowF g) (FormOk.len hf) (FormOk.len hg)
  exact line_yes_ab hf hg R (h.neg sw.1 sw.2)
theorem plus_scale (a b : Row) (k j : Int) : plus a (b.map fun x => k * x) j = plus a b (j * k) := by
  induction a generalizing b with
  | nil => simp [plus_nil_l]
  | cons x a ih =>
    cases b with
    | nil => simp [plus_nil_r]
    | cons y b =>
      rw [List.map_cons, plus_cons, plus_cons, ih]
      congr 1; rw [Int.mul_assoc]
/-- root's line: a's row less k times the new name -/
theorem root_row {f : Form} {n : Nat} (k : Int) (hn : n < 6) : plus (rowF f) (single n 13) (-k) = plus (rowF f) (rowF (Uni.power (Uni.ofName n) k)) (-1) := by
  rw [power_row k (ofName_ok n), plus_scale, ← single_row hn]
  congr 1; omega
theorem Bd12_plus {a b : Row} {k : Int} {m : Nat} (ha : Bd 6 a) (hb : Bd m b) (h : k.natAbs * m ≤ 6) : Bd 12 (plus a b k) := (ha.plus k hb).mono (by omega)
theorem single_bd (n len : Nat) : Bd 1 (single n len) := by
  intro x hx
  obtain ⟨i, _, rfl⟩ := List.mem_map.mp hx
  by_cases h : (i : Int) = n
  · rw [if_pos h]; decide
  · rw [if_neg h]; decide
theorem single_len (n len : Nat) : (single n len).length = len := by simp [single]

theorem step_root_bad (R : NowRel names forms starts steps s.now) {a : Nat} {ra : Row} {k : Int} (ha : forms[a]? = some ra) (h : ¬ (1 ≤ k ∧ k ≤ 6 ∧ names < 6 ∧ forms.length < 64)) : Uni.step s (.root a k) = (s, Uni.says (-2)) := by
  obtain ⟨f, hf, rfl, okf⟩ := R.get ha
  have e : Uni.step s (.root a k) = (if 1 ≤ k ∧ k ≤ Uni.LIMIT ∧ s.now.names < Uni.NAMES ∧ s.now.nodes.length < Uni.NODES then (match Uni.bound s.now.ways (Uni.over (Uni.power (Uni.ofName s.now.names) k) f) with
    | none => (s, Uni.says (-3))
    | some w => (⟨⟨s.now.names + 1, s.now.nodes ++ [Uni.ofName s.now.names], w⟩, s.kept⟩, Uni.says (s.now.nodes.length : Nat))) else (s, Uni.says (-2))) := ofOne_yes hf
  rw [e, if_neg]
  rw [R.hnames, R.len]
  exact h
theorem step_root (R : NowRel names forms starts steps s.now) {a : Nat} {ra : Row} {k : Int} (ha : forms[a]? = some ra) (h : 1 ≤ k ∧ k ≤ 6 ∧ names < 6 ∧ forms.length < 64) :
    (LineNo ((plus ra (single names 13) (-k)).take 6) ((plus ra (single names 13) (-k)).drop 6) starts steps → Uni.step s (.root a k) = (s, Uni.says (-3))) ∧
    (∀ starts' steps', LineYes ((plus ra (single names 13) (-k)).take 6) ((plus ra (single names 13) (-k)).drop 6) starts steps starts' steps' → SizeOk starts' steps' →
      ∃ now, Uni.step s (.root a k) = (⟨now, s.kept⟩, Uni.says (forms.length : Nat)) ∧ NowRel (names + 1) (forms ++ [single names 13]) starts' steps' now) := by
  obtain ⟨f, hf, rfl, okf⟩ := R.get ha
  have e : Uni.step s (.root a k) = (if 1 ≤ k ∧ k ≤ Uni.LIMIT ∧ s.now.names < Uni.NAMES ∧ s.now.nodes.length < Uni.NODES then (match Uni.bound s.now.ways (Uni.over (Uni.power (Uni.ofName s.now.names) k) f) with
    | none => (s, Uni.says (-3))
    | some w => (⟨⟨s.now.names + 1, s.now.nodes ++ [Uni.ofName s.now.names], w⟩, s.kept⟩, Uni.says (s.now.nodes.length : Nat))) else (s, Uni.says (-2))) := ofOne_yes hf
  have hp : (Uni.power (Uni.ofName names) k).names.length = 6 ∧ (Uni.power (Uni.ofName names) k).base.length = 7 := formOf_len _ _
  have hf' : f.names.length = 6 ∧ f.base.length = 7 := ⟨okf.n6, okf.b7⟩
  rw [root_row k h.2.2.1, e, if_pos (by rw [R.hnames, R.len]; exact h), R.hnames]
  constructor
  · intro N
    rw [line_no_ba hp hf' R.rel N]
  · intro starts' steps' Y z
    obtain ⟨w', e1, r1⟩ := line_yes_ba hp hf' R.rel Y
    rw [e1, R.len]
    have := (R.other r1 z).named h.2.2.1 h.2.2.2
    exact ⟨_, rfl, by rw [R.hnames] at this; exact this⟩
theorem step_add_bad (R : NowRel names forms starts steps s.now) {a b : Nat} {ra rb : Row} (ha : forms[a]? = some ra) (hb : forms[b]? = some rb) (h : ¬ forms.length < 64) : Uni.step s (.add a b) = (s, Uni.says (-2)) := by
  obtain ⟨f, hf, rfl, okf⟩ := R.get ha
  obtain ⟨g, hg, rfl, okg⟩ := R.get hb
  have e : Uni.step s (.add a b) = (if s.now.nodes.length < Uni.NODES then (match Uni.bound s.now.ways (Uni.over f g) with
    | none => (s, Uni.says (-3))
    | some w => (⟨⟨s.now.names, s.now.nodes ++ [f], w⟩, s.kept⟩, Uni.says (s.now.nodes.length : Nat))) else (s, Uni.says (-2))) := ofTwo_yes hf hg
  rw [e, if_neg]
  rw [R.len]
  exact h
theorem step_add (R : NowRel names forms starts steps s.now) {a b : Nat} {ra rb : Row} (ha : forms[a]? = some ra) (hb : forms[b]? = some rb) (h : forms.length < 64) :
    (LineNo ((plus ra rb (-1)).take 6) ((plus ra rb (-1)).drop 6) starts steps → Uni.step s (.add a b) = (s, Uni.says (-3))) ∧
    (∀ starts' steps', LineYes ((plus ra rb (-1)).take 6) ((plus ra rb (-1)).drop 6) starts steps starts' steps' → SizeOk starts' steps' →
      ∃ now, Uni.step s (.add a b) = (⟨now, s.kept⟩, Uni.says (forms.length : Nat)) ∧ NowRel names (forms ++ [ra]) starts' steps' now) := by
  obtain ⟨f, hf, rfl, okf⟩ := R.get ha
  obtain ⟨g, hg, rfl, okg⟩ := R.get hb
  have e : Uni.step s (.add a b) = (if s.now.nodes.length < Uni.NODES then (match Uni.bound s.now.ways (Uni.over f g) with
    | none => (s, Uni.says (-3))
    | some w => (⟨⟨s.now.names, s.now.nodes ++ [f], w⟩, s.kept⟩, Uni.says (s.now.nodes.length : Nat))) else (s, Uni.says (-2))) := ofTwo_yes hf hg
  rw [e, if_pos (by rw [R.len]; exact h)]
  constructor
  · intro N
    rw [line_no_ab ⟨okf.n6, okf.b7⟩ ⟨okg.n6, okg.b7⟩ R.rel N]
  · intro starts' steps' Y z
    obtain ⟨w', e1, r1⟩ := line_yes_ab ⟨okf.n6, okf.b7⟩ ⟨okg.n6, okg.b7⟩ R.rel Y
    rw [e1, R.len]
    exact ⟨_, rfl, (R.other r1 z).more okf h⟩
theorem step_eq (R : NowRel names forms starts steps s.now) {a b : Nat} {ra rb : Row} (ha : forms[a]? = some ra) (hb : forms[b]? = some rb) :
    (LineNo ((plus ra rb (-1)).take 6) ((plus ra rb (-1)).drop 6) starts steps → Uni.step s (.eq_ a b) = (s, Uni.says (-3))) ∧
    (∀ starts' steps', LineYes ((plus ra rb (-1)).take 6) ((plus ra rb (-1)).drop 6) starts steps starts' steps' → SizeOk starts' steps' →
      ∃ now, Uni.step s (.eq_ a b) = (⟨now, s.kept⟩, Uni.says 0) ∧ NowRel names forms starts' steps' now) := by
  obtain ⟨f, hf, rfl, okf⟩ := R.get ha
  obtain ⟨g, hg, rfl, okg⟩ := R.get hb
  have e : Uni.step s (.eq_ a b) = (match Uni.bound s.now.ways (Uni.over f g) with
    | none => (s, Uni.says (-3))
    | some w => (⟨⟨s.now.names, s.now.nodes, w⟩, s.kept⟩, Uni.says 0)) := ofTwo_yes hf hg
  rw [e]
  constructor
  · intro N
    rw [line_no_ab ⟨okf.n6, okf.b7⟩ ⟨okg.n6, okg.b7⟩ R.rel N]
  · intro starts' steps' Y z
    obtain ⟨w', e1, r1⟩ := line_yes_ab ⟨okf.n6, okf.b7⟩ ⟨okg.n6, okg.b7⟩ R.rel Y
    rw [e1]
    exact ⟨_, rfl, R.other r1 z⟩
/-- test: 2 where the line can't be; 0 where the units go nowhere apart; 1 else -/
theorem step_test (R : NowRel names forms starts steps s.now) {a b : Nat} {ra rb : Row} (ha : forms[a]? = some ra) (hb : forms[b]? = some rb) :
    (LineNo ((plus ra rb (-1)).take 6) ((plus ra rb (-1)).drop 6) starts steps → Uni.step s (.test a b) = (s, Uni.says 2)) ∧
    (¬ LineNo ((plus ra rb (-1)).take 6) ((plus ra rb (-1)).drop 6) starts steps → Uni.step s (.test a b) = (s, Uni.says (if gof ((plus ra rb (-1)).take 6) steps = 0 then 0 else 1))) := by
  obtain ⟨f, hf, rfl, okf⟩ := R.get ha
  obtain ⟨g, hg, rfl, okg⟩ := R.get hb
  have e : Uni.step s (.test a b) = (s, match Uni.bound s.now.ways (Uni.over f g) with
    | none => Uni.says 2
    | some _ => Uni.says (if Uni.goes s.now.ways (Uni.over f g) = 0 then 0 else 1)) := ofTwo_yes hf hg
  have hf' : f.names.length = 6 ∧ f.base.length = 7 := ⟨okf.n6, okf.b7⟩
  have hg' : g.names.length = 6 ∧ g.base.length = 7 := ⟨okg.n6, okg.b7⟩
  rw [e]
  constructor
  · intro N
    rw [line_no_ab hf' hg' R.rel N]
  · intro N
    rcases bound_ok s.now.ways (Uni.over f g) R.rel.goodW with ⟨e1, n1⟩ | ⟨w', e1, _⟩
    · exfalso
      apply N
      rw [(over_take hf' hg').1, (over_take hf' hg').2]
      intro q
      apply n1
      intro b hb
      obtain ⟨d, hd, e2⟩ := R.rel.dot (Uni.over f g).names hb
      have h2 := q b hb
      rw [e2, ← Int.add_assoc] at h2
      have hs := gof_same (n := (Uni.over f g).names) R.rel.good.sixS R.rel.goodW.sixS R.rel.same
      rw [hs] at hd h2
      exact (Int.dvd_add_left hd).mp h2
    · rw [e1, (over_take hf' hg').1, R.rel.gof]
/-- unit -/
def unitNums (n e : Row) (starts steps : List Row) : List Int := rowOf 7 fun b => if gof n steps = 0 then at_ e b + dot n (gd starts b) else (at_ e b + dot n (gd starts b)) % (gof n steps : Int)
theorem step_unit (R : NowRel names forms starts steps s.now) {a : Nat} {ra : Row} (ha : forms[a]? = some ra) :
    Uni.step s (.unit a) = (s, ⟨(gof (ra.take 6) steps : Nat), [], unitNums (ra.take 6) (ra.drop 6) starts steps⟩) := by
  obtain ⟨f, hf, rfl, okf⟩ := R.get ha
  have e : Uni.step s (.unit a) = (s, ⟨((Uni.goes s.now.ways f : Nat) : Int), [], if Uni.goes s.now.ways f = 0 then Uni.told s.now.ways f else (Uni.told s.now.ways f).map fun (x : Int) => x % ((Uni.goes s.now.ways f : Nat) : Int)⟩) := ofOne_yes hf
  rw [e, rowF_take okf.n6, rowF_drop okf.n6, ← R.rel.gof]
  have hn : (if gof f.names steps = 0 then Uni.told s.now.ways f else (Uni.told s.now.ways f).map fun (x : Int) => x % ((gof f.names steps : Nat) : Int)) = unitNums f.names f.base starts steps := by
    refine row_ext (n := 7) ?_ (rowOf_len _ _) fun b hb => ?_
    · split
      · exact told_len _ _
      · rw [List.length_map, told_len]
    · unfold unitNums
      rw [rowOf_get hb]
      obtain ⟨d, hd, e2⟩ := R.rel.dot f.names hb
      have ht := told_get s.now.ways f hb
      by_cases h0 : gof f.names steps = 0
      · rw [if_pos h0, if_pos h0, ht, e2]
        rw [h0] at hd
        have : d = 0 := Int.zero_dvd.mp hd
        rw [this]; simp
      · rw [if_neg h0, if_neg h0, List.getElem?_map, ht]
        show some _ = some _
        rw [e2, ← Int.add_assoc]
        exact congrArg some (emod_same hd rfl).symm
  rw [hn]
end
end Uf

set_option Elab.async false
set_option linter.all false
set_option maxRecDepth 100000
set_option maxHeartbeats 2000000
namespace Ug
open PySem PySem.Spec PyProof.Rows L2

abbrev iV (r : List Int) : List V := r.map V.int
theorem Same.refl (H : Hp) : Same H H := fun _ _ h => h
theorem Same.new {H : Hp} {a : Addr} {o : HO} (h : H a = none) : Same H (upd H a o) := fun b u e => by rw [upd_ne (ne_of_none e h)]; exact e
theorem Same.updR {H H1 : Hp} {a : Addr} {o : HO} (h : H a = none) (s : Same H H1) : Same H (upd H1 a o) := fun b u e => by rw [upd_ne (ne_of_none e h)]; exact s b u e

theorem wipe2 {σ : L2.St} {p q : Nat} (h : p ≠ q) (v w : Option V) : wipe (((wipe σ [p, q]).set p v).set q w) [p, q] = wipe σ [p, q] := by
  show (((((σ.set q none).set p none).set p v).set q w).set q none).set p none = (σ.set q none).set p none
  rw [List.set_set, List.set_comm _ _ h.symm, List.set_set, List.set_set]
  rw [List.set_comm _ _ h, List.set_set]
theorem wipe1 {σ : L2.St} {p : Nat} (v : Option V) : wipe ((wipe σ [p]).set p v) [p] = wipe σ [p] := by
  show ((σ.set p none).set p v).set p none = σ.set p none
  rw [List.set_set, List.set_set]

theorem take_snoc {α : Type} : ∀ {l : List α} {i : Nat} {x : α}, l[i]? = some x → l.take (i + 1) = l.take i ++ [x]
  | [], i, x, h => by simp at h
  | a :: l, 0, x, h => by
    have e : a = x := Option.some.inj h
    subst e
    rfl
  | a :: l, i + 1, x, h => by
    have ih := take_snoc (l := l) (i := i) (x := x) h
    show a :: l.take (i + 1) = a :: l.take i ++ [x]
    rw [ih]
    rfl

/-- [.. for x, y in zip(..)] over two lists -/
theorem lc_zipV {K : PySem.W.Frag} {a b : Addr} {xs ys : List V} {n : Nat} {H1 : Hp} {p q : Nat} {te : TE} {σ : L2.St} {Q : VK} (f : Nat → Int) (hpq : p ≠ q)
    (ha : SqL K H1 a xs) (hb : SqL K H1 b ys) (hn : n = min xs.length ys.length) (hz : n < sizeLine)
    (he : ∀ i x y, xs[i]? = some x → ys[i]? = some y → ∀ H2, Same H1 H2 → ∀ R : VK, (∀ H3, Same H2 H3 → R (.int (f i)) H3) → te (((wipe σ [p, q]).set p (some x)).set q (some y)) H2 R)
    (hQ : ∀ D H2, H1 D = none → Same H1 H2 → H2 D = some (.lst (iV ((List.range n).map f))) → Q (.ref D) H2) :
    ∀ D, H1 D = none → ∃ W : Nat → Nat → Hp → Prop, (∃ m, W 0 m (upd H1 D (.lst []))) ∧ ∀ i m H, W i m H →
      ((Itz K a b).stop i H ∧ Q (.ref D) H) ∨ ((Itz K a b).go i H ∧ ∃ Nx : Hp → Prop, (∀ H', Nx H' → ∃ m', m' < m ∧ W (i + 1) m' H') ∧ ∀ x H', (Itz K a b).yld i H x H' →
        gTup K 2 (gCons (gName p) (gCons (gName q) gNil)) x (wipe σ [p, q]) H' fun σ2 H2 => wipe σ2 [p, q] = wipe σ [p, q] ∧ tYes σ2 H2 fun b H3 =>
          if b = true then te σ2 H3 fun y H4 => ∃ acc, H4 D = some (.lst acc) ∧ acc.length < sizeLine ∧ Nx (upd H4 D (.lst (acc ++ [y]))) else Nx H3) := by
  intro D hD
  refine ⟨fun i m H => m = n - i ∧ i ≤ n ∧ Same H1 H ∧ H D = some (.lst (iV ((List.range i).map f))), ⟨_, rfl, Nat.zero_le _, Same.new hD, upd_same⟩, ?_⟩
  rintro i m H ⟨rfl, hi, hs, hd⟩
  by_cases hlt : i < n
  · have hx' : i < xs.length := by omega
    have hy' : i < ys.length := by omega
    refine .inr ⟨⟨xs, ys, xs[i], ys[i], hs.seq ha, hs.seq hb, List.getElem?_eq_getElem hx', List.getElem?_eq_getElem hy'⟩, fun H' => Same H1 H' ∧ H' D = some (.lst (iV ((List.range (i + 1)).map f))), fun H' h' => ⟨_, by omega, rfl, hlt, h'.1, h'.2⟩, ?_⟩
    rintro v H' ⟨T, x, y, rfl, hT, rfl, h1, h2⟩
    have hDT : D ≠ T := ne_of_none hd hT
    have hs' : Same H1 (upd H T (.tup [x, y])) := fun c o e => by rw [upd_ne (ne_of_none (hs c o e) hT)]; exact hs c o e
    refine ⟨T, _, rfl, .inl (.inl upd_same), rfl, _, _, rfl, _, _, rfl, rfl, wipe2 hpq _ _, ?_⟩
    show te _ _ _
    refine he i _ _ (h1 _ (hs.seq ha)) (h2 _ (hs.seq hb)) _ hs' _ fun H3 h3 => ?_
    have hd3 : H3 D = some (.lst (iV ((List.range i).map f))) := h3 D _ (by rw [upd_ne hDT]; exact hd)
    refine ⟨_, hd3, ?_, Same.updR hD (hs'.trans h3), ?_⟩
    · rw [List.length_map, List.length_map, List.length_range]; omega
    · rw [upd_same, List.range_succ, List.map_append]; simp [iV]
  · have e : i = n := by omega
    subst e
    exact .inl ⟨⟨xs, ys, hs.seq ha, hs.seq hb, by omega⟩, hQ D H hD hs hd⟩
/-- a def's names, looked at -/
def scB (N P : List Str) (sc : Scope) : Bool :=
  decide (sc.kind = .function) && decide (sc.isCoroutine = false) && decide (sc.isGenerator = false) && decide N.Nodup && decide (N.take P.length = P) &&
  P.all (fun x => decide (sc.names.lookup x = some .local) || decide (sc.names.lookup x = some .cell)) && sc.names.all (fun y => !decide (y.2 = .free))
theorem sc_of {N P : List Str} {sc : Scope} (h : scB N P sc = true) : FnScope N P sc := by
  unfold scB at h
  simp only [Bool.and_eq_true, List.all_eq_true, decide_eq_true_eq, Bool.or_eq_true, Bool.not_eq_true', decide_eq_false_iff_not] at h
  obtain ⟨⟨⟨⟨⟨⟨h1, h2⟩, h3⟩, h4⟩, h5⟩, h6⟩, h7⟩ := h
  exact ⟨h1, h2, h3, h4, h5, h6, h7⟩
/-- a block's names, looked at -/
def blkB (N : List Str) (sc scope : Scope) (own : List (Str × Nat)) : Bool :=
  decide (scope.kind = .function) && scope.names.all (fun y => decide (scope.names.lookup y.1 = some y.2)) && own.all (fun p => decide (N[p.2]? = some p.1)) &&
  scope.names.all (fun y => !decide (y.2 = .free) || (decide (sc.names.lookup y.1 = some .cell) || decide (sc.names.lookup y.1 = some .free))) &&
  scope.names.all (fun y => !(decide (y.2 = .local) || decide (y.2 = .cell)) || (decide (y.1 ∈ own.map (·.1)) || !decide (y.1 ∈ N)))
theorem blk_ok {X : Cx} {scope : Scope} {own : List (Str × Nat)} {N : List Str} {sc : Scope} (hN : X.N = N) (hsc : X.env.scope = sc) (h : blkB N sc scope own = true) : BlkOk X.N X.env.scope scope own := by
  rw [hN, hsc]
  unfold blkB at h
  simp only [Bool.and_eq_true, List.all_eq_true, decide_eq_true_eq, Bool.or_eq_true, Bool.not_eq_true', decide_eq_false_iff_not] at h
  obtain ⟨⟨⟨⟨h1, h2⟩, h3⟩, h4⟩, h5⟩ := h
  refine ⟨h1, h2, h3, fun y hy e => ?_, fun y hy e => ?_⟩
  · rcases h4 y hy with g | g
    · exact absurd e g
    · exact g
  · rcases h5 y hy with g | g
    · simp only [Bool.or_eq_false_iff, decide_eq_false_iff_not] at g
      rcases e with e | e
      · exact absurd e g.1
      · exact absurd e g.2
    · exact g

/-- [elt for x, y in zip(e, e2)] -/
theorem pe_lcz {X : Cx} {x y : Str} {p q : Nat} {elt e e2 : Expr} {px py zp zpos tpos pos : Pos} {kk : Nat} {scope : Scope} {ta : TA} {te : TE} (hc : X.calm = true) (hN : X.N.Nodup) (hg : Gl X "zip") (hm : X.mg "zip" = none) (ha : PA X [e, e2] ta)
    (ok : BlkOk X.N X.env.scope scope [(x, p), (y, q)]) (lx : scope.names.lookup x = some .local) (ly : scope.names.lookup y = some .local)
    (he : ∀ (s : Shared) (H : Hp) (C : Addr) (cl : List (Str × Addr)) (fp : List Addr), PE (X.blk s H scope (compEnvC scope cl C X.env) fp) elt te)
    (hs : starEach [e, e2] X.env = (false, eval e X.env) :: starEach [e2] X.env := by rfl) (hpl : (backTo zpos (starEach [e2] X.env)).any (·.1) = false := by rfl) :
    PE X (.ListComp elt [⟨.Tuple [.Name x px, .Name y py] kk tpos, .Call (.Name "zip" zp) [e, e2] [] zpos, [], 0⟩] scope pos) (tLc (iZip X.K ta) (gTup X.K 2 (gCons (gName p) (gCons (gName q) gNil))) tYes te [p, q]) := by
  refine pe_lc (own := [(x, p), (y, q)]) (g := gTup X.K 2 (gCons (gName p) (gCons (gName q) gNil))) hc hN (pi_zip hg hm ha hs hpl) ok (fun s H C cl fp => ?_) (fun _ _ _ _ _ => pts_nil) he
  have l1 : ∀ z, scope.names.lookup z = some .local → (compEnvC scope cl C X.env).scope.names.lookup z = some .local := fun z hz => lookup_relabel_local hz
  exact pg_tup (X := X.blk s H scope (compEnvC scope cl C X.env) fp) hc (pgs_cons (pg_name (i := p) hN (ok.ix (x, p) (by simp)) (Or.inl (l1 x lx)) (Or.inr (l1 x lx))) (pgs_cons (pg_name (i := q) hN (ok.ix (y, q) (by simp)) (Or.inl (l1 y ly)) (Or.inr (l1 y ly))) pgs_nil))

theorem zip_range (f : Int → Int → Int) : ∀ (xs ys : List Int), (List.range (min xs.length ys.length)).map (fun i => f (xs.getD i 0) (ys.getD i 0)) = List.zipWith f xs ys
  | [], ys => by rw [List.length_nil, Nat.zero_min]; rfl
  | x :: xs, [] => by rw [List.length_nil, Nat.min_zero]; rfl
  | x :: xs, y :: ys => by
    rw [List.length_cons, List.length_cons, Nat.succ_min_succ, List.range_succ_eq_map, List.map_cons, List.map_map, List.zipWith_cons_cons, ← zip_range f xs ys]
    rfl
theorem tlc_zip {K : PySem.W.Frag} {a b : Addr} {xs ys : List Int} {H : Hp} {i j p q : Nat} {te : TE} {σ : L2.St} {Q : VK} (f : Int → Int → Int) (hi : σ[i]? = some (some (.ref a))) (hj : σ[j]? = some (some (.ref b))) (hpq : p ≠ q)
    (ha : SqL K H a (iV xs)) (hb : SqL K H b (iV ys)) (hz : xs.length < sizeLine)
    (he : ∀ x y, x ∈ xs → y ∈ ys → ∀ H2, Same H H2 → ∀ R : VK, (∀ H3, Same H2 H3 → R (.int (f x y)) H3) → te (((wipe σ [p, q]).set p (some (.int x))).set q (some (.int y))) H2 R)
    (hQ : ∀ D H2, H D = none → Same H H2 → H2 D = some (.lst (iV (List.zipWith f xs ys))) → Q (.ref D) H2) :
    tLc (iZip K (tCons (tVar i) (tCons (tVar j) tNil))) (gTup K 2 (gCons (gName p) (gCons (gName q) gNil))) tYes te [p, q] σ H Q := by
  have get : ∀ {l : List Int} {k : Nat} {v : V}, (iV l)[k]? = some v → ∃ z, l[k]? = some z ∧ v = .int z := fun {l k v} h => by
    rw [List.getElem?_map] at h
    cases e : l[k]? with
    | none => rw [e] at h; cases h
    | some z => rw [e] at h; exact ⟨z, rfl, (Option.some.inj h).symm⟩
  refine ⟨_, hi, _, hj, a, b, _, _, rfl, ha, hb, lc_zipV (Q := Q) (te := te) (σ := σ) (n := min xs.length ys.length) (fun i => f (xs.getD i 0) (ys.getD i 0)) hpq ha hb (by rw [List.length_map, List.length_map]) (by omega) (fun i x y hx hy H2 s2 R hR => ?_) (fun D H2 hD s2 h2 => hQ D H2 hD s2 (by rw [h2, zip_range]))⟩
  obtain ⟨u, hu, rfl⟩ := get hx
  obtain ⟨v, hv, rfl⟩ := get hy
  refine he u v (List.mem_of_getElem? hu) (List.mem_of_getElem? hv) H2 s2 R ?_
  rw [List.getD_eq_getElem?_getD, List.getD_eq_getElem?_getD, hu, hv] at hR
  exact hR

/-! the outermost reading taken off -/
theorem of_ret {te : TE} {D : Ends} {σ : L2.St} {H : Hp} (h : te σ H D.rt) : tRet te D σ H := h
theorem of_cb1 {r : List V → Hp → VK → Prop} {te : TE} {σ : L2.St} {H : Hp} {Q : VK} (h : te σ H fun x H1 => r [x] H1 Q) : tCB r (tCons te tNil) σ H Q := h
theorem of_asg {te : TE} {g : TG} {D : Ends} {σ : L2.St} {H : Hp} (h : te σ H fun x H1 => g x σ H1 D.nx) : tAsg te g D σ H := h
theorem of_seq {t u : TS} {D : Ends} {σ : L2.St} {H : Hp} (h : t { D with nx := u D } σ H) : tSeq t u D σ H := h

/-! products and quotients of long numbers -/
section
variable {X : Cx}
theorem op_mulB : OpR X (binaryOp .Mult) (rI IntMulOk fun i j => .int (i * j)) := opI fun _ _ _ _ _ _ _ hc q => mul_int q hc
theorem op_fdivB : OpR X (binaryOp .FloorDiv) (rI (fun _ j => j ≠ 0 ∧ j.natAbs.log2 < 9000) fun i j => .int (i.fdiv j)) := opI fun _ _ _ _ _ _ _ hc q => floordiv_int hc.1 q (.inl (PyProof.noPylong_of_log2 hc.2))
end
theorem intBits_of {a : Int} {m : Nat} (h : a.natAbs < 2 ^ m) : Builtin.Int.intBits a ≤ m := by
  unfold Builtin.Int.intBits
  split
  · exact Nat.zero_le _
  · rename_i h0
    have hn : a.natAbs ≠ 0 := by
      intro e; apply h0; simp at e ⊢; exact e
    have := (Nat.log2_lt hn).mpr h
    omega
theorem mulOk_of {a b : Int} {m n : Nat} (ha : a.natAbs < 2 ^ m) (hb : b.natAbs < 2 ^ n) (h : m + n ≤ 134217728) : IntMulOk a b := PyProof.Rows.mulOk_of_bits (intBits_of ha) (intBits_of hb) h
theorem log2_of {a : Int} {m : Nat} (hm : 1 ≤ m) (h : a.natAbs < 2 ^ m) : a.natAbs.log2 < m := by
  rcases Nat.eq_zero_or_pos a.natAbs with e | e
  · rw [e]; simp; omega
  · exact (Nat.log2_lt (by omega)).mpr h

/-! a def of the text, as its callers see it -/
def Def (P : Program) (w : World) (K : PySem.W.Frag) (mg : Str → Option Value) (base : Heap) (k : Nat) (x : Str) (ps : List Str) (sp : Sp) : Prop :=
  ∃ (f : Addr) (fd : FuncData), FnOk P w K mg base CX0 k f fd ps sp ∧ mg x = some (.ref f) ∧ PySem.W.keepIn K (.ref f) = true ∧ Binds K fd ps []
theorem pe_def {X : Cx} {k : Nat} {x : Str} {ps : List Str} {sp : Sp} {p pos : Pos} {e : Expr} {es : List Expr} {t : TA} (D : Def X.prog X.w X.K X.mg X.base k x ps sp) (hr : Room k X.A) (hg : Gl X x) (ha : PA X (e :: es) t)
    (hdb : (x == ("__debug__" : Str)) = false := by decide) (he : starEach (e :: es) X.env = (false, eval e X.env) :: starEach es X.env := by rfl) (hpl : (backTo pos (starEach es X.env)).any (·.1) = false := by rfl) :
    PE X (.Call (.Name x p) (e :: es) [] pos) (tCall sp [] E0 t) := by
  obtain ⟨f, fd, F, m, kp, b⟩ := D
  exact pe_call F hr hg m kp b .nil pass0 ha hdb he hpl
theorem pe_def0 {X : Cx} {k : Nat} {x : Str} {ps : List Str} {sp : Sp} {p pos : Pos} (D : Def X.prog X.w X.K X.mg X.base k x ps sp) (hr : Room k X.A) (hg : Gl X x)
    (hdb : (x == ("__debug__" : Str)) = false := by decide) :
    PE X (.Call (.Name x p) [] [] pos) (tCall sp [] E0 tNil) := by
  obtain ⟨f, fd, F, m, kp, b⟩ := D
  exact pe_call0 F hr hg m kp b .nil pass0 hdb
/-- a row of ints that stands at a -/
def RowAt (H : Hp) (a : Addr) (r : List Int) : Prop := H a = some (.lst (iV r))
theorem RowAt.sq {K : PySem.W.Frag} {H : Hp} {a : Addr} {r : List Int} (h : RowAt H a r) : SqL K H a (iV r) := SqL.of h
theorem RowAt.same {H H' : Hp} {a : Addr} {r : List Int} (h : RowAt H a r) (s : Same H H') : RowAt H' a r := s _ _ h

theorem pe_num {X : Cx} {x : Str} {i : Int} {pos : Pos} (hg : Gl X x) (h : ∃ t, X.mg x = some (.int i t)) (hd : (x == ("__debug__" : Str)) = false := by decide) : PE X (.Name x pos) (tC (.int i)) := by
  obtain ⟨t, h⟩ := h
  exact pe_glob hg h ⟨t, rfl⟩ hd
/-- rows of ints, one behind another -/
inductive Rows (H : Hp) : List Addr → List (List Int) → Prop
  | nil : Rows H [] []
  | cons {a : Addr} {r : List Int} {as : List Addr} {rs : List (List Int)} : RowAt H a r → Rows H as rs → Rows H (a :: as) (r :: rs)
theorem Rows.same {H H' : Hp} (s : Same H H') : ∀ {as : List Addr} {rs : List (List Int)}, Rows H as rs → Rows H' as rs
  | _, _, .nil => .nil
  | _, _, .cons h t => .cons (h.same s) (Rows.same s t)
theorem Rows.length {H : Hp} : ∀ {as : List Addr} {rs : List (List Int)}, Rows H as rs → as.length = rs.length
  | _, _, .nil => rfl
  | _, _, .cons _ t => congrArg (· + 1) (Rows.length t)
theorem Rows.snoc {H : Hp} {a : Addr} {r : List Int} (h : RowAt H a r) : ∀ {as : List Addr} {rs : List (List Int)}, Rows H as rs → Rows H (as ++ [a]) (rs ++ [r])
  | _, _, .nil => .cons h .nil
  | _, _, .cons g t => .cons g (Rows.snoc h t)
theorem Rows.get {H : Hp} : ∀ {as : List Addr} {rs : List (List Int)} {i : Nat} {a : Addr}, Rows H as rs → as[i]? = some a → ∃ r, rs[i]? = some r ∧ RowAt H a r
  | _, _, _, _, .nil, e => by simp at e
  | _, _, 0, _, .cons h _, e => by
    have e' := Option.some.inj e
    subst e'
    exact ⟨_, rfl, h⟩
  | _, _, i + 1, _, .cons _ t, e => Rows.get (i := i) t e
theorem row_ne {H : Hp} {x a : Addr} {r : List Int} {as : List Addr} (h : RowAt H x r) (h0 : r ≠ []) (g : H a = some (.lst (as.map V.ref))) : x ≠ a := by
  refine ne_of h g ?_
  intro e
  have e1 : iV r = as.map V.ref := HO.lst.inj e
  match r, as, h0, e1 with
  | [], _, h0, _ => exact h0 rfl
  | _ :: _, [], _, e1 => simp at e1
  | x :: _, y :: _, _, e1 =>
    have := (List.cons.inj e1).1
    cases this
/-- a list of refs is changed: rows stay -/
theorem Rows.upd {H : Hp} {a : Addr} {bs : List Addr} {o : HO} (g : H a = some (.lst (bs.map V.ref))) : ∀ {as : List Addr} {rs : List (List Int)}, Rows H as rs → (∀ r ∈ rs, r ≠ []) → Rows (upd H a o) as rs
  | _, _, .nil, _ => .nil
  | _, _, .cons h t, q => .cons (by
      show L2.upd H a o _ = _
      rw [upd_ne (row_ne h (q _ (by simp)) g)]; exact h) (Rows.upd g t fun r hr => q r (by simp [hr]))
/-- a list of rows that stands at a -/
def RowsAt (H : Hp) (a : Addr) (rs : List (List Int)) : Prop := ∃ as : List Addr, H a = some (.lst (as.map V.ref)) ∧ Rows H as rs
theorem RowsAt.same {H H' : Hp} {a : Addr} {rs : List (List Int)} (h : RowsAt H a rs) (s : Same H H') : RowsAt H' a rs := by
  obtain ⟨as, h1, h2⟩ := h
  exact ⟨as, s _ _ h1, h2.same s⟩

/-- for x, y in zip(..): over two lists that the body leaves as they are -/
theorem for_zip {K : PySem.W.Frag} {a b : Addr} {xs ys : List V} {g : TG} {tb : TS} {D : Ends} {σ : L2.St} {H : Hp} (Pv : Nat → L2.St → Hp → Prop) (h0 : Pv 0 σ H) (hl : ∀ i σ H, Pv i σ H → SqL K H a xs ∧ SqL K H b ys)
    (hs : ∀ i x y σ H T, xs[i]? = some x → ys[i]? = some y → Pv i σ H → H T = none → g (.ref T) σ (upd H T (.tup [x, y])) fun σ2 H2 => tb { D with nx := Pv (i + 1), ct := Pv (i + 1), bk := D.nx } σ2 H2) (hd : ∀ σ H, Pv (min xs.length ys.length) σ H → D.nx σ H) :
    ∃ W : Nat → Nat → L2.St → Hp → Prop, (∃ m, W 0 m σ H) ∧ ∀ i m σ H, W i m σ H →
      ((Itz K a b).stop i H ∧ D.nx σ H) ∨ ((Itz K a b).go i H ∧ ∃ N : L2.St → Hp → Prop, (∀ σ' H', N σ' H' → ∃ m', m' < m ∧ W (i + 1) m' σ' H') ∧ ∀ x H', (Itz K a b).yld i H x H' → g x σ H' fun σ2 H2 => tb { D with nx := N, ct := N, bk := D.nx } σ2 H2) := by
  refine ⟨fun i m σ H => m = min xs.length ys.length - i ∧ i ≤ min xs.length ys.length ∧ Pv i σ H, ⟨_, rfl, Nat.zero_le _, h0⟩, ?_⟩
  rintro i m σ H ⟨rfl, hi, p⟩
  have q := hl i σ H p
  by_cases hlt : i < min xs.length ys.length
  · have hx : i < xs.length := by omega
    have hy : i < ys.length := by omega
    refine .inr ⟨⟨xs, ys, xs[i], ys[i], q.1, q.2, by simp [hx], by simp [hy]⟩, Pv (i + 1), fun σ' H' p' => ⟨_, by omega, rfl, hlt, p'⟩, ?_⟩
    rintro v H' ⟨T, x, y, rfl, hT, rfl, h1, h2⟩
    exact hs i x y σ H T (h1 _ q.1) (h2 _ q.2) p hT
  · have e : i = min xs.length ys.length := by omega
    subst e
    exact .inl ⟨⟨xs, ys, q.1, q.2, by omega⟩, hd σ H p⟩
theorem cut_head {r : List Int} {n : Nat} (h : n ≤ r.length) : cutV (iV r) none (some (n : Int)) = iV (r.take n) := by
  unfold cutV
  rw [HT.sIx_nat, HT.sIx_none, List.length_map, Nat.min_eq_left h, List.drop_zero, Nat.sub_zero]
  exact List.map_take.symm
theorem cut_tail {r : List Int} {n : Nat} (h : n ≤ r.length) : cutV (iV r) (some (n : Int)) none = iV (r.drop n) := by
  unfold cutV
  rw [HT.sIx_nat, HT.sIx_none, List.length_map, Nat.min_eq_left h, List.take_of_length_le (by simp)]
  exact List.map_drop.symm
end Ug

set_option Elab.async false
set_option linter.all false
set_option maxRecDepth 100000
set_option maxHeartbeats 2000000
namespace Ug
open PySem PySem.Spec PyProof.Rows L2
def top (i : Nat) : Stmt := PySem.Challenge.pw_unitformulas_s01_answers.main.body.getD i (.Pass ⟨0, 0, 0, 0⟩)
abbrev sProduct : Stmt := top 28
abbrev sWithMultiple : Stmt := top 29
/-- what the text's names are -/
structure Txt (mg : Str → Option Value) : Prop where
  nSum : mg "sum" = none
  nZip : mg "zip" = none
  nLen : mg "len" = none
  nRange : mg "range" = none
  nAll : mg "all" = none
  nAbs : mg "abs" = none
  cNames : ∃ t, mg "NAMES" = some (.int 6 t)
  cUnits : ∃ t, mg "BASE_UNITS" = some (.int 7 t)
  nList : mg "list" = none
  cForms : ∃ t, mg "FORMULAS" = some (.int 64 t)
  cExp : ∃ t, mg "LARGEST_EXPONENT" = some (.int 6 t)
  cRoot : ∃ t, mg "LARGEST_ROOT" = some (.int 6 t)
  cKept : ∃ t, mg "MOST_KEPT" = some (.int 8 t)
  rNone : ∃ t, mg "NONE_THERE" = some (.int (-1) t)
  rMuch : ∃ t, mg "TOO_MUCH" = some (.int (-2) t)
  rCannot : ∃ t, mg "CANNOT_BE" = some (.int (-3) t)
  tAlways : ∃ t, mg "ALWAYS_SAME" = some (.int 0 t)
  tSome : ∃ t, mg "SOMETIMES_SAME" = some (.int 1 t)
  tNever : ∃ t, mg "NEVER_SAME" = some (.int 2 t)
  p0 : ∃ t, mg "INIT" = some (.int 0 t)
  p1 : ∃ t, mg "NAME" = some (.int 1 t)
  p2 : ∃ t, mg "BASE" = some (.int 2 t)
  p3 : ∃ t, mg "MUL" = some (.int 3 t)
  p4 : ∃ t, mg "DIV" = some (.int 4 t)
  p5 : ∃ t, mg "POW" = some (.int 5 t)
  p6 : ∃ t, mg "ROOT" = some (.int 6 t)
  p7 : ∃ t, mg "ADD" = some (.int 7 t)
  p8 : ∃ t, mg "EQ" = some (.int 8 t)
  p10 : ∃ t, mg "UNIT" = some (.int 10 t)
  p11 : ∃ t, mg "KEEP" = some (.int 11 t)
  p12 : ∃ t, mg "BACK" = some (.int 12 t)
/-- the class Ways -/
structure TxtW (K : PySem.W.Frag) (mg : Str → Option Value) (CW : Addr) : Prop where
  cl : Cls K CW
  nS : NoAttr K CW "starts"
  nT : NoAttr K CW "steps"
  mgC : mg "Ways" = some (.ref CW)
section
variable {P : Program} {w : World} {K : PySem.W.Frag} {mg : Str → Option Value} {base : Heap}
theorem sum_dot : ∀ (xs ys : List Int), (List.zipWith (fun x y => x * y) xs ys).sum = Uni.dot xs ys
  | [], ys => by simp [Uf.dot_nil_l]
  | x :: xs, [] => by simp [Uf.dot_nil_r]
  | x :: xs, y :: ys => by rw [List.zipWith_cons_cons, List.sum_cons, Uf.dot_cons, sum_dot xs ys]
/-- product(xs, ys) -/
def spProduct (K : PySem.W.Frag) : Sp := fun vs H Q _ => ∃ (a b : Addr) (xs ys : List Int), vs = [.ref a, .ref b] ∧ SqL K H a (iV xs) ∧ SqL K H b (iV ys) ∧ xs.length < sizeLine ∧ (∀ x ∈ xs, x.natAbs < 2 ^ 64) ∧ ∀ H', Same H H' → Q (.int (Uni.dot xs ys)) H'
theorem scProduct : FnScope ["xs", "ys", "x", "y"] ["xs", "ys"] (defScope sProduct) := sc_of (by decide +kernel)
theorem ok_product {f : Addr} {fd : FuncData} (F : Fun K "product" "product" sProduct f fd) (T : Txt mg) : FnOk P w K mg base CX0 1 f fd ["xs", "ys"] (spProduct K) := by
  refine F.ok scProduct (fun vs H Q E h => ?_) (fun cdv A outer s H vs Q E hr h => ?_)
  · obtain ⟨a, b, xs, ys, rfl, _⟩ := h
    rfl
  · obtain ⟨a, b, xs, ys, rfl, ha, hb, hz, hx, k⟩ := h
    refine ⟨_, pss_one (ps_ret (pe_callB (cr_sum rfl) rfl T.nSum boot_sum (pa_cons (pe_lcz (p := 2) (q := 3) rfl scProduct.nd rfl T.nZip (pa_cons (pv 0) (pa_cons (pv 1) pa_nil))
      (blk_ok (N := ["xs", "ys", "x", "y"]) (sc := defScope sProduct) rfl rfl (by decide +kernel)) rfl rfl
      (fun _ _ _ _ _ => pe_op op_mul (pv 2) (pv 3))) pa_nil))), ?_⟩
    refine of_ret (of_cb1 ?_)
    refine tlc_zip (i := 0) (j := 1) (p := 2) (q := 3) (fun x y => x * y) ?_ ?_ (by decide) ha hb hz ?_ ?_
    · rfl
    · rfl
    · intro x y hxm hym H2 hs R hR
      refine ⟨_, rfl, _, rfl, x, y, rfl, rfl, .inl ?_, hR _ (Same.refl _)⟩
      have := hx x hxm
      omega
    · intro D H2 hD hs hD2
      refine ⟨D, _, rfl, SqL.of hD2, ?_⟩
      rw [sum_dot]
      exact k _ hs
/-- with_multiple(xs, times, ys) -/
theorem zip_plus : ∀ (xs ys : List Int) (t : Int), List.zipWith (fun x y => x + t * y) xs ys = Uni.plus xs ys t
  | [], ys, t => by rw [Uf.plus_nil_l]; rfl
  | x :: xs, [], t => by rw [Uf.plus_nil_r]; rfl
  | x :: xs, y :: ys, t => by rw [List.zipWith_cons_cons, Uf.plus_cons, zip_plus xs ys t]
def spWith (K : PySem.W.Frag) : Sp := fun vs H Q _ => ∃ (a b : Addr) (xs ys : List Int) (t : Int), vs = [.ref a, .int t, .ref b] ∧ SqL K H a (iV xs) ∧ SqL K H b (iV ys) ∧ xs.length < sizeLine ∧ (∀ y ∈ ys, IntMulOk t y) ∧
  ∀ D H', H D = none → Same H H' → H' D = some (.lst (iV (Uni.plus xs ys t))) → Q (.ref D) H'
theorem scWith : FnScope ["xs", "times", "ys", "x", "y"] ["xs", "times", "ys"] (defScope sWithMultiple) := sc_of (by decide +kernel)
theorem ok_with {f : Addr} {fd : FuncData} (F : Fun K "with_multiple" "with_multiple" sWithMultiple f fd) (T : Txt mg) : FnOk P w K mg base CX0 1 f fd ["xs", "times", "ys"] (spWith K) := by
  refine F.ok scWith (fun vs H Q E h => ?_) (fun cdv A outer s H vs Q E hr h => ?_)
  · obtain ⟨a, b, xs, ys, t, rfl, _⟩ := h
    rfl
  · obtain ⟨a, b, xs, ys, t, rfl, ha, hb, hz, hm, k⟩ := h
    refine ⟨_, pss_one (ps_ret (pe_lcz (p := 3) (q := 4) rfl scWith.nd rfl T.nZip (pa_cons (pv 0) (pa_cons (pv 2) pa_nil))
      (blk_ok (N := ["xs", "times", "ys", "x", "y"]) (sc := defScope sWithMultiple) rfl rfl (by decide +kernel)) rfl rfl
      (fun _ _ _ _ _ => pe_op op_add (pv 3) (pe_op op_mulB (pv 1) (pv 4))))), ?_⟩
    refine of_ret ?_
    refine tlc_zip (i := 0) (j := 2) (p := 3) (q := 4) (fun x y => x + t * y) ?_ ?_ (by decide) ha hb hz ?_ ?_
    · rfl
    · rfl
    · intro x y hxm hym H2 hs R hR
      exact ⟨_, rfl, _, rfl, _, rfl, t, y, rfl, rfl, hm y hym, x, t * y, rfl, rfl, hR _ (Same.refl _)⟩
    · intro D H2 hD hs hD2
      rw [zip_plus] at hD2
      exact k D H2 hD hs hD2
end
end Ug

set_option Elab.async false
set_option linter.all false
set_option maxRecDepth 100000
set_option maxHeartbeats 2000000
namespace Ug
open PySem PySem.Spec PyProof.Rows L2

abbrev sPair : Stmt := top 32
section
variable {P : Program} {w : World} {K : PySem.W.Frag} {mg : Str → Option Value} {base : Heap}
abbrev DProduct (P : Program) (w : World) (K : PySem.W.Frag) (mg : Str → Option Value) (base : Heap) : Prop := Def P w K mg base 1 "product" ["xs", "ys"] (spProduct K)
abbrev DWith (P : Program) (w : World) (K : PySem.W.Frag) (mg : Str → Option Value) (base : Heap) : Prop := Def P w K mg base 1 "with_multiple" ["xs", "times", "ys"] (spWith K)
theorem pow64 {x : Int} (h : x.natAbs ≤ 12) : x.natAbs < 2 ^ 64 := Nat.lt_of_le_of_lt h (by decide)
theorem size6 {r : Uni.Row} (h : r.length = 6) : r.length < sizeLine := by rw [h]; decide
/-- parted_pair(lead, step, names) -/
def spPair : Sp := fun vs H Q _ => ∃ (a b n : Addr) (ra rb rn : Uni.Row) (C M : Nat), vs = [.ref a, .ref b, .ref n] ∧ RowAt H a ra ∧ RowAt H b rb ∧ RowAt H n rn ∧ rn.length = 6 ∧ Uf.Bd 12 rn ∧ Uf.PairInv rn ra rb C M ra rb ∧ C < 2 ^ 7000 ∧ M < 2 ^ 7000 ∧
  ∀ (H' : Hp) (T la sa : Addr) (L S : Uni.Row), Same H H' → H' T = some (.tup [.ref la, .ref sa]) → RowAt H' la L → RowAt H' sa S → Uf.PairInv rn ra rb C M L S → Uni.dot rn S = 0 → Q (.ref T) H'
theorem scPair : FnScope ["lead", "step", "names", "times", "remainder"] ["lead", "step", "names"] (defScope sPair) := sc_of (by decide +kernel)
/-- the numbers of a round are not too long -/
theorem pair_fit {rn ra rb L S : Uni.Row} {C M : Nat} (I : Uf.PairInv rn ra rb C M L S) (hC : C < 2 ^ 7000) (hM : M < 2 ^ 7000) (h0 : Uni.dot rn S ≠ 0) :
    (Uni.dot rn S).natAbs.log2 < 9000 ∧ ∀ y ∈ S, IntMulOk (-((Uni.dot rn L).fdiv (Uni.dot rn S))) y := by
  have hS := I.pS
  have hL := I.pL
  have up : ∀ m n : Nat, m ≤ n → (2 : Nat) ^ m ≤ 2 ^ n := fun m n h => Nat.pow_le_pow_right (by decide) h
  refine ⟨log2_of (by decide) (Nat.lt_of_lt_of_le (Nat.lt_of_le_of_lt hS hM) (up 7000 9000 (by decide))), fun y hy => ?_⟩
  have hy' : y.natAbs < 2 ^ 7000 := Nat.lt_of_le_of_lt (I.bdS y hy) hC
  obtain ⟨r, _, _, _, _, h5⟩ := Uf.fround (p := Uni.dot rn L) h0
  have ht : ((Uni.dot rn L).fdiv (Uni.dot rn S)).natAbs ≤ ((Uni.dot rn L).fdiv (Uni.dot rn S)).natAbs * (Uni.dot rn S).natAbs := Nat.le_mul_of_pos_right _ (by omega)
  have ht2 : ((Uni.dot rn L).fdiv (Uni.dot rn S)).natAbs ≤ 3 * M := by omega
  have e : (2 : Nat) ^ 7002 = 4 * 2 ^ 7000 := by rw [show 7002 = 2 + 7000 from rfl, Nat.pow_add]
  refine mulOk_of (m := 7002) (n := 7000) ?_ hy' (by decide)
  rw [Int.natAbs_neg, e]
  generalize (2 : Nat) ^ 7000 = Z at *
  omega
theorem ok_pair {f : Addr} {fd : FuncData} (F : Fun K "parted_pair" "parted_pair" sPair f fd) (d1 : DProduct P w K mg base) (d2 : DWith P w K mg base) : FnOk P w K mg base CX0 2 f fd ["lead", "step", "names"] spPair := by
  refine F.ok scPair (fun vs H Q E h => ?_) (fun cdv A outer s H vs Q E hr h => ?_)
  · obtain ⟨a, b, n, ra, rb, rn, C, M, rfl, _⟩ := h
    rfl
  · obtain ⟨a, b, n, ra, rb, rn, C, M, rfl, ha, hb, hn, hn6, hn12, hI, hC, hM, k⟩ := h
    refine ⟨_, pss_cons (ps_while PassesOwn.never (pt_cmpR op_ne (pe_def d1 hr rfl (pa_cons (pv 2) (pa_cons (pv 1) pa_nil))) pe_int (nomark _))
        (pss_cons (ps_set (i := 3) scPair.nd rfl (Or.inl rfl) (pe_op op_fdivB (pe_def d1 hr rfl (pa_cons (pv 2) (pa_cons (pv 0) pa_nil))) (pe_def d1 hr rfl (pa_cons (pv 2) (pa_cons (pv 1) pa_nil)))))
        (pss_cons (ps_set (i := 4) scPair.nd rfl (Or.inl rfl) (pe_def d2 hr rfl (pa_cons (pv 0) (pa_cons (pe_un un_neg (pv 3)) (pa_cons (pv 1) pa_nil)))))
        (pss_cons (ps_set (i := 0) scPair.nd rfl (Or.inl rfl) (pv 1))
        (pss_one (ps_set (i := 1) scPair.nd rfl (Or.inl rfl) (pv 4)))))))
      (pss_one (ps_ret (pe_tup (pa_cons (pv 0) (pa_cons (pv 1) pa_nil))))), ?_⟩
    have big : ∀ x ∈ rn, x.natAbs < 2 ^ 64 := fun x hx => pow64 (hn12 x hx)
    refine ⟨fun m σ H1 => ∃ (la sa : Addr) (L S : Uni.Row) (v3 v4 : Option V), σ = [some (.ref la), some (.ref sa), some (.ref n), v3, v4] ∧ m = (Uni.dot rn S).natAbs ∧ Same H H1 ∧ RowAt H1 la L ∧ RowAt H1 sa S ∧ Uf.PairInv rn ra rb C M L S,
      ⟨_, a, b, ra, rb, none, none, rfl, rfl, Same.refl _, ha, hb, hI⟩, ?_⟩
    rintro m σ H1 ⟨la, sa, L, S, v3, v4, rfl, rfl, s1, hL, hS, I⟩
    refine ⟨_, rfl, _, rfl, n, sa, rn, S, rfl, (hn.same s1).sq, hS.sq, size6 hn6, big, fun H2 s2 => ?_⟩
    refine ⟨rfl, _, rfl, ?_⟩
    by_cases h0 : Uni.dot rn S = 0
    · rw [h0]
      show _
      refine ⟨_, rfl, _, rfl, (by show 2 ≤ sizeLine; decide), fun T hT => ?_⟩
      have s3 : Same H2 (upd H2 T (.tup [.ref la, .ref sa])) := Same.new hT
      exact k _ T la sa L S ((s1.trans s2).trans s3) upd_same (hL.same (s2.trans s3)) (hS.same (s2.trans s3)) I h0
    · have e : (!decide (V.int (Uni.dot rn S) = V.int 0)) = true := by simp [h0]
      rw [e]
      show ∃ N : L2.St → Hp → Prop, _
      obtain ⟨f1, f2⟩ := pair_fit I hC hM h0
      obtain ⟨J, hlt⟩ := I.round h0
      refine ⟨fun σ' H' => ∃ m', m' < (Uni.dot rn S).natAbs ∧ ∃ (la sa : Addr) (L S : Uni.Row) (v3 v4 : Option V), σ' = [some (.ref la), some (.ref sa), some (.ref n), v3, v4] ∧ m' = (Uni.dot rn S).natAbs ∧ Same H H' ∧ RowAt H' la L ∧ RowAt H' sa S ∧ Uf.PairInv rn ra rb C M L S,
        fun σ' H' h => h, ?_⟩
      refine ⟨_, rfl, _, rfl, n, la, rn, L, rfl, (hn.same (s1.trans s2)).sq, (hL.same s2).sq, size6 hn6, big, fun H3 s3 => ?_⟩
      refine ⟨_, rfl, _, rfl, n, sa, rn, S, rfl, (hn.same ((s1.trans s2).trans s3)).sq, (hS.same (s2.trans s3)).sq, size6 hn6, big, fun H4 s4 => ?_⟩
      refine ⟨_, _, rfl, rfl, ⟨h0, f1⟩, ?_⟩
      have s24 := (s2.trans s3).trans s4
      refine ⟨_, rfl, _, rfl, _, rfl, _, rfl, la, sa, L, S, _, rfl, (hL.same s24).sq, (hS.same s24).sq, size6 I.lenL, f2, fun D H5 hD s5 h5 => ?_⟩
      refine ⟨_, rfl, _, rfl, ?_⟩
      exact ⟨_, hlt, sa, D, S, _, _, _, rfl, rfl, s1.trans (s24.trans s5), hS.same (s24.trans s5), h5, J⟩
end
end Ug

set_option Elab.async false
set_option linter.all false
set_option maxRecDepth 100000
set_option maxHeartbeats 2000000
namespace Ug
open PySem PySem.Spec PyProof.Rows L2
abbrev sSteps : Stmt := top 33
section
variable {P : Program} {w : World} {K : PySem.W.Frag} {mg : Str → Option Value} {base : Heap}
abbrev DPair (P : Program) (w : World) (K : PySem.W.Frag) (mg : Str → Option Value) (base : Heap) : Prop := Def P w K mg base 2 "parted_pair" ["lead", "step", "names"] spPair
abbrev Xof (m : Nat) : Nat := 2 ^ Uf.Ex m
theorem Xof_pos (m : Nat) : 1 ≤ Xof m := Nat.pow_pos (by decide)
/-- parted_steps(steps, names) -/
def spSteps : Sp := fun vs H Q _ => ∃ (a n : Addr) (rs : List Uni.Row) (rn : Uni.Row), vs = [.ref a, .ref n] ∧ RowsAt H a rs ∧ RowAt H n rn ∧ rn.length = 6 ∧ Uf.Bd 12 rn ∧ Uf.All6 rs ∧ rs.length ≤ 6 ∧ (∀ r ∈ rs, Uf.Bd (Xof rs.length) r) ∧
  ∀ (H' : Hp) (T la ia : Addr) (lead : Uni.Row) (idle : List Uni.Row), Same H H' → H' T = some (.tup [.ref la, .ref ia]) → RowAt H' la lead → RowsAt H' ia idle → H ia = none → Uf.PartInv rn (Xof rs.length) rs lead idle → Q (.ref T) H'
theorem scSteps : FnScope ["steps", "names", "lead", "idle", "step", "pair"] ["steps", "names"] (defScope sSteps) := sc_of (by decide +kernel)
theorem ne_nil6 {r : Uni.Row} (h : r.length = 6) : r ≠ [] := by intro e; rw [e] at h; simp at h
theorem part_small {m k : Nat} (h6 : m ≤ 6) (hk : k < m) : 288 * Xof m * ((288 * Xof m) ^ (k - 1) * Xof m) < 2 ^ 7000 ∧ 72 * ((288 * Xof m) ^ (k - 1) * Xof m) < 2 ^ 7000 ∨ k = 0 := by
  rcases Nat.eq_zero_or_pos k with h | h
  · exact .inr h
  · refine .inl ?_
    have up : ∀ m n : Nat, m ≤ n → (2 : Nat) ^ m ≤ 2 ^ n := fun m n h => Nat.pow_le_pow_right (by decide) h
    have f1 := Uf.part_fit (m := m) (k := k) (by omega) h6 (by omega)
    have f2 := Uf.part_fit (m := m) (k := k - 1) (by omega) h6 (by omega)
    have e : 288 * Xof m * ((288 * Xof m) ^ (k - 1) * Xof m) = (288 * Xof m) ^ k * Xof m := by
      rw [← Nat.mul_assoc, Nat.mul_comm (288 * Xof m), ← Nat.pow_succ]
      congr 2; omega
    have g : (2 : Nat) ^ Uf.Ex (m - 1) ≤ 2 ^ 6471 := up _ _ (Uf.Ex_most _)
    have g2 : (2 : Nat) ^ 6480 ≤ 2 ^ 7000 := up _ _ (by decide)
    have g3 : (2 : Nat) ^ 6480 = 512 * 2 ^ 6471 := by rw [show 6480 = 9 + 6471 from rfl, Nat.pow_add]
    have g4 : 0 < (2 : Nat) ^ 6471 := Nat.pow_pos (by decide)
    rw [e]
    generalize (288 * Xof m) ^ k * Xof m = u at *
    generalize (288 * Xof m) ^ (k - 1) * Xof m = v at *
    generalize (2 : Nat) ^ 6471 = z at *
    generalize (2 : Nat) ^ 7000 = z2 at *
    generalize (2 : Nat) ^ 6480 = z3 at *
    omega
theorem ok_steps {f : Addr} {fd : FuncData} (F : Fun K "parted_steps" "parted_steps" sSteps f fd) (T : Txt mg) (d1 : DProduct P w K mg base) (d2 : DPair P w K mg base) : FnOk P w K mg base CX0 3 f fd ["steps", "names"] spSteps := by
  refine F.ok scSteps (fun vs H Q E h => ?_) (fun cdv A outer s H vs Q E hr h => ?_)
  · obtain ⟨a, n, rs, rn, rfl, _⟩ := h
    rfl
  · obtain ⟨a, n, rs, rn, rfl, ⟨as, hA, hR⟩, hn, hn6, hn12, h6, hfew, hbd, k⟩ := h
    have hr1 : Room 1 _ := hr.mono (by decide)
    refine ⟨_, pss_cons (ps_set (i := 2) scSteps.nd rfl (Or.inl rfl) (pe_op op_rep (pe_lst (pa_cons pe_int pa_nil)) (pe_num rfl T.cNames)))
      (pss_cons (ps_set (i := 3) scSteps.nd rfl (Or.inl rfl) (pe_lst pa_nil))
      (pss_cons (ps_for PassesOwn.never rfl (pi_list (pv 0)) (pg_name (i := 4) scSteps.nd rfl (Or.inl rfl))
        (pss_one (ps_if (pt_cmpR op_eq (pe_def d1 hr1 rfl (pa_cons (pv 1) (pa_cons (pv 4) pa_nil))) pe_int (nomark _))
          (pss_one (ps_expr (pe_bm PySem.F.plainAttrs_list PySem.F.slot_list_append PySem.F.type_list_append mt_append (pv 3) (pa_cons (pv 4) pa_nil))))
          (pss_one (ps_if (pt_cmpR op_eq (pe_def d1 hr1 rfl (pa_cons (pv 1) (pa_cons (pv 2) pa_nil))) pe_int (nomark _))
            (pss_one (ps_set (i := 2) scSteps.nd rfl (Or.inl rfl) (pv 4)))
            (pss_cons (ps_set (i := 5) scSteps.nd rfl (Or.inl rfl) (pe_def d2 hr rfl (pa_cons (pv 2) (pa_cons (pv 4) (pa_cons (pv 1) pa_nil)))))
            (pss_cons (ps_set (i := 2) scSteps.nd rfl (Or.inl rfl) (pe_ix ix_tup (pv 5) pe_int (fun _ _ => rfl)))
            (pss_one (ps_expr (pe_bm PySem.F.plainAttrs_list PySem.F.slot_list_append PySem.F.type_list_append mt_append (pv 3) (pa_cons (pe_ix ix_tup (pv 5) pe_int (fun _ _ => rfl)) pa_nil)))))))))))
      (pss_one (ps_ret (pe_tup (pa_cons (pv 2) (pa_cons (pv 3) pa_nil))))))), ?_⟩
    have big : ∀ x ∈ rn, x.natAbs < 2 ^ 64 := fun x hx => pow64 (hn12 x hx)
    refine ⟨(by show 1 ≤ sizeLine; decide), fun l hl => ?_⟩
    refine ⟨l, 6, _, rfl, rfl, upd_same, by decide, by decide, (by show 1 * 6 ≤ sizeLine; decide), fun l2 hl2 => ?_⟩
    refine ⟨Nat.zero_le _, fun l3 hl3 => ?_⟩
    -- the heap ahead of the loop
    have s0 : Same H (upd (upd (upd H l (.lst [.int 0])) l2 (.lst (iV Uf.z6))) l3 (.lst [])) := by
      have t1 : Same H (upd H l (.lst [.int 0])) := Same.new hl
      have t2 : Same (upd H l (.lst [.int 0])) (upd (upd H l (.lst [.int 0])) l2 (.lst (iV Uf.z6))) := Same.new hl2
      exact (t1.trans t2).trans (Same.new hl3)
    have hl3' : H l3 = none := by
      have t1 : Same H (upd H l (.lst [.int 0])) := Same.new hl
      have t2 : Same (upd H l (.lst [.int 0])) (upd (upd H l (.lst [.int 0])) l2 (.lst (iV Uf.z6))) := Same.new hl2
      exact (t1.trans t2).free hl3
    refine ⟨_, rfl, a, rfl, ⟨_, SqL.of (s0 _ _ hA)⟩, for_list (K := K) (a := a) (xs := as.map V.ref)
      (fun i σ H' => ∃ (la ia : Addr) (lead : Uni.Row) (idle : List Uni.Row) (v4 v5 : Option V), σ = [some (.ref a), some (.ref n), some (.ref la), some (.ref ia), v4, v5] ∧ Same H H' ∧ RowAt H' la lead ∧ RowsAt H' ia idle ∧ H ia = none ∧ Uf.PartInv rn (Xof rs.length) (rs.take i) lead idle)
      ⟨l2, l3, Uf.z6, [], none, none, rfl, s0, ?_, ⟨[], upd_same, .nil⟩, hl3', Uf.PartInv.start _ _⟩ (fun i σ H' _ ⟨_, _, _, _, _, _, _, s1, _⟩ => SqL.of (s1 _ _ hA)) ?_ ?_⟩
    · have : l2 ≠ l3 := ne_of_none (H := upd (upd H l (.lst [.int 0])) l2 (.lst (iV Uf.z6))) upd_same hl3
      show upd _ _ _ _ = _
      rw [upd_ne this]
      exact upd_same
    · rintro i y σ H' hi ⟨la, ia, lead, idle, v4, v5, rfl, s1, hL, ⟨ias, hI, hIR⟩, hia, I⟩
      obtain ⟨sa, hsa, rfl⟩ : ∃ sa, as[i]? = some sa ∧ y = V.ref sa := by
        rw [List.getElem?_map] at hi
        cases e : as[i]? with
        | none => rw [e] at hi; cases hi
        | some z => rw [e] at hi; exact ⟨z, rfl, (Option.some.inj hi).symm⟩
      obtain ⟨r, hr_, hrow⟩ := hR.get hsa
      have hmem : r ∈ rs := List.mem_of_getElem? hr_
      have hr6 : r.length = 6 := h6 r hmem
      have hrX := hbd r hmem
      have hlen : i < rs.length := (List.getElem?_eq_some_iff.mp hr_).1
      have htl : (rs.take i).length = i := by rw [List.length_take]; omega
      have etake : rs.take (i + 1) = rs.take i ++ [r] := take_snoc hr_
      have hidl := hIR.length
      have hpl : idle.length ≤ i := by
        by_cases h0 : Uni.dot rn lead = 0
        · rw [(I.none_ h0).2, htl]; exact Nat.le_refl _
        · have := I.some_ h0; rw [htl] at this; omega
      have small : (ias.map V.ref).length < sizeLine := by
        rw [List.length_map]
        exact Nat.lt_of_le_of_lt (show ias.length ≤ 6 by omega) (by decide)
      have idne : ∀ r ∈ idle, r ≠ [] := fun r hr => ne_nil6 (I.six r (by simp [hr]))
      refine ⟨_, rfl, _, rfl, n, sa, rn, r, rfl, (hn.same s1).sq, (hrow.same s1).sq, size6 hn6, big, fun H2 s2 => ?_⟩
      refine ⟨rfl, _, rfl, ite2 (fun h0 => ?_) (fun h0 => ?_)⟩
      · -- a step that stays
        have e0 : Uni.dot rn r = 0 := by simpa using h0
        have hI2 := s2 _ _ hI
        refine ⟨_, rfl, .inl ⟨rfl, _, SqL.of hI2⟩, _, rfl, ia, _, _, rfl, rfl, hI2, small, ?_⟩
        have hrow2 : RowAt H2 sa r := hrow.same (s1.trans s2)
        refine ⟨la, ia, lead, idle ++ [r], _, _, rfl, Same.updR hia (s1.trans s2), ?_, ⟨ias ++ [sa], ?_, ?_⟩, hia, ?_⟩
        · show upd _ _ _ _ = _
          rw [upd_ne (row_ne (hL.same s2) (ne_nil6 I.six.head) hI2)]
          exact hL.same s2
        · rw [upd_same, List.map_append]; rfl
        · refine (hIR.same s2 |>.upd hI2 idne).snoc ?_
          show upd _ _ _ _ = _
          rw [upd_ne (row_ne hrow2 (ne_nil6 hr6) hI2)]
          exact hrow2
        · rw [etake]
          exact I.idle (Xof_pos _) hr6 hrX e0
      · have e0 : Uni.dot rn r ≠ 0 := by simpa using h0
        refine ⟨_, rfl, _, rfl, n, la, rn, lead, rfl, (hn.same (s1.trans s2)).sq, (hL.same s2).sq, size6 hn6, big, fun H3 s3 => ?_⟩
        refine ⟨rfl, _, rfl, ite2 (fun h1 => ?_) (fun h1 => ?_)⟩
        · -- the first that goes
          have e1 : Uni.dot rn lead = 0 := by simpa using h1
          refine ⟨_, rfl, ?_⟩
          refine ⟨sa, ia, r, idle, _, _, rfl, (s1.trans s2).trans s3, hrow.same ((s1.trans s2).trans s3), ⟨ias, s3 _ _ (s2 _ _ hI), hIR.same (s2.trans s3)⟩, hia, ?_⟩
          rw [etake]
          exact I.first (Xof_pos _) hr6 hrX e0 e1
        · -- another: parted with the lead
          have e1 : Uni.dot rn lead ≠ 0 := by simpa using h1
          have J := I.pair (Xof_pos _) hr6 hrX e1 hn6 hn12
          have hk := I.some_ e1
          have fit := part_small (m := rs.length) (k := i) hfew hlen
          rw [htl] at hk J
          have fit' := fit.resolve_right (by omega)
          have s13 := (s1.trans s2).trans s3
          refine ⟨_, rfl, _, rfl, _, rfl, la, sa, n, lead, r, rn, _, _, rfl, hL.same (s2.trans s3), hrow.same s13, hn.same s13, hn6, hn12, J, fit'.1, fit'.2, fun H4 T' la' sa' L S s4 hT hL' hS' J' hS0 => ?_⟩
          refine ⟨_, rfl, T', _, 0, _, rfl, rfl, SqT.of hT, rfl, ?_⟩
          have hI4 := s4 _ _ (s3 _ _ (s2 _ _ hI))
          refine ⟨_, rfl, .inl ⟨rfl, _, SqL.of hI4⟩, _, rfl, T', _, 1, _, rfl, rfl, SqT.of hT, rfl, ia, _, _, rfl, rfl, hI4, small, ?_⟩
          refine ⟨la', ia, L, idle ++ [S], _, _, rfl, Same.updR hia (s13.trans s4), ?_, ⟨ias ++ [sa'], ?_, ?_⟩, hia, ?_⟩
          · show upd _ _ _ _ = _
            rw [upd_ne (row_ne hL' (ne_nil6 J'.lenL) hI4)]
            exact hL'
          · rw [upd_same, List.map_append]; rfl
          · refine (hIR.same ((s2.trans s3).trans s4) |>.upd hI4 idne).snoc ?_
            show upd _ _ _ _ = _
            rw [upd_ne (row_ne hS' (ne_nil6 J'.lenS) hI4)]
            exact hS'
          · rw [etake]
            exact I.next (Xof_pos _) hr6 hrX e1 (by rw [htl]; exact J') hS0
    · rintro σ H' ⟨la, ia, lead, idle, v4, v5, rfl, s1, hL, hI, hia, I⟩
      have hlen : (as.map V.ref).length = rs.length := by rw [List.length_map]; exact hR.length
      rw [hlen, List.take_length] at I
      refine ⟨_, rfl, _, rfl, (by show 2 ≤ sizeLine; decide), fun T' hT => ?_⟩
      have s3 : Same H' (upd H' T' (.tup [.ref la, .ref ia])) := Same.new hT
      exact k _ T' la ia lead idle (s1.trans s3) upd_same (hL.same s3) (hI.same s3) hia I
end
end Ug

set_option Elab.async false
set_option linter.all false
set_option maxRecDepth 100000
set_option maxHeartbeats 2000000
namespace Ug
open PySem PySem.Spec PyProof.Rows L2
abbrev sTimes : Stmt := top 34
abbrev sWInit : Stmt := inClass (top 25) 0
abbrev sLine : Stmt := top 35
section
variable {P : Program} {w : World} {K : PySem.W.Frag} {mg : Str → Option Value} {base : Heap} {CW : Addr}
abbrev DSteps (P : Program) (w : World) (K : PySem.W.Frag) (mg : Str → Option Value) (base : Heap) : Prop := Def P w K mg base 3 "parted_steps" ["steps", "names"] spSteps
def optV : Option Int → V
  | none => .non
  | some t => .int t
/-- times_needed(change, missing) -/
def spTimes : Sp := fun vs H Q _ => ∃ (c m : Int), vs = [.int c, .int m] ∧ (c ≠ 0 → c.natAbs.log2 < 9000) ∧ Q (optV (Uf.tn c m)) H
abbrev DTimes (P : Program) (w : World) (K : PySem.W.Frag) (mg : Str → Option Value) (base : Heap) : Prop := Def P w K mg base 1 "times_needed" ["change", "missing"] spTimes
theorem scTimes : FnScope ["change", "missing"] ["change", "missing"] (defScope sTimes) := sc_of (by decide +kernel)
theorem ok_times {f : Addr} {fd : FuncData} (F : Fun K "times_needed" "times_needed" sTimes f fd) : FnOk P w K mg base CX0 1 f fd ["change", "missing"] spTimes := by
  refine F.ok scTimes (fun vs H Q E h => ?_) (fun cdv A outer s H vs Q E hr h => ?_)
  · obtain ⟨c, m, rfl, _⟩ := h
    rfl
  · obtain ⟨c, m, rfl, hc, k⟩ := h
    refine ⟨_, pss_cons (ps_if (pt_cmpR op_eq (pv 0) pe_int (nomark _)) (pss_one (ps_ret (pe_ifExp (pt_cmpR op_eq (pv 1) pe_int (nomark _)) pe_int pe_non))) pss_nil)
      (pss_one (ps_ret (pe_ifExp (pt_cmpR op_eq (pe_op op_modN (pv 1) (pv 0)) pe_int (nomark _)) (pe_op op_fdivB (pv 1) (pv 0)) pe_non))), ?_⟩
    refine ⟨_, rfl, rfl, _, rfl, ite2 (fun h0 => ?_) (fun h0 => ?_)⟩
    · have e0 : c = 0 := by simpa using h0
      refine ⟨_, rfl, rfl, _, rfl, ite2 (fun h1 => ?_) (fun h1 => ?_)⟩
      · have e1 : m = 0 := by simpa using h1
        have e : Uf.tn c m = some 0 := by unfold Uf.tn; rw [if_pos e0, if_pos e1]
        rw [e] at k
        exact k
      · have e1 : ¬ m = 0 := by simpa using h1
        have e : Uf.tn c m = none := by unfold Uf.tn; rw [if_pos e0, if_neg e1]
        rw [e] at k
        exact k
    · have e0 : ¬ c = 0 := by simpa using h0
      refine ⟨_, rfl, _, rfl, m, c, rfl, rfl, e0, rfl, _, rfl, ite2 (fun h1 => ?_) (fun h1 => ?_)⟩
      · have e1 : m.fmod c = 0 := by simpa using h1
        have e : Uf.tn c m = some (m.fdiv c) := by unfold Uf.tn; rw [if_neg e0, if_pos e1]
        rw [e] at k
        exact ⟨_, rfl, _, rfl, m, c, rfl, rfl, ⟨e0, hc e0⟩, k⟩
      · have e1 : ¬ m.fmod c = 0 := by simpa using h1
        have e : Uf.tn c m = none := by unfold Uf.tn; rw [if_neg e0, if_neg e1]
        rw [e] at k
        exact k
/-! the class Ways -/
def wf (sa ta : Addr) : List (Str × V) := [("starts", .ref sa), ("steps", .ref ta)]
def spWInit (CW : Addr) : Sp := fun vs H Q _ => ∃ (p dx sa ta : Addr), vs = [.ref p, .ref sa, .ref ta] ∧ H p = some (.ins CW dx []) ∧ ∀ H' : Hp, H' p = some (.ins CW dx (wf sa ta)) → (∀ b o, H b = some o → b ≠ p → H' b = some o) → Q .non H'
theorem scWInit : FnScope ["self", "starts", "steps"] ["self", "starts", "steps"] (defScope sWInit) := sc_of (by decide +kernel)
theorem ok_winit {f : Addr} {fd : FuncData} (F : Fun K "__init__" "Ways.__init__" sWInit f fd) (T : TxtW K mg CW) : FnOk P w K mg base CX0 1 f fd ["self", "starts", "steps"] (spWInit CW) := by
  refine F.ok scWInit (fun vs H Q E h => ?_) (fun cdv A outer s H vs Q E hr h => ?_)
  · obtain ⟨p, dx, sa, ta, rfl, _⟩ := h
    rfl
  · obtain ⟨p, dx, sa, ta, rfl, hp, k⟩ := h
    refine ⟨_, pss_cons (ps_fld (pv 0) (pv 1) rfl) (pss_one (ps_fld (pv 0) (pv 2) rfl)), ?_⟩
    refine ⟨_, rfl, _, rfl, p, CW, dx, [], rfl, hp, T.cl, T.nS, (by show 0 < 1000; decide), ?_⟩
    refine ⟨_, rfl, _, rfl, p, CW, dx, _, rfl, upd_same, T.cl, T.nT, (by show 1 < 1000; decide), ?_⟩
    refine k _ ?_ fun b o e hb => by rw [upd_ne hb, upd_ne hb]; exact e
    rw [upd_same]
    rfl
/-- a constructor of the text -/
def Maker (P : Program) (w : World) (K : PySem.W.Frag) (mg : Str → Option Value) (base : Heap) (k : Nat) (x : Str) (C : Addr) (ps : List Str) (sp : Sp) : Prop :=
  ∃ (f : Addr) (fd : FuncData), FnOk P w K mg base CX0 k f fd ps sp ∧ Mk K C f ∧ mg x = some (.ref C) ∧ Binds K fd ps []
theorem pe_new {X : Cx} {k : Nat} {x : Str} {C : Addr} {ps : List Str} {sp : Sp} {p pos : Pos} {e : Expr} {es : List Expr} {t : TA} (D : Maker X.prog X.w X.K X.mg X.base k x C ps sp) (hr : Room (k + 1) X.A) (hg : Gl X x) (ha : PA X (e :: es) t)
    (hdb : (x == ("__debug__" : Str)) = false := by decide) (he : starEach (e :: es) X.env = (false, eval e X.env) :: starEach es X.env := by rfl) (hpl : (backTo pos (starEach es X.env)).any (·.1) = false := by rfl) :
    PE X (.Call (.Name x p) (e :: es) [] pos) (tMake C sp [] E0 t) := by
  obtain ⟨f, fd, F, M, m, b⟩ := D
  exact pe_make M F hr hg m b .nil pass0 ha hdb he hpl
abbrev DWays (P : Program) (w : World) (K : PySem.W.Frag) (mg : Str → Option Value) (base : Heap) (CW : Addr) : Prop := Maker P w K mg base 1 "Ways" CW ["self", "starts", "steps"] (spWInit CW)
/-- ways that stand at a -/
def WaysAt (CW : Addr) (H : Hp) (a sa ta : Addr) : Prop := ∃ dx, H a = some (.ins CW dx (wf sa ta))
theorem WaysAt.same {H H' : Hp} {a sa ta : Addr} (h : WaysAt CW H a sa ta) (s : Same H H') : WaysAt CW H' a sa ta := let ⟨dx, e⟩ := h; ⟨dx, s _ _ e⟩
/-- ways_with_line(ways, line) -/
def spLine (CW : Addr) : Sp := fun vs H Q _ => ∃ (wa ln sa ta : Addr) (starts steps : List Uni.Row) (line : Uni.Row), vs = [.ref wa, .ref ln] ∧ WaysAt CW H wa sa ta ∧ RowsAt H sa starts ∧ RowsAt H ta steps ∧ RowAt H ln line ∧ line.length = 13 ∧ Uf.Bd 12 line ∧ Uf.Good starts steps ∧ Uf.SizeOk starts steps ∧
  (∀ H', Same H H' → Uf.LineNo (line.take 6) (line.drop 6) starts steps → Q .non H') ∧
  (∀ (H' : Hp) (wa' sa' ta' : Addr) (starts' steps' : List Uni.Row), Same H H' → H wa' = none → H sa' = none → H ta' = none → WaysAt CW H' wa' sa' ta' → RowsAt H' sa' starts' → RowsAt H' ta' steps' →
    Uf.LineYes (line.take 6) (line.drop 6) starts steps starts' steps' → Uf.SizeOk starts' steps' → Q (.ref wa') H')
abbrev nLine : List Str := ["ways", "line", "names", "parted", "lead", "change", "starts", "start", "known", "times"]
theorem scLine : FnScope nLine ["ways", "line"] (defScope sLine) := sc_of (by decide +kernel)
theorem gd_of {l : List Uni.Row} {b : Nat} {r : Uni.Row} (h : l[b]? = some r) : Uf.gd l b = r := by
  unfold Uf.gd
  rw [List.getD_eq_getElem?_getD, h]
  rfl
theorem at_of_get {l : Uni.Row} {b : Nat} {x : Int} (h : l[b]? = some x) : Uni.at_ l b = x := by
  unfold Uni.at_
  rw [List.getD_eq_getElem?_getD, h]
  rfl
/-- the numbers of a line are not too long -/
theorem line_fit {n e lead : Uni.Row} {starts steps idle : List Uni.Row} (Z : Uf.SizeOk starts steps) (hn6 : n.length = 6) (hn12 : Uf.Bd 12 n) (he12 : Uf.Bd 12 e) (I : Uf.PartInv n (Xof steps.length) steps lead idle) :
    (Uni.dot n lead ≠ 0 → (Uni.dot n lead).natAbs.log2 < 9000) ∧ ∀ b t, Uf.tn (Uni.dot n lead) (Uf.missing n e starts b) = some t → ∀ y ∈ lead, IntMulOk t y := by
  have up : ∀ m n : Nat, m ≤ n → (2 : Nat) ^ m ≤ 2 ^ n := fun m n h => Nat.pow_le_pow_right (by decide) h
  have hlead : Uf.Bd (2 ^ 6471) lead := by
    by_cases h0 : Uni.dot n lead = 0
    · rw [(I.none_ h0).1]
      exact Uf.Bd.z6 _
    · have hm := I.some_ h0
      refine (I.bd lead (by simp)).mono (Nat.le_trans (Uf.part_fit (m := steps.length) (k := steps.length - 1) (by omega) Z.few (Nat.le_refl _)) (up _ _ (Uf.Ex_most _)))
  have e1 : (2 : Nat) ^ 6480 = 512 * 2 ^ 6471 := by rw [show 6480 = 9 + 6471 from rfl, Nat.pow_add]
  have p1 : 0 < (2 : Nat) ^ 6471 := Nat.pow_pos (by decide)
  refine ⟨fun h0 => ?_, fun b t ht y hy => ?_⟩
  · have h1 := Uf.dot_bd72 hn6 hn12 hlead
    refine Nat.lt_of_lt_of_le (log2_of (m := 6480) (by decide) ?_) (by decide)
    rw [e1]
    generalize (2 : Nat) ^ 6471 = z at *
    omega
  · have h1 := (Uf.tn_some ht).2
    have h2 := Uf.missing_bd hn6 hn12 he12 Z.bdS b
    have h3 : (2 : Nat) ^ Uf.Dx steps.length ≤ 2 ^ 17598 := up _ _ (Uf.Dx_most _)
    have e2 : (2 : Nat) ^ 17607 = 512 * 2 ^ 17598 := by rw [show 17607 = 9 + 17598 from rfl, Nat.pow_add]
    have p2 : 0 < (2 : Nat) ^ 17598 := Nat.pow_pos (by decide)
    refine mulOk_of (m := 17607) (n := 6480) ?_ ?_ (by decide)
    · rw [e2]
      generalize (2 : Nat) ^ 17598 = z at *
      generalize (2 : Nat) ^ Uf.Dx steps.length = z2 at *
      omega
    · have := hlead y hy
      rw [e1]
      generalize (2 : Nat) ^ 6471 = z at *
      omega
theorem ok_line {f : Addr} {fd : FuncData} (F : Fun K "ways_with_line" "ways_with_line" sLine f fd) (T : Txt mg) (TW : TxtW K mg CW) (d1 : DProduct P w K mg base) (d2 : DWith P w K mg base) (d3 : DSteps P w K mg base) (d4 : DTimes P w K mg base) (d5 : DWays P w K mg base CW) :
    FnOk P w K mg base CX0 4 f fd ["ways", "line"] (spLine CW) := by
  refine F.ok scLine (fun vs H Q E h => ?_) (fun cdv A outer s H vs Q E hr h => ?_)
  · obtain ⟨wa, ln, sa, ta, starts, steps, line, rfl, _⟩ := h
    rfl
  · obtain ⟨wa, ln, sa, ta, starts, steps, line, rfl, ⟨dx, hwa⟩, hsa, hta, hln, hl13, hl12, G, Z, kno, kyes⟩ := h
    have hr1 : Room 1 _ := hr.mono (by decide)
    have hr2 : Room 2 _ := hr.mono (by decide)
    refine ⟨_, pss_cons (ps_set (i := 2) scLine.nd rfl (Or.inl rfl) (pe_slice sl_list (pv 1) po_none (po_some (pe_num rfl T.cNames))))
      (pss_cons (ps_set (i := 3) scLine.nd rfl (Or.inl rfl) (pe_def d3 hr rfl (pa_cons (pe_fld (pv 0) rfl) (pa_cons (pv 2) pa_nil))))
      (pss_cons (ps_set (i := 4) scLine.nd rfl (Or.inl rfl) (pe_ix ix_tup (pv 3) pe_int (fun _ _ => rfl)))
      (pss_cons (ps_set (i := 5) scLine.nd rfl (Or.inl rfl) (pe_def d1 hr1 rfl (pa_cons (pv 2) (pa_cons (pv 4) pa_nil))))
      (pss_cons (ps_set (i := 6) scLine.nd rfl (Or.inl rfl) (pe_lst pa_nil))
      (pss_cons (ps_for PassesOwn.never rfl (pi_zip rfl T.nZip (pa_cons (pe_fld (pv 0) rfl) (pa_cons (pe_slice sl_list (pv 1) (po_some (pe_num rfl T.cNames)) po_none) pa_nil)))
        (pg_tup rfl (pgs_cons (pg_name (i := 7) scLine.nd rfl (Or.inl rfl)) (pgs_cons (pg_name (i := 8) scLine.nd rfl (Or.inl rfl)) pgs_nil)))
        (pss_cons (ps_set (i := 9) scLine.nd rfl (Or.inl rfl) (pe_def d4 hr1 rfl (pa_cons (pv 5) (pa_cons (pe_op op_sub (pe_un un_neg (pv 8)) (pe_def d1 hr1 rfl (pa_cons (pv 2) (pa_cons (pv 7) pa_nil)))) pa_nil))))
        (pss_cons (ps_if (pt_cmpR op_isN (pv 9) pe_non (nomark _)) (pss_one (ps_ret pe_non)) pss_nil)
        (pss_one (ps_expr (pe_bm PySem.F.plainAttrs_list PySem.F.slot_list_append PySem.F.type_list_append mt_append (pv 6) (pa_cons (pe_def d2 hr1 rfl (pa_cons (pv 7) (pa_cons (pv 9) (pa_cons (pv 4) pa_nil)))) pa_nil)))))))
      (pss_one (ps_ret (pe_new d5 hr2 rfl (pa_cons (pv 6) (pa_cons (pe_ix ix_tup (pv 3) pe_int (fun _ _ => rfl)) pa_nil)))))))))), ?_⟩
    have hn6 : (line.take 6).length = 6 := by rw [List.length_take, hl13]; rfl
    have hn12 : Uf.Bd 12 (line.take 6) := fun x hx => hl12 x (List.mem_of_mem_take hx)
    have he12 : Uf.Bd 12 (line.drop 6) := fun x hx => hl12 x (List.mem_of_mem_drop hx)
    have he7 : (line.drop 6).length = 7 := by rw [List.length_drop, hl13]
    have big : ∀ x ∈ line.take 6, x.natAbs < 2 ^ 64 := fun x hx => pow64 (hn12 x hx)
    -- names = line[:NAMES]
    refine ⟨_, rfl, 6, rfl, ln, _, rfl, SqL.of hln, fun na hna => ?_⟩
    have s1 : Same H (upd H na (.lst (cutV (iV line) none (some 6)))) := Same.new hna
    have hna1 : RowAt (upd H na (.lst (cutV (iV line) none (some 6)))) na (line.take 6) := by
      show _ = _
      rw [upd_same, show cutV (iV line) none (some 6) = iV (line.take 6) from cut_head (n := 6) (by omega)]
    -- parted = parted_steps(ways.steps, names)
    refine ⟨_, rfl, wa, CW, dx, _, _, rfl, s1 _ _ hwa, TW.cl, TW.nT, rfl, _, rfl, ta, na, steps, line.take 6, rfl, hta.same s1, hna1, hn6, hn12, G.sixS, Z.few, Z.bdT, fun H2 pt la ia lead idle s2 hpt hla hia nia I => ?_⟩
    have s12 := s1.trans s2
    have hna2 : RowAt H2 na (line.take 6) := s2 _ _ hna1
    have nia' : H ia = none := s1.free nia
    -- lead = parted[0]; change = product(names, lead); starts = []
    refine ⟨_, rfl, pt, _, 0, _, rfl, rfl, SqT.of hpt, rfl, ?_⟩
    refine ⟨_, rfl, _, rfl, na, la, _, lead, rfl, hna2.sq, hla.sq, size6 hn6, big, fun H3 s3 => ?_⟩
    refine ⟨Nat.zero_le _, fun ss hss => ?_⟩
    have s13 := s12.trans s3
    have hss0 : H ss = none := s13.free hss
    have s34 : Same H3 (upd H3 ss (.lst [])) := Same.new hss
    -- the loop
    refine ⟨_, rfl, wa, CW, dx, _, _, rfl, s34 _ _ (s13 _ _ hwa), TW.cl, TW.nS, rfl, _, rfl, 6, rfl, ln, _, rfl, SqL.of (s34 _ _ (s13 _ _ hln)), fun ka hka => ?_⟩
    have hka1 : RowAt (upd (upd H3 ss (.lst [])) ka (.lst (cutV (iV line) (some 6) none))) ka (line.drop 6) := by
      show _ = _
      rw [upd_same, show cutV (iV line) (some 6) none = iV (line.drop 6) from cut_tail (n := 6) (by omega)]
    obtain ⟨sas, hsl, hsr⟩ := hsa
    have hslen := hsr.length
    have nks : ka ≠ ss := (ne_of_none (H := upd H3 ss (.lst [])) upd_same hka).symm
    have s45 : Same (upd H3 ss (.lst [])) (upd (upd H3 ss (.lst [])) ka (.lst (cutV (iV line) (some 6) none))) := Same.new hka
    have s35 : Same H3 (upd (upd H3 ss (.lst [])) ka (.lst (cutV (iV line) (some 6) none))) := s34.trans s45
    have hne7 : line.drop 6 ≠ [] := by intro e; rw [e] at he7; simp at he7
    obtain ⟨fit1, fit2⟩ := line_fit Z hn6 hn12 he12 I
    refine ⟨sa, ka, sas.map V.ref, iV (line.drop 6), rfl, SqL.of (s35 _ _ (s13 _ _ hsl)), hka1.sq, for_zip (K := K) (a := sa) (b := ka) (xs := sas.map V.ref) (ys := iV (line.drop 6))
      (fun i σ H' => ∃ (acc : List Uni.Row) (v7 v8 v9 : Option V), σ = [some (.ref wa), some (.ref ln), some (.ref na), some (.ref pt), some (.ref la), some (.int (Uni.dot (line.take 6) lead)), some (.ref ss), v7, v8, v9] ∧ Same H3 H' ∧ RowAt H' ka (line.drop 6) ∧ RowsAt H' ss acc ∧ acc.length = i ∧
        ∀ b, b < i → ∃ k, Uf.tn (Uni.dot (line.take 6) lead) (Uf.missing (line.take 6) (line.drop 6) starts b) = some k ∧ acc[b]? = some (Uni.plus (Uf.gd starts b) lead k))
      ⟨[], none, none, none, rfl, s35, hka1, ⟨[], s45 _ _ upd_same, .nil⟩, rfl, fun b hb => absurd hb (Nat.not_lt_zero b)⟩
      (fun i σ H' ⟨_, _, _, _, _, s5, hk, _⟩ => ⟨SqL.of (s5 _ _ (s13 _ _ hsl)), hk.sq⟩) ?_ ?_⟩
    · rintro i x y σ H' Tu hx hy ⟨acc, v7, v8, v9, rfl, s5, hk, ⟨accs, hacc, haccr⟩, hlen, hall⟩ hTu
      obtain ⟨sta, hst, rfl⟩ : ∃ z, sas[i]? = some z ∧ x = V.ref z := by
        rw [List.getElem?_map] at hx
        cases e : sas[i]? with
        | none => rw [e] at hx; cases hx
        | some z => rw [e] at hx; exact ⟨z, rfl, (Option.some.inj hx).symm⟩
      obtain ⟨kn, hkn, rfl⟩ : ∃ z, (line.drop 6)[i]? = some z ∧ y = V.int z := by
        rw [List.getElem?_map] at hy
        cases e : (line.drop 6)[i]? with
        | none => rw [e] at hy; cases hy
        | some z => rw [e] at hy; exact ⟨z, rfl, (Option.some.inj hy).symm⟩
      obtain ⟨r, hr_, hrow⟩ := hsr.get hst
      have hr6 : r.length = 6 := G.six r (List.mem_of_getElem? hr_)
      have hi7 : i < 7 := by
        have := (List.getElem?_eq_some_iff.mp hr_).1
        rw [G.len] at this
        exact this
      have egd := gd_of hr_
      have eat := at_of_get hkn
      have s6 : Same H' (upd H' Tu (.tup [.ref sta, .int kn])) := Same.new hTu
      have s36 := s5.trans s6
      refine ⟨Tu, _, rfl, .inl (.inl upd_same), rfl, _, _, rfl, _, _, rfl, rfl, ?_⟩
      -- times
      refine ⟨_, rfl, _, rfl, _, rfl, _, rfl, _, rfl, na, sta, _, r, rfl, (hna2.same (s3.trans s36)).sq, (hrow.same (s13.trans s36)).sq, size6 hn6, big, fun H7 s7 => ?_⟩
      refine ⟨_, _, rfl, rfl, _, _, rfl, fit1, ?_⟩
      have em : -kn - Uni.dot (line.take 6) r = Uf.missing (line.take 6) (line.drop 6) starts i := by
        unfold Uf.missing
        rw [egd, eat]
      have s37 := s36.trans s7
      have s67 := s6.trans s7
      cases htn : Uf.tn (Uni.dot (line.take 6) lead) (-kn - Uni.dot (line.take 6) r) with
      | none =>
        rw [em] at htn
        refine ⟨_, rfl, rfl, _, rfl, ite2 (fun _ => ?_) (fun h => (h (by simp [optV])).elim)⟩
        exact kno _ (s13.trans s37) (Uf.line_no G I hi7 htn)
      | some t =>
        rw [em] at htn
        refine ⟨_, rfl, rfl, _, rfl, ite2 (fun h => (by simp [optV] at h)) (fun _ => ?_)⟩
        have hacc7 := s67 _ _ hacc
        refine ⟨_, rfl, .inl ⟨rfl, _, SqL.of hacc7⟩, _, rfl, _, rfl, _, rfl, sta, la, r, lead, t, rfl, (hrow.same (s13.trans s37)).sq, (hla.same (s3.trans s37)).sq, size6 hr6, fit2 i t htn, fun D H8 hD s8 h8 => ?_⟩
        have hacc8 := s8 _ _ hacc7
        refine ⟨ss, _, _, rfl, rfl, hacc8, ?_, ?_⟩
        · rw [List.length_map, haccr.length, hlen]
          exact Nat.lt_of_lt_of_le hi7 (by decide)
        · have s38 := s37.trans s8
          have s68 := s67.trans s8
          have acne : ∀ r ∈ acc, r ≠ [] := by
            intro q hq
            obtain ⟨b, hb, rfl⟩ := List.mem_iff_getElem.mp hq
            obtain ⟨k, _, e2⟩ := hall b (by omega)
            rw [List.getElem?_eq_getElem hb] at e2
            rw [Option.some.inj e2]
            refine ne_nil6 ?_
            rw [Uf.plus_length, G.gd6 (by omega), I.six.head]
            rfl
          have p6 : (Uni.plus r lead t).length = 6 := by rw [Uf.plus_length, hr6, I.six.head]; rfl
          refine ⟨acc ++ [Uni.plus r lead t], _, _, _, rfl, Same.updR hss s38, ?_, ⟨accs ++ [D], ?_, ?_⟩, ?_, ?_⟩
          · show upd _ _ _ _ = _
            rw [upd_ne (row_ne (hk.same s68) hne7 hacc8)]
            exact hk.same s68
          · rw [upd_same, List.map_append]; rfl
          · refine (haccr.same s68 |>.upd hacc8 acne).snoc ?_
            show upd _ _ _ _ = _
            rw [upd_ne (row_ne h8 (ne_nil6 p6) hacc8)]
            exact h8
          · rw [List.length_append, hlen]; rfl
          · intro b hb
            by_cases hbi : b < i
            · obtain ⟨k, e1, e2⟩ := hall b hbi
              exact ⟨k, e1, by rw [List.getElem?_append_left (by omega)]; exact e2⟩
            · have : b = i := by omega
              subst this
              refine ⟨t, htn, ?_⟩
              rw [List.getElem?_append_right (by omega), hlen, egd]
              simp
    · rintro σ H' ⟨acc, v7, v8, v9, rfl, s5, hk, hacc, hlen, hall⟩
      have emin : min (sas.map V.ref).length (iV (line.drop 6)).length = 7 := by
        rw [List.length_map, List.length_map, he7, hslen, G.len]; rfl
      rw [emin] at hlen hall
      have hall' : ∀ b, b < 7 → ∃ k, Uf.tn (Uni.dot (line.take 6) lead) (Uf.missing (line.take 6) (line.drop 6) starts b) = some k ∧ Uf.gd acc b = Uni.plus (Uf.gd starts b) lead k := fun b hb => by
        obtain ⟨k, e1, e2⟩ := hall b hb
        exact ⟨k, e1, gd_of e2⟩
      refine ⟨_, rfl, _, rfl, pt, _, 1, _, rfl, rfl, SqT.of (s5 _ _ (s3 _ _ hpt)), rfl, fun x dx' hx hdx hne => ?_⟩
      refine ⟨x, dx', ss, ia, rfl, upd_same, fun H9 h9 k9 => ⟨rfl, ?_⟩⟩
      have s9 : Same H' H9 := Same.made hx hdx k9
      refine kyes H9 x ss ia acc idle ((s13.trans s5).trans s9) ((s13.trans s5).free hx) hss0 nia' ⟨dx', h9⟩ (hacc.same s9) (hia.same ((s3.trans s5).trans s9)) (Uf.line_yes G I hlen hall') (Uf.line_size G Z hn6 hn12 he12 I hlen hall')
end
end Ug

set_option Elab.async false
set_option linter.all false
set_option maxRecDepth 100000
set_option maxHeartbeats 2000000
namespace Ug
open PySem PySem.Spec PyProof.Rows L2

/-! comprehensions of one name -/
theorem pe_lc1 {X : Cx} {x : Str} {p : Nat} {elt iter : Expr} {px pos : Pos} {scope : Scope} {wi : TI} {te : TE} (hc : X.calm = true) (hN : X.N.Nodup) (hi : PI X (.Name x px) iter wi) (ok : BlkOk X.N X.env.scope scope [(x, p)]) (lx : scope.names.lookup x = some .local)
    (he : ∀ (s : Shared) (H : Hp) (C : Addr) (cl : List (Str × Addr)) (fp : List Addr), PE (X.blk s H scope (compEnvC scope cl C X.env) fp) elt te) (hs : ∀ x, foldedSetIterable iter X.env x = pure x := by intro _; rfl) :
    PE X (.ListComp elt [⟨.Name x px, iter, [], 0⟩] scope pos) (tLc wi (gName p) tYes te [p]) := by
  refine pe_lc (own := [(x, p)]) (g := gName p) hc hN hi ok (fun s H C cl fp => ?_) (fun _ _ _ _ _ => pts_nil) he hs
  have l1 : (compEnvC scope cl C X.env).scope.names.lookup x = some .local := lookup_relabel_local lx
  exact pg_name (X := X.blk s H scope (compEnvC scope cl C X.env) fp) (i := p) hN (ok.ix (x, p) (by simp)) (Or.inl l1) (Or.inr l1)
theorem lc_map {K : PySem.W.Frag} {a : Addr} {xs : List V} {H1 : Hp} {p : Nat} {te : TE} {σ : L2.St} {Q : VK} (f : Nat → V) (ha : SqL K H1 a xs) (hz : xs.length < sizeLine)
    (he : ∀ i x, xs[i]? = some x → ∀ H2, Same H1 H2 → ∀ R : VK, (∀ H3, Same H2 H3 → R (f i) H3) → te ((wipe σ [p]).set p (some x)) H2 R)
    (hQ : ∀ D H2, H1 D = none → Same H1 H2 → H2 D = some (.lst ((List.range xs.length).map f)) → Q (.ref D) H2) :
    ∀ D, H1 D = none → ∃ W : Nat → Nat → Hp → Prop, (∃ m, W 0 m (upd H1 D (.lst []))) ∧ ∀ i m H, W i m H →
      ((Itl K a).stop i H ∧ Q (.ref D) H) ∨ ((Itl K a).go i H ∧ ∃ Nx : Hp → Prop, (∀ H', Nx H' → ∃ m', m' < m ∧ W (i + 1) m' H') ∧ ∀ x H', (Itl K a).yld i H x H' →
        gName p x (wipe σ [p]) H' fun σ2 H2 => wipe σ2 [p] = wipe σ [p] ∧ tYes σ2 H2 fun b H3 =>
          if b = true then te σ2 H3 fun y H4 => ∃ acc, H4 D = some (.lst acc) ∧ acc.length < sizeLine ∧ Nx (upd H4 D (.lst (acc ++ [y]))) else Nx H3) := by
  intro D hD
  refine lc_list (K := K) (a := a) (xs := xs) (g := gName p) (tt := tYes) (te := te) (vs := [p]) (σ := σ) (Qd := fun H => Q (.ref D) H) (fun i H => i ≤ xs.length ∧ Same H1 H ∧ H D = some (.lst ((List.range i).map f))) ⟨Nat.zero_le _, Same.new hD, upd_same⟩ (fun i H _ h => h.2.1.seq ha) ?_ (fun H h => hQ D H hD h.2.1 h.2.2)
  rintro i x H hx ⟨hi, hs, hd⟩
  refine ⟨wipe1 _, ?_⟩
  show te _ _ _
  have hlt := (List.getElem?_eq_some_iff.mp hx).1
  refine he i x hx H hs _ fun H3 h3 => ⟨_, h3 _ _ hd, ?_, hlt, Same.updR hD (hs.trans h3), ?_⟩
  · simp only [List.length_map, List.length_range]; omega
  · rw [upd_same, List.range_succ, List.map_append]; rfl
theorem lc_rng {n : Nat} {H1 : Hp} {p : Nat} {te : TE} {σ : L2.St} {Q : VK} (f : Nat → V) (hz : n < sizeLine)
    (he : ∀ i, i < n → ∀ H2, Same H1 H2 → ∀ R : VK, (∀ H3, Same H2 H3 → R (f i) H3) → te ((wipe σ [p]).set p (some (.int (0 + i)))) H2 R)
    (hQ : ∀ D H2, H1 D = none → Same H1 H2 → H2 D = some (.lst ((List.range n).map f)) → Q (.ref D) H2) :
    ∀ D, H1 D = none → ∃ W : Nat → Nat → Hp → Prop, (∃ m, W 0 m (upd H1 D (.lst []))) ∧ ∀ i m H, W i m H →
      ((Itr 0 n).stop i H ∧ Q (.ref D) H) ∨ ((Itr 0 n).go i H ∧ ∃ Nx : Hp → Prop, (∀ H', Nx H' → ∃ m', m' < m ∧ W (i + 1) m' H') ∧ ∀ x H', (Itr 0 n).yld i H x H' →
        gName p x (wipe σ [p]) H' fun σ2 H2 => wipe σ2 [p] = wipe σ [p] ∧ tYes σ2 H2 fun b H3 =>
          if b = true then te σ2 H3 fun y H4 => ∃ acc, H4 D = some (.lst acc) ∧ acc.length < sizeLine ∧ Nx (upd H4 D (.lst (acc ++ [y]))) else Nx H3) := by
  intro D hD
  refine lc_range (lo := 0) (n := n) (g := gName p) (tt := tYes) (te := te) (vs := [p]) (σ := σ) (Qd := fun H => Q (.ref D) H) (fun i H => Same H1 H ∧ H D = some (.lst ((List.range i).map f))) ⟨Same.new hD, upd_same⟩ ?_ (fun H h => hQ D H hD h.1 h.2)
  rintro i H hlt ⟨hs, hd⟩
  refine ⟨wipe1 _, ?_⟩
  show te _ _ _
  refine he i hlt H hs _ fun H3 h3 => ⟨_, h3 _ _ hd, ?_, Same.updR hD (hs.trans h3), ?_⟩
  · simp only [List.length_map, List.length_range]; omega
  · rw [upd_same, List.range_succ, List.map_append]; rfl
/-- a list of new rows -/
theorem lc_rows {n : Nat} {H1 : Hp} {p : Nat} {te : TE} {σ : L2.St} {Q : VK} (r : Nat → Uni.Row) (h0 : ∀ i, r i ≠ []) (hz : n < sizeLine)
    (he : ∀ i, i < n → ∀ H2, Same H1 H2 → ∀ R : VK, (∀ D' H3, Same H2 H3 → RowAt H3 D' (r i) → R (.ref D') H3) → te ((wipe σ [p]).set p (some (.int (0 + i)))) H2 R)
    (hQ : ∀ D H2, H1 D = none → Same H1 H2 → RowsAt H2 D ((List.range n).map r) → Q (.ref D) H2) :
    ∀ D, H1 D = none → ∃ W : Nat → Nat → Hp → Prop, (∃ m, W 0 m (upd H1 D (.lst []))) ∧ ∀ i m H, W i m H →
      ((Itr 0 n).stop i H ∧ Q (.ref D) H) ∨ ((Itr 0 n).go i H ∧ ∃ Nx : Hp → Prop, (∀ H', Nx H' → ∃ m', m' < m ∧ W (i + 1) m' H') ∧ ∀ x H', (Itr 0 n).yld i H x H' →
        gName p x (wipe σ [p]) H' fun σ2 H2 => wipe σ2 [p] = wipe σ [p] ∧ tYes σ2 H2 fun b H3 =>
          if b = true then te σ2 H3 fun y H4 => ∃ acc, H4 D = some (.lst acc) ∧ acc.length < sizeLine ∧ Nx (upd H4 D (.lst (acc ++ [y]))) else Nx H3) := by
  intro D hD
  refine lc_range (lo := 0) (n := n) (g := gName p) (tt := tYes) (te := te) (vs := [p]) (σ := σ) (Qd := fun H => Q (.ref D) H) (fun i H => Same H1 H ∧ RowsAt H D ((List.range i).map r)) ⟨Same.new hD, [], upd_same, .nil⟩ ?_ (fun H h => hQ D H hD h.1 h.2)
  rintro i H hlt ⟨hs, as, hd, hR⟩
  refine ⟨wipe1 _, ?_⟩
  show te _ _ _
  refine he i hlt H hs _ fun D' H3 h3 hrow => ⟨_, h3 _ _ hd, ?_, Same.updR hD (hs.trans h3), as ++ [D'], ?_, ?_⟩
  · have := hR.length
    simp only [List.length_map, List.length_range] at this ⊢; omega
  · rw [upd_same, List.map_append]; rfl
  · rw [List.range_succ, List.map_append]
    have hd3 := h3 _ _ hd
    refine (Rows.upd hd3 (hR.same h3) (fun q hq => ?_)).snoc ?_
    · obtain ⟨j, _, rfl⟩ := List.mem_map.mp hq
      exact h0 j
    · show upd _ _ _ _ = _
      rw [upd_ne (row_ne hrow (h0 i) hd3)]
      exact hrow
/-! the same, the whole comprehension -/
theorem of_gn {i : Nat} {v : V} {σ : L2.St} {H : Hp} {Q : L2.St → Hp → Prop} (h : Q (σ.set i (some v)) H) : gName i v σ H Q := h
theorem of_next {D : Ends} {σ : L2.St} {H : Hp} (h : D.nx σ H) : tNext D σ H := h
theorem of_cons {te : TE} {tr : TA} {σ : L2.St} {H : Hp} {Q : List V → Hp → Prop} (h : te σ H fun x H1 => tr σ H1 fun xs H2 => Q (x :: xs) H2) : tCons te tr σ H Q := h
theorem of_tup {t : TA} {σ : L2.St} {H : Hp} {Q : VK} (h : t σ H fun xs H1 => xs.length ≤ sizeLine ∧ ∀ p, H1 p = none → Q (.ref p) (upd H1 p (.tup xs))) : tTup t σ H Q := h
theorem of_call {sp : Sp} {E : XK} {t : TA} {σ : L2.St} {H : Hp} {Q : VK} (h : t σ H fun vs H1 => sp (vs ++ []) H1 Q E) : tCall sp [] E t σ H Q := h
theorem of_make {C : Addr} {sp : Sp} {E : XK} {t : TA} {σ : L2.St} {H : Hp} {Q : VK} (h : t σ H fun vs H1 => ∀ x dx, H1 x = none → H1 dx = none → dx ≠ x → sp (.ref x :: (vs ++ [])) (upd (upd H1 dx (.own x)) x (.ins C dx [])) (fun v H2 => v = .non ∧ Q (.ref x) H2) E) : tMake C sp [] E t σ H Q := h
theorem tlc_map {K : PySem.W.Frag} {tl : TE} {a : Addr} {xs : List V} {H : Hp} {p : Nat} {te : TE} {σ : L2.St} {Q : VK} (f : Nat → V) (ha : SqL K H a xs) (hz : xs.length < sizeLine) (htl : ∀ R : VK, R (.ref a) H → tl σ H R)
    (he : ∀ i x, xs[i]? = some x → ∀ H2, Same H H2 → ∀ R : VK, (∀ H3, Same H2 H3 → R (f i) H3) → te ((wipe σ [p]).set p (some x)) H2 R)
    (hQ : ∀ D H2, H D = none → Same H H2 → H2 D = some (.lst ((List.range xs.length).map f)) → Q (.ref D) H2) : tLc (iList K tl) (gName p) tYes te [p] σ H Q :=
  htl _ ⟨a, rfl, ⟨xs, ha⟩, lc_map (K := K) (a := a) (xs := xs) (Q := Q) (te := te) (σ := σ) f ha hz he hQ⟩
theorem tlc_rng {ta : TA} {n : Nat} {H : Hp} {p : Nat} {te : TE} {σ : L2.St} {Q : VK} (f : Nat → V) (hz : n < sizeLine) (hta : ∀ R : List V → Hp → Prop, R [.int (n : Int)] H → ta σ H R)
    (he : ∀ i, i < n → ∀ H2, Same H H2 → ∀ R : VK, (∀ H3, Same H2 H3 → R (f i) H3) → te ((wipe σ [p]).set p (some (.int (0 + i)))) H2 R)
    (hQ : ∀ D H2, H D = none → Same H H2 → H2 D = some (.lst ((List.range n).map f)) → Q (.ref D) H2) : tLc (iRng1 ta) (gName p) tYes te [p] σ H Q :=
  hta _ ⟨(n : Int), rfl, by omega, by have : n < 2 ^ 24 := hz; omega, lc_rng (n := n) (Q := Q) (te := te) (σ := σ) f hz he hQ⟩
theorem tlc_rows {ta : TA} {n : Nat} {H : Hp} {p : Nat} {te : TE} {σ : L2.St} {Q : VK} (r : Nat → Uni.Row) (h0 : ∀ i, r i ≠ []) (hz : n < sizeLine) (hta : ∀ R : List V → Hp → Prop, R [.int (n : Int)] H → ta σ H R)
    (he : ∀ i, i < n → ∀ H2, Same H H2 → ∀ R : VK, (∀ D' H3, Same H2 H3 → RowAt H3 D' (r i) → R (.ref D') H3) → te ((wipe σ [p]).set p (some (.int (0 + i)))) H2 R)
    (hQ : ∀ D H2, H D = none → Same H H2 → RowsAt H2 D ((List.range n).map r) → Q (.ref D) H2) : tLc (iRng1 ta) (gName p) tYes te [p] σ H Q :=
  hta _ ⟨(n : Int), rfl, by omega, by have : n < 2 ^ 24 := hz; omega, lc_rows (n := n) (Q := Q) (te := te) (σ := σ) r h0 hz he hQ⟩
theorem tlc_zipV {K : PySem.W.Frag} {ta : TA} {a : Addr} {xs ys : List V} {n : Nat} {H : Hp} {p q : Nat} {te : TE} {σ : L2.St} {Q : VK} (f : Nat → Int) (hpq : p ≠ q) (ha : SqL K H a xs) (hx : xs.length = n) (hy : ys.length = n) (hz : n < sizeLine)
    (hta : ∀ R : List V → Hp → Prop, (∀ b H1, Same H H1 → SqL K H1 b ys → R [.ref a, .ref b] H1) → ta σ H R)
    (he : ∀ i x y, xs[i]? = some x → ys[i]? = some y → ∀ H2, Same H H2 → ∀ R : VK, (∀ H3, Same H2 H3 → R (.int (f i)) H3) → te (((wipe σ [p, q]).set p (some x)).set q (some y)) H2 R)
    (hQ : ∀ D H2, H D = none → Same H H2 → H2 D = some (.lst (iV ((List.range n).map f))) → Q (.ref D) H2) : tLc (iZip K ta) (gTup K 2 (gCons (gName p) (gCons (gName q) gNil))) tYes te [p, q] σ H Q :=
  hta _ fun b H1 s1 hb => ⟨a, b, xs, ys, rfl, s1.seq ha, hb, lc_zipV (K := K) (Q := Q) (te := te) (σ := σ) f hpq (s1.seq ha) hb (by rw [hx, hy, Nat.min_self]) hz (fun i x y h1 h2 H2 s2 => he i x y h1 h2 H2 (s1.trans s2)) (fun D H2 hD s2 h2 => hQ D H2 (s1.free hD) (s1.trans s2) h2)⟩

abbrev sSingle : Stmt := top 30
abbrev sEvery : Stmt := top 31
abbrev sUnits : Stmt := top 36
abbrev sSmall : Stmt := top 41
section
variable {P : Program} {w : World} {K : PySem.W.Frag} {mg : Str → Option Value} {base : Heap} {CW : Addr}
/-- single(place, length) -/
def spSingle : Sp := fun vs H Q _ => ∃ (n len : Nat), vs = [.int n, .int len] ∧ len < 1000 ∧ ∀ D H', H D = none → Same H H' → RowAt H' D (Uf.single n len) → Q (.ref D) H'
theorem scSingle : FnScope ["place", "length", "k"] ["place", "length"] (defScope sSingle) := sc_of (by decide +kernel)
theorem ok_single {f : Addr} {fd : FuncData} (F : Fun K "single" "single" sSingle f fd) (T : Txt mg) : FnOk P w K mg base CX0 1 f fd ["place", "length"] spSingle := by
  refine F.ok scSingle (fun vs H Q E h => ?_) (fun cdv A outer s H vs Q E hr h => ?_)
  · obtain ⟨n, len, rfl, _⟩ := h
    rfl
  · obtain ⟨n, len, rfl, hl, k⟩ := h
    refine ⟨_, pss_one (ps_ret (pe_lc1 (p := 2) rfl scSingle.nd (pi_range1 rfl T.nRange (pa_cons (pv 1) pa_nil)) (blk_ok (N := ["place", "length", "k"]) (sc := defScope sSingle) rfl rfl (by decide +kernel)) rfl
      (fun _ _ _ _ _ => pe_ifExp (pt_cmpR op_eq (pv 2) (pv 0) (nomark _)) pe_int pe_int))), ?_⟩
    have hz : len < sizeLine := Nat.lt_of_lt_of_le hl (by decide)
    refine of_ret ?_
    refine tlc_rng (n := len) (fun i => V.int (if (i : Int) = (n : Int) then 1 else 0)) hz (fun R h => ⟨_, rfl, h⟩) ?_ ?_
    · intro i hi H2 s2 R hR
      refine ⟨_, rfl, _, rfl, rfl, _, rfl, ite2 (fun h => ?_) (fun h => ?_)⟩
      · have e : (i : Int) = (n : Int) := by simpa using h
        have := hR H2 (Same.refl _)
        rw [if_pos e] at this
        exact this
      · have e : ¬ (i : Int) = (n : Int) := by simpa using h
        have := hR H2 (Same.refl _)
        rw [if_neg e] at this
        exact this
    · intro D H2 hD s2 h2
      refine k D H2 hD s2 ?_
      show H2 D = _
      rw [h2]
      unfold Uf.single iV
      rw [List.map_map]
      rfl
abbrev DSingle (P : Program) (w : World) (K : PySem.W.Frag) (mg : Str → Option Value) (base : Heap) : Prop := Def P w K mg base 1 "single" ["place", "length"] spSingle
/-- every_way() -/
def spEvery (CW : Addr) : Sp := fun vs H Q _ => vs = [] ∧ ∀ (H' : Hp) (wa sa ta : Addr), Same H H' → H wa = none → H sa = none → H ta = none → WaysAt CW H' wa sa ta → RowsAt H' sa Uni.free.one → RowsAt H' ta Uni.free.steps → Q (.ref wa) H'
abbrev nEvery : List Str := ["starts", "base_unit", "name"]
theorem scEvery : FnScope nEvery [] (defScope sEvery) := sc_of (by decide +kernel)
theorem ok_every {f : Addr} {fd : FuncData} (F : Fun K "every_way" "every_way" sEvery f fd) (T : Txt mg) (d1 : DSingle P w K mg base) (d5 : DWays P w K mg base CW) : FnOk P w K mg base CX0 3 f fd [] (spEvery CW) := by
  refine F.ok scEvery (fun vs H Q E h => ?_) (fun cdv A outer s H vs Q E hr h => ?_)
  · obtain ⟨rfl, _⟩ := h
    rfl
  · obtain ⟨rfl, k⟩ := h
    have hr1 : Room 1 _ := hr.mono (by decide)
    refine ⟨_, pss_cons (ps_setLc (i := 0) (own := [("base_unit", 1)]) (g := gName 1) rfl scEvery.nd rfl rfl (sw_true rfl rfl rfl rfl) (pi_range1 rfl T.nRange (pa_cons (pe_num rfl T.cUnits) pa_nil)) (blk_ok (N := nEvery) (sc := defScope sEvery) rfl rfl (by decide +kernel))
        (fun _ _ _ _ _ => pg_name (i := 1) scEvery.nd rfl (Or.inl rfl) (Or.inr rfl)) (fun _ _ _ _ _ => pts_nil) (fun _ _ _ _ _ => pe_op op_rep (pe_lst (pa_cons pe_int pa_nil)) (pe_num rfl T.cNames)))
      (pss_one (ps_ret (pe_new d5 hr rfl (pa_cons (pv 0) (pa_cons (pe_lc1 (p := 2) rfl scEvery.nd (pi_range1 rfl T.nRange (pa_cons (pe_num rfl T.cNames) pa_nil)) (blk_ok (N := nEvery) (sc := defScope sEvery) rfl rfl (by decide +kernel)) rfl
        (fun _ _ _ _ _ => pe_def d1 hr1 rfl (pa_cons (pv 2) (pa_cons (pe_num rfl T.cNames) pa_nil)))) pa_nil))))), ?_⟩
    refine of_seq (of_asg ?_)
    refine tlc_rows (n := 7) (fun _ => Uf.z6) (fun _ => by simp [Uf.z6]) (by decide) (fun R h => h) ?_ ?_
    · intro i hi H2 s2 R hR
      refine ⟨(by show 1 ≤ sizeLine; decide), fun l hl => ?_⟩
      refine ⟨l, 6, _, rfl, rfl, upd_same, by decide, by decide, (by show 1 * 6 ≤ sizeLine; decide), fun l2 hl2 => ?_⟩
      exact hR l2 _ ((Same.new hl).trans (Same.new hl2)) upd_same
    · intro sa H2 hsa s2 hS
      refine of_gn ?_
      dsimp only
      refine of_ret (of_make ?_)
      refine ⟨_, rfl, ?_⟩
      refine of_cons ?_
      refine tlc_rows (n := 6) (fun i => Uf.single i 6) (fun i => by intro e; have := congrArg List.length e; rw [Uf.single_len] at this; cases this) (by decide) (fun R h => h) ?_ ?_
      · intro i hi H3 s3 R hR
        refine ⟨_, rfl, i, 6, ?_, by decide, fun D H4 hD s4 h4 => hR D H4 s4 h4⟩
        show [V.int (0 + (i : Int)), V.int 6] = _
        rw [Int.zero_add]; rfl
      · intro ta H3 hta s3 hT
        intro x dx hx hdx hne
        refine ⟨x, dx, sa, ta, rfl, upd_same, fun H4 h4 k4 => ⟨rfl, ?_⟩⟩
        have s4 : Same H3 H4 := Same.made hx hdx k4
        exact k H4 x sa ta ((s2.trans s3).trans s4) ((s2.trans s3).free hx) hsa (s2.free hta) ⟨dx, h4⟩ (hS.same (s3.trans s4)) (hT.same s4)
/-- is_small(exponents) -/
def spSmall (K : PySem.W.Frag) : Sp := fun vs H Q _ => ∃ (a : Addr) (r : Uni.Row), vs = [.ref a] ∧ SqL K H a (iV r) ∧ r.length < sizeLine ∧ ∀ H' b, Same H H' → (b = true ↔ Uf.Bd 6 r) → Q (.bl b) H'
theorem scSmall : FnScope ["exponents", "exponent"] ["exponents"] (defScope sSmall) := sc_of (by decide +kernel)
theorem ok_small {f : Addr} {fd : FuncData} (F : Fun K "is_small" "is_small" sSmall f fd) (T : Txt mg) : FnOk P w K mg base CX0 1 f fd ["exponents"] (spSmall K) := by
  refine F.ok scSmall (fun vs H Q E h => ?_) (fun cdv A outer s H vs Q E hr h => ?_)
  · obtain ⟨a, r, rfl, _⟩ := h
    rfl
  · obtain ⟨a, r, rfl, ha, hz, k⟩ := h
    refine ⟨_, pss_one (ps_ret (pe_callB (cr_all rfl) rfl T.nAll boot_all (pa_cons (pe_lc1 (p := 1) rfl scSmall.nd (pi_list (pv 0)) (blk_ok (N := ["exponents", "exponent"]) (sc := defScope sSmall) rfl rfl (by decide +kernel)) rfl
      (fun _ _ _ _ _ => pe_cmpR op_le (pe_callB call_abs rfl T.nAbs boot_abs (pa_cons (pv 1) pa_nil)) (pe_num rfl T.cExp) (nomark _))) pa_nil))), ?_⟩
    refine of_ret (of_cb1 ?_)
    refine tlc_map (a := a) (xs := iV r) (fun i => V.bl (decide ((Uni.at_ r i).natAbs ≤ 6))) ha (by rw [List.length_map]; exact hz) (fun R h => ⟨_, rfl, h⟩) ?_ ?_
    · intro i x hx H2 s2 R hR
      obtain ⟨z, hz', rfl⟩ : ∃ z, r[i]? = some z ∧ x = V.int z := by
        rw [List.getElem?_map] at hx
        cases e : r[i]? with
        | none => rw [e] at hx; cases hx
        | some z => rw [e] at hx; exact ⟨z, rfl, (Option.some.inj hx).symm⟩
      refine ⟨_, rfl, z, rfl, _, _, rfl, rfl, ?_⟩
      have e : decide ((if z < 0 then -z else z) ≤ 6) = decide ((Uni.at_ r i).natAbs ≤ 6) := by
        rw [at_of_get hz']
        refine decide_eq_decide.mpr ?_
        split <;> omega
      show R (V.bl (decide ((if z < 0 then -z else z) ≤ 6))) H2
      rw [e]
      exact hR H2 (Same.refl _)
    · intro D H2 hD s2 h2
      refine ⟨D, (List.range r.length).map fun i => decide ((Uni.at_ r i).natAbs ≤ 6), rfl, SqL.of ?_, ?_⟩
      · rw [h2, List.length_map, List.map_map]; rfl
      · refine k H2 _ s2 ?_
        rw [List.all_eq_true]
        constructor
        · intro h x hx
          obtain ⟨i, hi, rfl⟩ := List.mem_iff_getElem.mp hx
          have := h (decide ((Uni.at_ r i).natAbs ≤ 6)) (List.mem_map.mpr ⟨i, List.mem_range.mpr hi, rfl⟩)
          have e := at_of_get (List.getElem?_eq_getElem hi)
          rw [e] at this
          exact of_decide_eq_true this
        · intro h b hb
          obtain ⟨i, hi, rfl⟩ := List.mem_map.mp hb
          have hi' := List.mem_range.mp hi
          have e := at_of_get (List.getElem?_eq_getElem hi')
          show decide _ = true
          rw [e]
          exact decide_eq_true (h _ (List.getElem_mem hi'))
/-- units_in(ways, exponents) -/
def spUnits (CW : Addr) : Sp := fun vs H Q _ => ∃ (wa ln sa ta : Addr) (starts steps : List Uni.Row) (line : Uni.Row), vs = [.ref wa, .ref ln] ∧ WaysAt CW H wa sa ta ∧ RowsAt H sa starts ∧ RowsAt H ta steps ∧ RowAt H ln line ∧ line.length = 13 ∧ Uf.Bd 12 line ∧ Uf.Good starts steps ∧ Uf.SizeOk starts steps ∧
  ∀ (H' : Hp) (T D : Addr), Same H H' → H' T = some (.tup [.int (Uf.gof (line.take 6) steps : Nat), .ref D]) → RowAt H' D (Uf.unitNums (line.take 6) (line.drop 6) starts steps) → Q (.ref T) H'
abbrev nUnits : List Str := ["ways", "exponents", "names", "lead", "gap", "unit", "start", "known", "exponent"]
theorem scUnits : FnScope nUnits ["ways", "exponents"] (defScope sUnits) := sc_of (by decide +kernel)
theorem abs_eq (i : Int) : (if i < 0 then -i else i) = (i.natAbs : Int) := by split <;> omega
theorem ok_units {f : Addr} {fd : FuncData} (F : Fun K "units_in" "units_in" sUnits f fd) (T : Txt mg) (TW : TxtW K mg CW) (d1 : DProduct P w K mg base) (d3 : DSteps P w K mg base) : FnOk P w K mg base CX0 4 f fd ["ways", "exponents"] (spUnits CW) := by
  refine F.ok scUnits (fun vs H Q E h => ?_) (fun cdv A outer s H vs Q E hr h => ?_)
  · obtain ⟨wa, ln, sa, ta, starts, steps, line, rfl, _⟩ := h
    rfl
  · obtain ⟨wa, ln, sa, ta, starts, steps, line, rfl, ⟨dx, hwa⟩, hsa, hta, hln, hl13, hl12, G, Z, k⟩ := h
    have hr1 : Room 1 _ := hr.mono (by decide)
    refine ⟨_, pss_cons (ps_set (i := 2) scUnits.nd rfl (Or.inr rfl) (pe_slice sl_list (pv 1) po_none (po_some (pe_num rfl T.cNames))))
      (pss_cons (ps_set (i := 3) scUnits.nd rfl (Or.inl rfl) (pe_ix ix_tup (pe_def d3 hr rfl (pa_cons (pe_fld (pv 0) rfl) (pa_cons (pv 2) pa_nil))) pe_int (fun _ _ => rfl)))
      (pss_cons (ps_set (i := 4) scUnits.nd rfl (Or.inr rfl) (pe_callB call_abs rfl T.nAbs boot_abs (pa_cons (pe_def d1 hr1 rfl (pa_cons (pv 2) (pa_cons (pv 3) pa_nil))) pa_nil)))
      (pss_cons (ps_setLc (i := 5) (own := [("start", 6), ("known", 7)]) (g := gTup K 2 (gCons (gName 6) (gCons (gName 7) gNil))) rfl scUnits.nd rfl rfl (sw_true rfl rfl rfl rfl) (pi_zip rfl T.nZip (pa_cons (pe_fld (pv 0) rfl) (pa_cons (pe_slice sl_list (pv 1) (po_some (pe_num rfl T.cNames)) po_none) pa_nil))) (blk_ok (N := nUnits) (sc := defScope sUnits) rfl rfl (by decide +kernel))
        (fun _ _ _ _ _ => pg_tup rfl (pgs_cons (pg_name (i := 6) scUnits.nd rfl (Or.inl rfl) (Or.inr rfl)) (pgs_cons (pg_name (i := 7) scUnits.nd rfl (Or.inl rfl) (Or.inr rfl)) pgs_nil))) (fun _ _ _ _ _ => pts_nil)
        (fun _ _ _ _ _ => pe_op op_add (pe_def d1 hr1 rfl (pa_cons (pv 2) (pa_cons (pv 6) pa_nil))) (pv 7)))
      (pss_cons (ps_if (pt_cmpR op_eq (pv 4) pe_int (nomark _)) (pss_one (ps_ret (pe_tup (pa_cons (pv 4) (pa_cons (pv 5) pa_nil))))) pss_nil)
      (pss_one (ps_ret (pe_tup (pa_cons (pv 4) (pa_cons (pe_lc1 (p := 8) rfl scUnits.nd (pi_list (pv 5)) (blk_ok (N := nUnits) (sc := defScope sUnits) rfl rfl (by decide +kernel)) rfl
        (fun _ _ _ _ _ => pe_op op_modN (pv 8) (pv 4))) pa_nil))))))))), ?_⟩
    have hn6 : (line.take 6).length = 6 := by rw [List.length_take, hl13]; rfl
    have hn12 : Uf.Bd 12 (line.take 6) := fun x hx => hl12 x (List.mem_of_mem_take hx)
    have he7 : (line.drop 6).length = 7 := by rw [List.length_drop, hl13]
    have big : ∀ x ∈ line.take 6, x.natAbs < 2 ^ 64 := fun x hx => pow64 (hn12 x hx)
    -- names
    refine ⟨_, rfl, 6, rfl, ln, _, rfl, SqL.of hln, fun na hna => ?_⟩
    have s1 : Same H (upd H na (.lst (cutV (iV line) none (some 6)))) := Same.new hna
    have hna1 : RowAt (upd H na (.lst (cutV (iV line) none (some 6)))) na (line.take 6) := by
      show _ = _
      rw [upd_same, show cutV (iV line) none (some 6) = iV (line.take 6) from cut_head (n := 6) (by omega)]
    -- lead
    refine ⟨_, rfl, wa, CW, dx, _, _, rfl, s1 _ _ hwa, TW.cl, TW.nT, rfl, _, rfl, ta, na, steps, line.take 6, rfl, hta.same s1, hna1, hn6, hn12, G.sixS, Z.few, Z.bdT, fun H2 pt la ia lead idle s2 hpt hla hia nia I => ?_⟩
    refine ⟨pt, _, 0, _, rfl, rfl, SqT.of hpt, rfl, ?_⟩
    have s12 := s1.trans s2
    have hna2 : RowAt H2 na (line.take 6) := s2 _ _ hna1
    -- gap
    refine ⟨_, rfl, _, rfl, na, la, _, lead, rfl, hna2.sq, hla.sq, size6 hn6, big, fun H3 s3 => ?_⟩
    refine ⟨_, rfl, ?_⟩
    rw [abs_eq, ← Uf.gof_parted G.sixS I.parted]
    have s13 := s12.trans s3
    -- unit
    obtain ⟨sas, hsl, hsr⟩ := hsa
    refine of_gn ?_
    dsimp only
    refine of_seq (of_asg ?_)
    refine tlc_zipV (K := K) (a := sa) (xs := sas.map V.ref) (ys := iV (line.drop 6)) (n := 7) (fun b => Uni.dot (line.take 6) (Uf.gd starts b) + Uni.at_ (line.drop 6) b) (by decide) (SqL.of (s13 _ _ hsl)) (by rw [List.length_map, hsr.length, G.len]) (by rw [List.length_map, he7]) (by decide) (fun R h => ?_) ?_ ?_
    · refine ⟨_, rfl, wa, CW, dx, _, _, rfl, s13 _ _ hwa, TW.cl, TW.nS, rfl, _, rfl, 6, rfl, ln, _, rfl, SqL.of (s13 _ _ hln), fun ka hka => ?_⟩
      refine h ka _ (Same.new hka) (SqL.of ?_)
      rw [upd_same, show cutV (iV line) (some 6) none = iV (line.drop 6) from cut_tail (n := 6) (by omega)]
    · intro i x y hx hy H4 s4 R hR
      obtain ⟨sta, hst, rfl⟩ : ∃ z, sas[i]? = some z ∧ x = V.ref z := by
        rw [List.getElem?_map] at hx
        cases e : sas[i]? with
        | none => rw [e] at hx; cases hx
        | some z => rw [e] at hx; exact ⟨z, rfl, (Option.some.inj hx).symm⟩
      obtain ⟨kn, hkn, rfl⟩ : ∃ z, (line.drop 6)[i]? = some z ∧ y = V.int z := by
        rw [List.getElem?_map] at hy
        cases e : (line.drop 6)[i]? with
        | none => rw [e] at hy; cases hy
        | some z => rw [e] at hy; exact ⟨z, rfl, (Option.some.inj hy).symm⟩
      obtain ⟨r, hr_, hrow⟩ := hsr.get hst
      refine ⟨_, rfl, _, rfl, na, sta, _, r, rfl, (hna2.same (s3.trans s4)).sq, (hrow.same (s13.trans s4)).sq, size6 hn6, big, fun H5 s5 => ?_⟩
      refine ⟨_, rfl, _, _, rfl, rfl, ?_⟩
      have := hR H5 s5
      rw [gd_of hr_, at_of_get hkn] at this
      exact this
    · intro D H4 hD s4 h4
      refine ⟨_, rfl, rfl, _, rfl, ite2 (fun h0 => ?_) (fun h0 => ?_)⟩
      · have e0 : Uf.gof (line.take 6) steps = 0 := by simpa using h0
        refine ⟨_, rfl, _, rfl, (by show 2 ≤ sizeLine; decide), fun tu htu => ?_⟩
        have s5 : Same H4 (upd H4 tu (.tup [.int (Uf.gof (line.take 6) steps : Nat), .ref D])) := Same.new htu
        refine k _ tu D (s13.trans (s4.trans s5)) upd_same ?_
        show _ = _
        rw [s5 _ _ h4]
        unfold Uf.unitNums Uni.rowOf
        simp only [if_pos e0]
        refine congrArg (fun z => some (HO.lst (iV z))) (List.map_congr_left fun b _ => Int.add_comm _ _)
      · have e0 : ¬ Uf.gof (line.take 6) steps = 0 := by simpa using h0
        refine of_next ?_
        dsimp only
        refine of_ret (of_tup ?_)
        refine ⟨_, rfl, ?_⟩
        refine of_cons ?_
        refine tlc_map (a := D) (xs := iV ((List.range 7).map fun b => Uni.dot (line.take 6) (Uf.gd starts b) + Uni.at_ (line.drop 6) b)) (fun b => V.int ((Uni.at_ (line.drop 6) b + Uni.dot (line.take 6) (Uf.gd starts b)) % (Uf.gof (line.take 6) steps : Int))) (SqL.of h4) (by simp; decide) (fun R h => ⟨_, rfl, h⟩) ?_ ?_
        · intro i x hx H5 s5 R hR
          have hi : i < 7 := by
            have := (List.getElem?_eq_some_iff.mp hx).1
            simpa using this
          rw [List.getElem?_map, List.getElem?_map, List.getElem?_range hi] at hx
          have ex := Option.some.inj hx
          subst ex
          refine ⟨_, rfl, _, rfl, _, _, rfl, rfl, by omega, ?_⟩
          have := hR H5 (Same.refl _)
          show R (V.int ((Uni.dot (line.take 6) (Uf.gd starts i) + Uni.at_ (line.drop 6) i).fmod (Uf.gof (line.take 6) steps : Int))) H5
          rw [Int.fmod_eq_emod_of_nonneg _ (Int.natCast_nonneg _), Int.add_comm]
          exact this
        · intro D2 H5 hD2 s5 h5
          refine ⟨(by show 2 ≤ sizeLine; decide), fun tu htu => ?_⟩
          have s6 : Same H5 (upd H5 tu (.tup [.int (Uf.gof (line.take 6) steps : Nat), .ref D2])) := Same.new htu
          refine k _ tu D2 (s13.trans (s4.trans (s5.trans s6))) upd_same ?_
          show _ = _
          rw [s6 _ _ h5, List.length_map, List.length_map, List.length_range]
          unfold Uf.unitNums Uni.rowOf iV
          simp only [if_neg e0, List.map_map]
          rfl
end
end Ug

set_option Elab.async false
set_option linter.all false
set_option maxRecDepth 100000
set_option maxHeartbeats 2000000
namespace Ug
open PySem PySem.Spec PyProof.Rows L2

/-! a heap without some places -/
def cut (H : Hp) (M : List Addr) : Hp := fun b => if b ∈ M then none else H b
theorem cut_of {H : Hp} {M : List Addr} {b : Addr} {o : HO} (h : H b = some o) (hb : b ∉ M) : cut H M b = some o := by unfold cut; rw [if_neg hb]; exact h
theorem of_cut {H : Hp} {M : List Addr} {b : Addr} {o : HO} (h : cut H M b = some o) : b ∉ M ∧ H b = some o := by
  unfold cut at h
  by_cases hb : b ∈ M
  · rw [if_pos hb] at h; cases h
  · rw [if_neg hb] at h; exact ⟨hb, h⟩
theorem cut_le {H : Hp} {M : List Addr} : Same (cut H M) H := fun _ _ h => (of_cut h).2
theorem cut_upd {H : Hp} {M : List Addr} {m : Addr} {o : HO} (h : m ∈ M) : cut (upd H m o) M = cut H M := by
  funext b
  unfold cut
  by_cases hb : b ∈ M
  · rw [if_pos hb, if_pos hb]
  · rw [if_neg hb, if_neg hb, upd_ne (fun e => hb (by rw [e]; exact h))]
/-- what stays -/
def Fr (M : List Addr) (H H' : Hp) : Prop := ∀ b o, H b = some o → b ∉ M → H' b = some o
/-- what may be changed from now on -/
def Grow (M M' : List Addr) (H : Hp) : Prop := ∀ b ∈ M', b ∈ M ∨ H b = none
theorem _root_.L2.Same.fr {H H' : Hp} {M : List Addr} (s : Same H H') : Fr M H H' := fun b o h _ => s b o h
theorem Grow.refl (M : List Addr) (H : Hp) : Grow M M H := fun _ h => .inl h
theorem Fr.trans {M M' : List Addr} {H H1 H2 : Hp} (f : Fr M H H1) (g : Grow M M' H) (f2 : Fr M' H1 H2) : Fr M H H2 := fun b o h hb => f2 b o (f b o h hb) fun q => by
  rcases g b q with q | q
  · exact hb q
  · rw [q] at h; cases h
theorem Fr.trans1 {M : List Addr} {H H1 H2 : Hp} (f : Fr M H H1) (f2 : Fr M H1 H2) : Fr M H H2 := f.trans (Grow.refl _ _) f2
theorem Grow.trans {M M' M2 : List Addr} {H H1 : Hp} (g : Grow M M' H) (f : Fr M H H1) (g2 : Grow M' M2 H1) : Grow M M2 H := fun b hb => by
  rcases g2 b hb with q | q
  · exact g b q
  · by_cases h : b ∈ M
    · exact .inl h
    · refine .inr ?_
      cases e : H b with
      | none => rfl
      | some o => rw [f b o e h] at q; cases q
theorem Fr.mono {M M' : List Addr} {H H' : Hp} (f : Fr M H H') (h : ∀ b ∈ M, b ∈ M') : Fr M' H H' := fun b o e hb => f b o e fun q => hb (h b q)
theorem Fr.cut {M M' : List Addr} {H H' : Hp} (f : Fr M H H') (g : Grow M M' H) : Same (cut H M) (cut H' M') := fun b o h => by
  obtain ⟨hb, h⟩ := of_cut h
  refine cut_of (f b o h hb) fun q => ?_
  rcases g b q with q | q
  · exact hb q
  · rw [q] at h; cases h
theorem Fr.upd {M : List Addr} {H : Hp} {m : Addr} {o : HO} (h : m ∈ M) : Fr M H (L2.upd H m o) := fun b o' e hb => by rw [upd_ne (fun q => hb (by rw [q]; exact h))]; exact e
theorem Fr.new {M : List Addr} {H : Hp} {m : Addr} {o : HO} (h : H m = none) : Fr M H (L2.upd H m o) := (Same.new h).fr
/-- places that hold instances or lists of refs -/
def MOk (H : Hp) (M : List Addr) : Prop := ∀ m ∈ M, (∃ C dx fs, H m = some (.ins C dx fs)) ∨ ∃ l : List Addr, H m = some (.lst (l.map V.ref))
theorem MOk.same {H H' : Hp} {M : List Addr} (h : MOk H M) (s : Same H H') : MOk H' M := fun m hm => by
  rcases h m hm with ⟨C, dx, fs, e⟩ | ⟨l, e⟩
  · exact .inl ⟨C, dx, fs, s _ _ e⟩
  · exact .inr ⟨l, s _ _ e⟩
theorem MOk.row {H : Hp} {M : List Addr} (ok : MOk H M) {a : Addr} {r : Uni.Row} (h : RowAt H a r) (h0 : r ≠ []) : RowAt (cut H M) a r := by
  refine cut_of h fun q => ?_
  rcases ok a q with ⟨C, dx, fs, e⟩ | ⟨l, e⟩
  · rw [h] at e; cases e
  · exact row_ne h h0 e rfl
theorem MOk.rows {H : Hp} {M : List Addr} (ok : MOk H M) : ∀ {as : List Addr} {rs : List Uni.Row}, Rows H as rs → (∀ r ∈ rs, r ≠ []) → Rows (cut H M) as rs
  | _, _, .nil, _ => .nil
  | _, _, .cons h t, q => .cons (ok.row h (q _ (by simp))) (MOk.rows ok t fun r hr => q r (by simp [hr]))
theorem MOk.rowsAt {H : Hp} {M : List Addr} (ok : MOk H M) {a : Addr} {rs : List Uni.Row} (h : RowsAt H a rs) (ha : a ∉ M) (h0 : ∀ r ∈ rs, r ≠ []) : RowsAt (cut H M) a rs := by
  obtain ⟨as, h1, h2⟩ := h
  exact ⟨as, cut_of h1 ha, ok.rows h2 h0⟩
theorem Rows.get2 {H : Hp} : ∀ {as : List Addr} {rs : List Uni.Row} {i : Nat} {r : Uni.Row}, Rows H as rs → rs[i]? = some r → ∃ a, as[i]? = some a ∧ RowAt H a r
  | _, _, _, _, .nil, e => by simp at e
  | _, _, 0, _, .cons h _, e => by
    have e' := Option.some.inj e
    subst e'
    exact ⟨_, rfl, h⟩
  | _, _, i + 1, _, .cons _ t, e => Rows.get2 (i := i) t e

/-! the sheet -/
structure KD where
  k : Addr
  kf : Addr
  wa : Addr
  names : Nat
  forms : List Uni.Row
  starts : List Uni.Row
  steps : List Uni.Row
structure SD where
  fa : Addr
  wa : Addr
  ka : Addr
  names : Nat
  forms : List Uni.Row
  starts : List Uni.Row
  steps : List Uni.Row
  ks : List KD
def SD.M (d : SD) (sh : Addr) : List Addr := sh :: d.ka :: d.fa :: d.ks.map KD.kf
def sf (n : Nat) (fa wa ka : Addr) : List (Str × V) := [("names", .int n), ("formulas", .ref fa), ("ways", .ref wa), ("kept", .ref ka)]
def FormsAt (H F : Hp) (fa : Addr) (forms : List Uni.Row) : Prop := ∃ as : List Addr, H fa = some (.lst (as.map V.ref)) ∧ Rows F as forms
def WaysFull (CW : Addr) (F : Hp) (wa : Addr) (starts steps : List Uni.Row) : Prop := ∃ sa ta, WaysAt CW F wa sa ta ∧ RowsAt F sa starts ∧ RowsAt F ta steps
def KeptAt (CW : Addr) (H F : Hp) (k : KD) : Prop := F k.k = some (.tup [.int k.names, .ref k.kf, .ref k.wa]) ∧ FormsAt H F k.kf k.forms ∧ WaysFull CW F k.wa k.starts k.steps
theorem FormsAt.move {H H' F F' : Hp} {fa : Addr} {forms : List Uni.Row} (h : FormsAt H F fa forms) (s : Same F F') (k : ∀ o, H fa = some o → H' fa = some o) : FormsAt H' F' fa forms := by
  obtain ⟨as, h1, h2⟩ := h
  exact ⟨as, k _ h1, h2.same s⟩
theorem WaysFull.same {CW : Addr} {F F' : Hp} {wa : Addr} {a b : List Uni.Row} (h : WaysFull CW F wa a b) (s : Same F F') : WaysFull CW F' wa a b := by
  obtain ⟨sa, ta, h1, h2, h3⟩ := h
  exact ⟨sa, ta, h1.same s, h2.same s, h3.same s⟩
theorem KeptAt.move {CW : Addr} {H H' F F' : Hp} {k : KD} (h : KeptAt CW H F k) (s : Same F F') (q : ∀ o, H k.kf = some o → H' k.kf = some o) : KeptAt CW H' F' k := ⟨s _ _ h.1, h.2.1.move s q, h.2.2.same s⟩
structure SheetAt (CS CW : Addr) (H : Hp) (sh : Addr) (d : SD) : Prop where
  nd : (d.M sh).Nodup
  ins : ∃ dx, H sh = some (.ins CS dx (sf d.names d.fa d.wa d.ka))
  hf : FormsAt H (cut H (d.M sh)) d.fa d.forms
  hw : WaysFull CW (cut H (d.M sh)) d.wa d.starts d.steps
  hk : H d.ka = some (.lst ((d.ks.reverse.map KD.k).map V.ref))
  hks : ∀ k ∈ d.ks, KeptAt CW H (cut H (d.M sh)) k
section
variable {CS CW : Addr} {H H' : Hp} {sh : Addr} {d : SD}
theorem SD.m_sh : sh ∈ d.M sh := by simp [SD.M]
theorem SD.m_ka : d.ka ∈ d.M sh := by simp [SD.M]
theorem SD.m_fa : d.fa ∈ d.M sh := by simp [SD.M]
theorem SheetAt.ne1 (S : SheetAt CS CW H sh d) : sh ≠ d.ka ∧ sh ≠ d.fa ∧ d.ka ≠ d.fa := by
  have := S.nd
  simp only [SD.M, List.nodup_cons, List.mem_cons, not_or] at this
  exact ⟨this.1.1, this.1.2.1, this.2.1.1⟩
theorem SheetAt.ne2 (S : SheetAt CS CW H sh d) {k : KD} (hk : k ∈ d.ks) : k.kf ≠ sh ∧ k.kf ≠ d.ka ∧ k.kf ≠ d.fa := by
  have := S.nd
  simp only [SD.M, List.nodup_cons, List.mem_cons, not_or] at this
  have hm : k.kf ∈ d.ks.map KD.kf := List.mem_map.mpr ⟨k, hk, rfl⟩
  refine ⟨fun e => this.1.2.2 (e ▸ hm), fun e => this.2.1.2 (e ▸ hm), fun e => this.2.2.1 (e ▸ hm)⟩
theorem SheetAt.mok (S : SheetAt CS CW H sh d) : MOk H (d.M sh) := by
  intro m hm
  simp only [SD.M, List.mem_cons, List.mem_map] at hm
  rcases hm with rfl | rfl | rfl | ⟨k, hk, rfl⟩
  · obtain ⟨dx, e⟩ := S.ins; exact .inl ⟨_, _, _, e⟩
  · exact .inr ⟨_, S.hk⟩
  · obtain ⟨as, e, _⟩ := S.hf; exact .inr ⟨_, e⟩
  · obtain ⟨_, ⟨as, e, _⟩, _⟩ := S.hks k hk; exact .inr ⟨_, e⟩
theorem SheetAt.some_ (S : SheetAt CS CW H sh d) {m : Addr} (hm : m ∈ d.M sh) : H m ≠ none := by
  rcases S.mok m hm with ⟨C, dx, fs, e⟩ | ⟨l, e⟩ <;> · rw [e]; intro z; cases z
theorem SheetAt.fresh (S : SheetAt CS CW H sh d) {m : Addr} (hm : H m = none) : m ∉ d.M sh := fun q => S.some_ q hm
theorem SheetAt.same (S : SheetAt CS CW H sh d) (s : Same H H') : SheetAt CS CW H' sh d := by
  have sc : Same (cut H (d.M sh)) (cut H' (d.M sh)) := Fr.cut s.fr (Grow.refl _ _)
  obtain ⟨dx, e⟩ := S.ins
  exact ⟨S.nd, ⟨dx, s _ _ e⟩, S.hf.move sc (fun o q => s _ _ q), S.hw.same sc, s _ _ S.hk, fun k hk => (S.hks k hk).move sc fun o q => s _ _ q⟩
theorem SheetAt.form (S : SheetAt CS CW H sh d) {a : Nat} {r : Uni.Row} (h : d.forms[a]? = some r) : ∃ (as : List Addr) (ea : Addr), H d.fa = some (.lst (as.map V.ref)) ∧ as[a]? = some ea ∧ RowAt (cut H (d.M sh)) ea r := by
  obtain ⟨as, h1, h2⟩ := S.hf
  obtain ⟨ea, h3, h4⟩ := h2.get2 h
  exact ⟨as, ea, h1, h3, h4⟩
theorem SheetAt.len (S : SheetAt CS CW H sh d) : ∃ as : List Addr, H d.fa = some (.lst (as.map V.ref)) ∧ as.length = d.forms.length := by
  obtain ⟨as, h1, h2⟩ := S.hf
  exact ⟨as, h1, h2.length⟩
/-- another formula -/
theorem SheetAt.more (S : SheetAt CS CW H sh d) {as : List Addr} {e : Addr} {r : Uni.Row} (ha : H d.fa = some (.lst (as.map V.ref))) (he : RowAt (cut H (d.M sh)) e r) :
    SheetAt CS CW (upd H d.fa (.lst (as.map V.ref ++ [.ref e]))) sh { d with forms := d.forms ++ [r] } := by
  obtain ⟨n1, n2, n3⟩ := S.ne1
  have c : cut (upd H d.fa (.lst (as.map V.ref ++ [.ref e]))) (d.M sh) = cut H (d.M sh) := cut_upd SD.m_fa
  obtain ⟨dx, hi⟩ := S.ins
  obtain ⟨as', h1, h2⟩ := S.hf
  have ea : as' = as := by
    rw [ha] at h1
    have := HO.lst.inj (Option.some.inj h1)
    exact (List.map_inj_right (fun a b q => V.ref.inj q)).mp this.symm
  subst ea
  refine ⟨S.nd, ⟨dx, by rw [upd_ne n2]; exact hi⟩, ⟨as' ++ [e], ?_, ?_⟩, ?_, ?_, fun k hk => ?_⟩
  · rw [upd_same, List.map_append]; rfl
  · show Rows (cut _ (d.M sh)) _ _
    rw [c]
    exact h2.snoc he
  · show WaysFull CW (cut _ (d.M sh)) _ _ _
    rw [c]; exact S.hw
  · show upd _ _ _ d.ka = _
    rw [upd_ne n3]; exact S.hk
  · show KeptAt CW _ (cut _ (d.M sh)) k
    rw [c]
    exact (S.hks k hk).move (Same.refl _) fun o q => by rw [upd_ne (S.ne2 hk).2.2]; exact q
/-- other fields -/
theorem SheetAt.fields (S : SheetAt CS CW H sh d) {dx wa : Addr} {n : Nat} {st sp : List Uni.Row} (hw : WaysFull CW (cut H (d.M sh)) wa st sp) :
    SheetAt CS CW (upd H sh (.ins CS dx (sf n d.fa wa d.ka))) sh { d with names := n, wa := wa, starts := st, steps := sp } := by
  obtain ⟨n1, n2, n3⟩ := S.ne1
  have c : cut (upd H sh (.ins CS dx (sf n d.fa wa d.ka))) (d.M sh) = cut H (d.M sh) := cut_upd SD.m_sh
  refine ⟨S.nd, ⟨dx, upd_same⟩, ?_, ?_, ?_, fun k hk => ?_⟩
  · show FormsAt _ (cut _ (d.M sh)) _ _
    rw [c]
    exact S.hf.move (Same.refl _) fun o q => by rw [upd_ne (Ne.symm n2)]; exact q
  · show WaysFull CW (cut _ (d.M sh)) _ _ _
    rw [c]; exact hw
  · show upd _ _ _ d.ka = _
    rw [upd_ne (Ne.symm n1)]; exact S.hk
  · show KeptAt CW _ (cut _ (d.M sh)) k
    rw [c]
    exact (S.hks k hk).move (Same.refl _) fun o q => by rw [upd_ne (S.ne2 hk).1]; exact q
/-- kept -/
theorem SheetAt.keep (S : SheetAt CS CW H sh d) {as : List Addr} {kf k : Addr} (ha : H d.fa = some (.lst (as.map V.ref))) (hkf : H kf = none) (hk : upd H kf (.lst (as.map V.ref)) k = none) :
    SheetAt CS CW (upd (upd (upd H kf (.lst (as.map V.ref))) k (.tup [.int d.names, .ref kf, .ref d.wa])) d.ka (.lst ((d.ks.reverse.map KD.k).map V.ref ++ [.ref k]))) sh { d with ks := ⟨k, kf, d.wa, d.names, d.forms, d.starts, d.steps⟩ :: d.ks } ∧
    Fr (d.M sh) H (upd (upd (upd H kf (.lst (as.map V.ref))) k (.tup [.int d.names, .ref kf, .ref d.wa])) d.ka (.lst ((d.ks.reverse.map KD.k).map V.ref ++ [.ref k]))) ∧ Grow (d.M sh) (sh :: d.ka :: d.fa :: kf :: d.ks.map KD.kf) H := by
  obtain ⟨n1, n2, n3⟩ := S.ne1
  have s1 : Same H (upd H kf (.lst (as.map V.ref))) := Same.new hkf
  have s2 : Same (upd H kf (.lst (as.map V.ref))) (upd (upd H kf (.lst (as.map V.ref))) k (.tup [.int d.names, .ref kf, .ref d.wa])) := Same.new hk
  have hk0 : H k = none := s1.free hk
  have fr : Fr (d.M sh) H (upd (upd (upd H kf (.lst (as.map V.ref))) k (.tup [.int d.names, .ref kf, .ref d.wa])) d.ka (.lst ((d.ks.reverse.map KD.k).map V.ref ++ [.ref k]))) := (s1.trans s2).fr.trans1 (Fr.upd SD.m_ka)
  have gr : Grow (d.M sh) (sh :: d.ka :: d.fa :: kf :: d.ks.map KD.kf) H := by
    intro b hb
    simp only [List.mem_cons, SD.M] at hb ⊢
    rcases hb with h | h | h | h | h
    · exact .inl (.inl h)
    · exact .inl (.inr (.inl h))
    · exact .inl (.inr (.inr (.inl h)))
    · exact .inr (h ▸ hkf)
    · exact .inl (.inr (.inr (.inr h)))
  have sc := Fr.cut fr gr
  have kfk : kf ≠ k := ne_of_none (H := upd H kf (.lst (as.map V.ref))) upd_same hk
  have kM := S.fresh hkf
  have kM2 := S.fresh hk0
  simp only [SD.M, List.mem_cons, not_or] at kM kM2
  obtain ⟨dx, hi⟩ := S.ins
  have stay : ∀ b o, H b = some o → b ≠ d.ka → (upd (upd (upd H kf (.lst (as.map V.ref))) k (.tup [.int d.names, .ref kf, .ref d.wa])) d.ka (.lst ((d.ks.reverse.map KD.k).map V.ref ++ [.ref k]))) b = some o := fun b o e h => by
    rw [upd_ne h]; exact s2 _ _ (s1 _ _ e)
  obtain ⟨as', h1, h2⟩ := S.hf
  have ea : as' = as := by
    rw [ha] at h1
    exact (List.map_inj_right (fun a b q => V.ref.inj q)).mp (HO.lst.inj (Option.some.inj h1)).symm
  subst ea
  refine ⟨⟨?_, ⟨dx, stay _ _ hi n1⟩, ⟨as', stay _ _ ha (Ne.symm n3), h2.same sc⟩, S.hw.same sc, ?_, ?_⟩, fr, gr⟩
  · have nd := S.nd
    simp only [SD.M, List.map_cons, List.nodup_cons, List.mem_cons, not_or] at nd ⊢
    refine ⟨⟨nd.1.1, nd.1.2.1, fun e => kM.1 e.symm, nd.1.2.2⟩, ⟨nd.2.1.1, fun e => kM.2.1 e.symm, nd.2.1.2⟩, ⟨fun e => kM.2.2.1 e.symm, nd.2.2.1⟩, kM.2.2.2, nd.2.2.2⟩
  · show upd _ _ _ d.ka = _
    rw [upd_same, List.reverse_cons, List.map_append, List.map_append]; rfl
  · intro q hq
    rcases List.mem_cons.mp hq with rfl | hq
    · refine ⟨cut_of ?_ ?_, ⟨as', ?_, h2.same sc⟩, S.hw.same sc⟩
      · show upd _ _ _ k = _
        rw [upd_ne kM2.2.1, upd_same]
      · show k ∉ SD.M _ sh
        simp only [SD.M, List.map_cons, List.mem_cons, not_or]
        exact ⟨kM2.1, kM2.2.1, kM2.2.2.1, fun e => kfk e.symm, kM2.2.2.2⟩
      · show upd _ _ _ kf = _
        rw [upd_ne kM.2.1, upd_ne kfk, upd_same]
    · exact (S.hks q hq).move sc fun o e => stay _ _ e (S.ne2 hq).2.1
/-- back -/
theorem SheetAt.back (S : SheetAt CS CW H sh d) {k : KD} {ks : List KD} (e : d.ks = k :: ks) {dx : Addr} (hsh : H' sh = some (.ins CS dx (sf k.names k.kf k.wa d.ka))) (hka : H' d.ka = some (.lst ((ks.reverse.map KD.k).map V.ref))) (hst : ∀ b, b ≠ sh → b ≠ d.ka → H' b = H b) :
    SheetAt CS CW H' sh ⟨k.kf, k.wa, d.ka, k.names, k.forms, k.starts, k.steps, ks⟩ ∧ Fr (d.M sh) H H' ∧ Grow (d.M sh) (sh :: d.ka :: k.kf :: ks.map KD.kf) H := by
  have fr : Fr (d.M sh) H H' := fun b o q hb => by
    simp only [SD.M, List.mem_cons, not_or] at hb
    rw [hst b hb.1 hb.2.1]; exact q
  have gr : Grow (d.M sh) (sh :: d.ka :: k.kf :: ks.map KD.kf) H := by
    intro b hb
    refine .inl ?_
    simp only [SD.M, e, List.map_cons, List.mem_cons] at hb ⊢
    rcases hb with h | h | h | h
    · exact .inl h
    · exact .inr (.inl h)
    · exact .inr (.inr (.inr (.inl h)))
    · exact .inr (.inr (.inr (.inr h)))
  have sc := Fr.cut fr gr
  have kin : k ∈ d.ks := by rw [e]; simp
  have kk := S.hks k kin
  have kn := S.ne2 kin
  refine ⟨⟨?_, ⟨dx, hsh⟩, kk.2.1.move sc fun o q => by rw [hst _ kn.1 kn.2.1]; exact q, kk.2.2.same sc, hka, fun q hq => ?_⟩, fr, gr⟩
  · have nd := S.nd
    simp only [SD.M, e, List.map_cons, List.nodup_cons, List.mem_cons, not_or] at nd ⊢
    exact ⟨⟨nd.1.1, nd.1.2.2.1, nd.1.2.2.2⟩, ⟨nd.2.1.2.1, nd.2.1.2.2⟩, nd.2.2.2.1, nd.2.2.2.2⟩
  · have qin : q ∈ d.ks := by rw [e]; simp [hq]
    have qn := S.ne2 qin
    exact (S.hks q qin).move sc fun o z => by rw [hst _ qn.1 qn.2.1]; exact z
end
/-! what is kept, and the specification's -/
def KRel : List KD → List Uni.Now → Prop
  | [], [] => True
  | k :: ks, n :: ns => Uf.NowRel k.names k.forms k.starts k.steps n ∧ KRel ks ns
  | _, _ => False
theorem KRel.len : ∀ {ks : List KD} {ns : List Uni.Now}, KRel ks ns → ns.length = ks.length
  | [], [], _ => rfl
  | _ :: _, _ :: _, h => congrArg (· + 1) (KRel.len h.2)
  | [], _ :: _, h => h.elim
  | _ :: _, [], h => h.elim
structure SD.Rel (d : SD) (s : Uni.State) : Prop where
  now : Uf.NowRel d.names d.forms d.starts d.steps s.now
  kept : KRel d.ks s.kept
  few : d.ks.length ≤ 8
end Ug

set_option Elab.async false
set_option linter.all false
set_option maxRecDepth 100000
set_option maxHeartbeats 2000000
namespace Ug
open PySem PySem.Spec PyProof.Rows L2
/-- the classes Sheet and Reader -/
structure TxtS (K : PySem.W.Frag) (CS : Addr) : Prop where
  cl : Cls K CS
  nN : NoAttr K CS "names"
  nF : NoAttr K CS "formulas"
  nW : NoAttr K CS "ways"
  nK : NoAttr K CS "kept"
structure TxtR (K : PySem.W.Frag) (CR : Addr) : Prop where
  cl : Cls K CR
  nN : NoAttr K CR "numbers"
  nP : NoAttr K CR "place"
/-- a method of the text -/
def MethD (P : Program) (w : World) (K : PySem.W.Frag) (mg : Str → Option Value) (base : Heap) (k : Nat) (C : Addr) (m : Str) (ps : List Str) (sp : Sp) : Prop :=
  ∃ (f : Addr) (fd : FuncData), FnOk P w K mg base CX0 k f fd ps sp ∧ Meth K C m f ∧ Binds K fd ps []
abbrev sSInit : Stmt := inClass (top 26) 0
abbrev sBegin : Stmt := inClass (top 26) 1
abbrev sKeep : Stmt := inClass (top 26) 2
abbrev sGoBack : Stmt := inClass (top 26) 3
abbrev sRInit : Stmt := inClass (top 27) 0
abbrev sMore : Stmt := inClass (top 27) 1
abbrev sNumber : Stmt := inClass (top 27) 2
abbrev sRow : Stmt := inClass (top 27) 3
theorem putF_len (f : Str) (v : V) : ∀ fs : List (Str × V), (putF f v fs).length ≤ fs.length + 1
  | [] => Nat.le_refl _
  | (g, x) :: r => by
    unfold putF
    split
    · simp
    · have := putF_len f v r
      simp only [List.length_cons]; omega
section
variable {P : Program} {w : World} {K : PySem.W.Frag} {mg : Str → Option Value} {base : Heap} {CW CS CR : Addr}
abbrev DEvery (P : Program) (w : World) (K : PySem.W.Frag) (mg : Str → Option Value) (base : Heap) (CW : Addr) : Prop := Def P w K mg base 3 "every_way" [] (spEvery CW)
/-- Sheet.begin -/
structure Begun (CS CW : Addr) (H H' : Hp) (sh : Addr) (d : SD) : Prop where
  at_ : SheetAt CS CW H' sh d
  names : d.names = 0
  forms : d.forms = []
  starts : d.starts = Uni.free.one
  steps : d.steps = Uni.free.steps
  ks : d.ks = []
  fr : Fr [sh] H H'
  nf : H d.fa = none
  nk : H d.ka = none
def spBegin (CS CW : Addr) : Sp := fun vs H Q _ => ∃ (sh dx : Addr) (fs : List (Str × V)), vs = [.ref sh] ∧ H sh = some (.ins CS dx fs) ∧ (fs = [] ∨ ∃ n f w k, fs = sf n f w k) ∧ ∀ H' d, Begun CS CW H H' sh d → Q .non H'
theorem scBegin : FnScope ["self"] ["self"] (defScope sBegin) := sc_of (by decide +kernel)
theorem begin_fs {fs : List (Str × V)} (h : fs = [] ∨ ∃ n f w k, fs = sf n f w k) : fs.length ≤ 4 ∧ ∀ fa wa ka, putF "kept" (.ref ka) (putF "ways" (.ref wa) (putF "formulas" (.ref fa) (putF "names" (.int 0) fs))) = sf 0 fa wa ka := by
  rcases h with rfl | ⟨n, f, w, k, rfl⟩
  · exact ⟨by decide, fun _ _ _ => rfl⟩
  · exact ⟨Nat.le_refl _, fun _ _ _ => rfl⟩
theorem free_ne : (∀ r ∈ Uni.free.one, r ≠ []) ∧ ∀ r ∈ Uni.free.steps, r ≠ [] :=
  ⟨fun r hr => ne_nil6 (Uf.free_good.six r hr), fun r hr => ne_nil6 (Uf.free_good.sixS r hr)⟩
theorem ok_begin {f : Addr} {fd : FuncData} (F : Fun K "begin" "Sheet.begin" sBegin f fd) (T : TxtS K CS) (d1 : DEvery P w K mg base CW) : FnOk P w K mg base CX0 4 f fd ["self"] (spBegin CS CW) := by
  refine F.ok scBegin (fun vs H Q E h => ?_) (fun cdv A outer s H vs Q E hr h => ?_)
  · obtain ⟨sh, dx, fs, rfl, _⟩ := h
    rfl
  · obtain ⟨sh, dx, fs, rfl, hsh, hfs, k⟩ := h
    obtain ⟨hl, hput⟩ := begin_fs hfs
    refine ⟨_, pss_cons (ps_fld (pv 0) pe_int rfl) (pss_cons (ps_fld (pv 0) (pe_lst pa_nil) rfl) (pss_cons (ps_fld (pv 0) (pe_def0 d1 hr rfl) rfl) (pss_one (ps_fld (pv 0) (pe_lst pa_nil) rfl)))), ?_⟩
    have l1 := putF_len "names" (V.int 0) fs
    refine ⟨_, rfl, sh, CS, dx, fs, rfl, hsh, T.cl, T.nN, by omega, ?_⟩
    refine ⟨Nat.zero_le _, fun fa hfa => ?_⟩
    have nfa : fa ≠ sh := (ne_of_none (H := upd H sh (.ins CS dx (putF "names" (.int 0) fs))) upd_same hfa).symm
    have l2 := putF_len "formulas" (V.ref fa) (putF "names" (V.int 0) fs)
    refine ⟨_, rfl, sh, CS, dx, _, rfl, (by rw [upd_ne (Ne.symm nfa)]; exact upd_same), T.cl, T.nF, by omega, ?_⟩
    refine ⟨rfl, fun H4 wa sa ta s4 nwa nsa nta hwa hsa hta => ?_⟩
    have e3 : (upd (upd (upd H sh (.ins CS dx (putF "names" (.int 0) fs))) fa (.lst [])) sh (.ins CS dx (putF "formulas" (.ref fa) (putF "names" (.int 0) fs)))) sh = some (.ins CS dx (putF "formulas" (.ref fa) (putF "names" (.int 0) fs))) := upd_same
    have e3f : (upd (upd (upd H sh (.ins CS dx (putF "names" (.int 0) fs))) fa (.lst [])) sh (.ins CS dx (putF "formulas" (.ref fa) (putF "names" (.int 0) fs)))) fa = some (.lst []) := by rw [upd_ne nfa, upd_same]
    have h4 := s4 _ _ e3
    have h4f := s4 _ _ e3f
    have l3 := putF_len "ways" (V.ref wa) (putF "formulas" (V.ref fa) (putF "names" (V.int 0) fs))
    refine ⟨_, rfl, sh, CS, dx, _, rfl, h4, T.cl, T.nW, by omega, ?_⟩
    refine ⟨Nat.zero_le _, fun ka hka => ?_⟩
    have nka : ka ≠ sh := (ne_of_none (H := upd H4 sh _) upd_same hka).symm
    refine ⟨_, rfl, sh, CS, dx, _, rfl, (by rw [upd_ne (Ne.symm nka)]; exact upd_same), T.cl, T.nK, by omega, ?_⟩
    rw [hput fa wa ka]
    have hka4 : H4 ka = none := by rw [upd_ne nka] at hka; exact hka
    have nkf : ka ≠ fa := (ne_of_none h4f hka4).symm
    have hfa0 : H fa = none := by rw [upd_ne nfa] at hfa; exact hfa
    have b03 : ∀ b o, H b = some o → b ≠ sh → H4 b = some o := fun b o e hb => s4 _ _ (by rw [upd_ne hb, upd_ne (ne_of_none e hfa0), upd_ne hb]; exact e)
    have hka0 : H ka = none := by
      cases e : H ka with
      | none => rfl
      | some o => rw [b03 ka o e nka] at hka4; cases hka4
    have fr47 : Fr [sh, fa] H4 (upd (upd (upd H4 sh (.ins CS dx (putF "ways" (.ref wa) (putF "formulas" (.ref fa) (putF "names" (.int 0) fs))))) ka (.lst [])) sh (.ins CS dx (sf 0 fa wa ka))) := fun b o e hb => by
      simp only [List.mem_cons, List.not_mem_nil, not_or, or_false] at hb
      rw [upd_ne hb.1, upd_ne (ne_of_none e hka4), upd_ne hb.1]; exact e
    have gr47 : Grow [sh, fa] [sh, ka, fa] H4 := by
      intro b hb
      simp only [List.mem_cons, List.not_mem_nil, or_false] at hb ⊢
      rcases hb with h | h | h
      · exact .inl (.inl h)
      · exact .inr (h ▸ hka4)
      · exact .inl (.inr h)
    have mok : MOk H4 [sh, fa] := by
      intro m hm
      simp only [List.mem_cons, List.not_mem_nil, or_false] at hm
      rcases hm with rfl | rfl
      · exact .inl ⟨_, _, _, h4⟩
      · exact .inr ⟨[], h4f⟩
    have out : ∀ a, (upd (upd (upd H sh (.ins CS dx (putF "names" (.int 0) fs))) fa (.lst [])) sh (.ins CS dx (putF "formulas" (.ref fa) (putF "names" (.int 0) fs)))) a = none → a ∉ [sh, fa] := by
      intro a ha hm
      simp only [List.mem_cons, List.not_mem_nil, or_false] at hm
      rcases hm with rfl | rfl
      · rw [e3] at ha; cases ha
      · rw [e3f] at ha; cases ha
    obtain ⟨dw, hdw⟩ := hwa
    have W4 : WaysFull CW (cut H4 [sh, fa]) wa Uni.free.one Uni.free.steps := ⟨sa, ta, ⟨dw, cut_of hdw (out _ nwa)⟩, mok.rowsAt hsa (out _ nsa) free_ne.1, mok.rowsAt hta (out _ nta) free_ne.2⟩
    refine k _ ⟨fa, wa, ka, 0, [], Uni.free.one, Uni.free.steps, []⟩ ⟨⟨?_, ⟨dx, upd_same⟩, ⟨[], ?_, .nil⟩, W4.same (Fr.cut fr47 gr47), ?_, fun q hq => absurd hq (by simp)⟩, rfl, rfl, rfl, rfl, rfl, ?_, hfa0, hka0⟩
    · show ([sh, ka, fa] : List Addr).Nodup
      simp [Ne.symm nka, Ne.symm nfa, nkf]
    · show upd _ _ _ fa = _
      rw [upd_ne nfa, upd_ne (Ne.symm nkf), upd_ne nfa]; exact h4f
    · show upd _ _ _ ka = _
      rw [upd_ne nka, upd_same]; rfl
    · intro b o e hb
      simp only [List.mem_cons, List.not_mem_nil, or_false] at hb
      rw [upd_ne hb, upd_ne (ne_of_none (b03 b o e hb) hka4), upd_ne hb]
      exact b03 b o e hb
/-- Sheet.__init__ -/
def spSInit (CS CW : Addr) : Sp := fun vs H Q _ => ∃ (sh dx : Addr), vs = [.ref sh] ∧ H sh = some (.ins CS dx []) ∧ ∀ H' d, Begun CS CW H H' sh d → Q .non H'
theorem scSInit : FnScope ["self"] ["self"] (defScope sSInit) := sc_of (by decide +kernel)
abbrev DBegin (P : Program) (w : World) (K : PySem.W.Frag) (mg : Str → Option Value) (base : Heap) (CS CW : Addr) : Prop := MethD P w K mg base 4 CS "begin" ["self"] (spBegin CS CW)
theorem ok_sinit {f : Addr} {fd : FuncData} (F : Fun K "__init__" "Sheet.__init__" sSInit f fd) (T : TxtS K CS) (d1 : DBegin P w K mg base CS CW) : FnOk P w K mg base CX0 5 f fd ["self"] (spSInit CS CW) := by
  obtain ⟨fb, fdb, Fb, mb, bb⟩ := d1
  refine F.ok scSInit (fun vs H Q E h => ?_) (fun cdv A outer s H vs Q E hr h => ?_)
  · obtain ⟨sh, dx, rfl, _⟩ := h
    rfl
  · obtain ⟨sh, dx, rfl, hsh, k⟩ := h
    refine ⟨_, pss_one (ps_expr (pe_meth0 (pv 0) T.cl mb Fb hr bb .nil pass0)), ?_⟩
    exact ⟨_, rfl, sh, dx, [], rfl, hsh, rfl, sh, dx, [], rfl, hsh, .inl rfl, fun H' d B => k H' d B⟩
/-- Sheet.keep -/
def spKeep (CS CW : Addr) : Sp := fun vs H Q _ => ∃ (sh : Addr) (d : SD), vs = [.ref sh] ∧ SheetAt CS CW H sh d ∧ d.ks.length < 8 ∧
  ∀ H' k kf, SheetAt CS CW H' sh { d with ks := ⟨k, kf, d.wa, d.names, d.forms, d.starts, d.steps⟩ :: d.ks } → Fr (d.M sh) H H' → Grow (d.M sh) (sh :: d.ka :: d.fa :: kf :: d.ks.map KD.kf) H → Q .non H'
theorem scKeep : FnScope ["self"] ["self"] (defScope sKeep) := sc_of (by decide +kernel)
theorem ok_keep {f : Addr} {fd : FuncData} (F : Fun K "keep" "Sheet.keep" sKeep f fd) (T : Txt mg) (TS : TxtS K CS) : FnOk P w K mg base CX0 1 f fd ["self"] (spKeep CS CW) := by
  refine F.ok scKeep (fun vs H Q E h => ?_) (fun cdv A outer s H vs Q E hr h => ?_)
  · obtain ⟨sh, d, rfl, _⟩ := h
    rfl
  · obtain ⟨sh, d, rfl, S, hfew, k⟩ := h
    refine ⟨_, pss_one (ps_expr (pe_bm PySem.F.plainAttrs_list PySem.F.slot_list_append PySem.F.type_list_append mt_append (pe_fld (pv 0) rfl)
      (pa_cons (pe_tup (pa_cons (pe_fld (pv 0) rfl) (pa_cons (pe_callTy call_list_of rfl T.nList boot_list (pa_cons (pe_fld (pv 0) rfl) pa_nil)) (pa_cons (pe_fld (pv 0) rfl) pa_nil)))) pa_nil))), ?_⟩
    obtain ⟨dx, hi⟩ := S.ins
    obtain ⟨as, ha, hal⟩ := S.len
    refine ⟨_, rfl, sh, CS, dx, _, _, rfl, hi, TS.cl, TS.nK, rfl, .inl ⟨rfl, _, SqL.of S.hk⟩, ?_⟩
    refine ⟨_, rfl, sh, CS, dx, _, _, rfl, hi, TS.cl, TS.nN, rfl, ?_⟩
    refine ⟨_, rfl, sh, CS, dx, _, _, rfl, hi, TS.cl, TS.nF, rfl, d.fa, _, rfl, .inl (SqL.of ha), fun kf hkf => ?_⟩
    have s1 : Same H (upd H kf (.lst (as.map V.ref))) := Same.new hkf
    refine ⟨_, rfl, sh, CS, dx, _, _, rfl, s1 _ _ hi, TS.cl, TS.nW, rfl, (by show 3 ≤ sizeLine; decide), fun kp hkp => ?_⟩
    obtain ⟨S', fr, gr⟩ := S.keep ha hkf hkp
    have s2 : Same (upd H kf (.lst (as.map V.ref))) (upd (upd H kf (.lst (as.map V.ref))) kp (.tup [.int d.names, .ref kf, .ref d.wa])) := Same.new hkp
    refine ⟨d.ka, _, _, rfl, rfl, s2 _ _ (s1 _ _ S.hk), ?_, ?_⟩
    · rw [List.length_map, List.length_map, List.length_reverse]
      exact Nat.lt_trans hfew (by decide)
    · exact k _ kp kf S' fr gr
/-- Sheet.go_back -/
def spGoBack (CS CW : Addr) : Sp := fun vs H Q _ => ∃ (sh : Addr) (d : SD) (k : KD) (ks : List KD), vs = [.ref sh] ∧ SheetAt CS CW H sh d ∧ d.ks = k :: ks ∧
  ∀ H', SheetAt CS CW H' sh ⟨k.kf, k.wa, d.ka, k.names, k.forms, k.starts, k.steps, ks⟩ → Fr (d.M sh) H H' → Grow (d.M sh) (sh :: d.ka :: k.kf :: ks.map KD.kf) H → Q .non H'
theorem scGoBack : FnScope ["self", "last"] ["self"] (defScope sGoBack) := sc_of (by decide +kernel)
theorem ok_goback {f : Addr} {fd : FuncData} (F : Fun K "go_back" "Sheet.go_back" sGoBack f fd) (TS : TxtS K CS) : FnOk P w K mg base CX0 1 f fd ["self"] (spGoBack CS CW) := by
  refine F.ok scGoBack (fun vs H Q E h => ?_) (fun cdv A outer s H vs Q E hr h => ?_)
  · obtain ⟨sh, d, k, ks, rfl, _⟩ := h
    rfl
  · obtain ⟨sh, d, k, ks, rfl, S, ek, kq⟩ := h
    refine ⟨_, pss_cons (ps_set (i := 1) scGoBack.nd rfl (Or.inl rfl) (pe_bm0 PySem.F.plainAttrs_list PySem.F.slot_list_pop PySem.F.type_list_pop mt_pop (pe_fld (pv 0) rfl)))
      (pss_cons (ps_fld (pv 0) (pe_ix ix_tup (pv 1) pe_int (fun _ _ => rfl)) rfl) (pss_cons (ps_fld (pv 0) (pe_ix ix_tup (pv 1) pe_int (fun _ _ => rfl)) rfl) (pss_one (ps_fld (pv 0) (pe_ix ix_tup (pv 1) pe_int (fun _ _ => rfl)) rfl)))), ?_⟩
    obtain ⟨dx, hi⟩ := S.ins
    obtain ⟨n1, n2, n3⟩ := S.ne1
    have hk := S.hk
    have el : (d.ks.reverse.map KD.k).map V.ref = (ks.reverse.map KD.k).map V.ref ++ [V.ref k.k] := by rw [ek, List.reverse_cons, List.map_append, List.map_append]; rfl
    rw [el] at hk
    refine ⟨_, rfl, sh, CS, dx, _, _, rfl, hi, TS.cl, TS.nK, rfl, .inl ⟨rfl, _, SqL.of hk⟩, d.ka, _, V.ref k.k, rfl, rfl, hk, ?_, ?_⟩
    · rw [List.length_append, List.getElem?_append_right (by simp)]; simp
    · rw [List.dropLast_concat]
      have kt := (S.hks k (by rw [ek]; simp)).1
      obtain ⟨kM, kt⟩ := of_cut kt
      simp only [SD.M, List.mem_cons, not_or] at kM
      have t1 : (upd H d.ka (.lst ((ks.reverse.map KD.k).map V.ref))) k.k = some (.tup [.int k.names, .ref k.kf, .ref k.wa]) := by rw [upd_ne kM.2.1]; exact kt
      have i1 : (upd H d.ka (.lst ((ks.reverse.map KD.k).map V.ref))) sh = some (.ins CS dx (sf d.names d.fa d.wa d.ka)) := by rw [upd_ne n1]; exact hi
      refine ⟨_, rfl, k.k, _, 0, _, rfl, rfl, SqT.of t1, rfl, _, rfl, sh, CS, dx, _, rfl, i1, TS.cl, TS.nN, (by show 4 < 1000; decide), ?_⟩
      refine ⟨_, rfl, k.k, _, 1, _, rfl, rfl, SqT.of (by rw [upd_ne kM.1]; exact t1), rfl, _, rfl, sh, CS, dx, _, rfl, upd_same, TS.cl, TS.nF, (by show 4 < 1000; decide), ?_⟩
      rw [upd_upd]
      refine ⟨_, rfl, k.k, _, 2, _, rfl, rfl, SqT.of (by rw [upd_ne kM.1]; exact t1), rfl, _, rfl, sh, CS, dx, _, rfl, upd_same, TS.cl, TS.nW, (by show 4 < 1000; decide), ?_⟩
      rw [upd_upd]
      obtain ⟨S', fr, gr⟩ := S.back (H' := upd (upd H d.ka (.lst ((ks.reverse.map KD.k).map V.ref))) sh (.ins CS dx (sf k.names k.kf k.wa d.ka))) ek (dx := dx) upd_same (by rw [upd_ne (Ne.symm n1), upd_same]) (fun b hb hb2 => by rw [upd_ne hb, upd_ne hb2])
      exact kq _ S' fr gr
/-! the reader -/
def rf (a : Addr) (p : Nat) : List (Str × V) := [("numbers", .ref a), ("place", .int p)]
structure ReadAt (K : PySem.W.Frag) (CR : Addr) (H0 H : Hp) (rd a : Addr) (calls : List Int) (p : Nat) : Prop where
  hs : Same H0 H
  nr : H0 rd = none
  sq : SqL K H0 a (iV calls)
  ins : ∃ dx, H rd = some (.ins CR dx (rf a p))
theorem ReadAt.fr {H0 H H' : Hp} {rd a : Addr} {calls : List Int} {p : Nat} (R : ReadAt K CR H0 H rd a calls p) {M : List Addr} (f : Fr M H H') (hM : ∀ b ∈ M, H0 b = none) (hr : rd ∉ M) : ReadAt K CR H0 H' rd a calls p := by
  obtain ⟨dx, e⟩ := R.ins
  refine ⟨fun b o q => f b o (R.hs b o q) fun hb => ?_, R.nr, R.sq, ⟨dx, f _ _ e hr⟩⟩
  rw [hM b hb] at q; cases q
def spRInit (CR : Addr) : Sp := fun vs H Q _ => ∃ (p dx a : Addr), vs = [.ref p, .ref a] ∧ H p = some (.ins CR dx []) ∧ ∀ H' : Hp, H' p = some (.ins CR dx (rf a 0)) → (∀ b o, H b = some o → b ≠ p → H' b = some o) → Q .non H'
theorem scRInit : FnScope ["self", "numbers"] ["self", "numbers"] (defScope sRInit) := sc_of (by decide +kernel)
theorem ok_rinit {f : Addr} {fd : FuncData} (F : Fun K "__init__" "Reader.__init__" sRInit f fd) (T : TxtR K CR) : FnOk P w K mg base CX0 1 f fd ["self", "numbers"] (spRInit CR) := by
  refine F.ok scRInit (fun vs H Q E h => ?_) (fun cdv A outer s H vs Q E hr h => ?_)
  · obtain ⟨p, dx, a, rfl, _⟩ := h
    rfl
  · obtain ⟨p, dx, a, rfl, hp, k⟩ := h
    refine ⟨_, pss_cons (ps_fld (pv 0) (pv 1) rfl) (pss_one (ps_fld (pv 0) pe_int rfl)), ?_⟩
    refine ⟨_, rfl, _, rfl, p, CR, dx, [], rfl, hp, T.cl, T.nN, (by show 0 < 1000; decide), ?_⟩
    refine ⟨_, rfl, p, CR, dx, _, rfl, upd_same, T.cl, T.nP, (by show 1 < 1000; decide), ?_⟩
    refine k _ ?_ fun b o e hb => by rw [upd_ne hb, upd_ne hb]; exact e
    rw [upd_same]
    rfl
def spMore (K : PySem.W.Frag) (CR : Addr) : Sp := fun vs H Q _ => ∃ (H0 : Hp) (rd a : Addr) (calls : List Int) (p : Nat), vs = [.ref rd] ∧ ReadAt K CR H0 H rd a calls p ∧ Q (.bl (decide ((p : Int) < (calls.length : Int)))) H
theorem scMore : FnScope ["self"] ["self"] (defScope sMore) := sc_of (by decide +kernel)
theorem ok_more {f : Addr} {fd : FuncData} (F : Fun K "has_more" "Reader.has_more" sMore f fd) (T : Txt mg) (TR : TxtR K CR) : FnOk P w K mg base CX0 1 f fd ["self"] (spMore K CR) := by
  refine F.ok scMore (fun vs H Q E h => ?_) (fun cdv A outer s H vs Q E hr h => ?_)
  · obtain ⟨H0, rd, a, calls, p, rfl, _⟩ := h
    rfl
  · obtain ⟨H0, rd, a, calls, p, rfl, R, k⟩ := h
    refine ⟨_, pss_one (ps_ret (pe_cmpR op_lt (pe_fld (pv 0) rfl) (pe_callB call_len_seq rfl T.nLen boot_len (pa_cons (pe_fld (pv 0) rfl) pa_nil)) (nomark _))), ?_⟩
    obtain ⟨dx, hi⟩ := R.ins
    refine ⟨_, rfl, rd, CR, dx, _, _, rfl, hi, TR.cl, TR.nP, rfl, _, rfl, rd, CR, dx, _, _, rfl, hi, TR.cl, TR.nN, rfl, a, _, rfl, .inl (R.hs.seq R.sq), _, _, rfl, rfl, ?_⟩
    rw [List.length_map]
    exact k
def spNumber (K : PySem.W.Frag) (CR : Addr) : Sp := fun vs H Q _ => ∃ (H0 : Hp) (rd a : Addr) (calls : List Int) (p : Nat) (z : Int), vs = [.ref rd] ∧ ReadAt K CR H0 H rd a calls p ∧ calls[p]? = some z ∧ ∀ H', ReadAt K CR H0 H' rd a calls (p + 1) → Fr [rd] H H' → Q (.int z) H'
theorem scNumber : FnScope ["self"] ["self"] (defScope sNumber) := sc_of (by decide +kernel)
theorem ReadAt.upd {H0 H : Hp} {rd a : Addr} {calls : List Int} {p q : Nat} {dx : Addr} (R : ReadAt K CR H0 H rd a calls p) : ReadAt K CR H0 (L2.upd H rd (.ins CR dx (rf a q))) rd a calls q := ⟨Same.updR R.nr R.hs, R.nr, R.sq, ⟨dx, upd_same⟩⟩
theorem ok_number {f : Addr} {fd : FuncData} (F : Fun K "number" "Reader.number" sNumber f fd) (TR : TxtR K CR) : FnOk P w K mg base CX0 1 f fd ["self"] (spNumber K CR) := by
  refine F.ok scNumber (fun vs H Q E h => ?_) (fun cdv A outer s H vs Q E hr h => ?_)
  · obtain ⟨H0, rd, a, calls, p, z, rfl, _⟩ := h
    rfl
  · obtain ⟨H0, rd, a, calls, p, z, rfl, R, hz, k⟩ := h
    refine ⟨_, pss_cons (ps_fldaug (pv 0) pe_int in_add) (pss_one (ps_ret (pe_ix ix_list (pe_fld (pv 0) rfl) (pe_op op_sub (pe_fld (pv 0) rfl) pe_int) (fun _ _ => rfl)))), ?_⟩
    obtain ⟨dx, hi⟩ := R.ins
    refine ⟨_, rfl, rd, CR, dx, _, _, rfl, hi, TR.cl, TR.nP, rfl, _, _, rfl, rfl, dx, _, hi, (by show 2 < 1000; decide), ?_⟩
    have R' : ReadAt K CR H0 (L2.upd H rd (.ins CR dx (rf a (p + 1)))) rd a calls (p + 1) := R.upd
    rw [show putF "place" (V.int ((p : Int) + 1)) (rf a p) = rf a (p + 1) from rfl]
    refine ⟨_, rfl, rd, CR, dx, _, _, rfl, upd_same, TR.cl, TR.nN, rfl, _, rfl, rd, CR, dx, _, _, rfl, upd_same, TR.cl, TR.nP, rfl, _, _, rfl, rfl, a, _, _, _, rfl, rfl, R'.hs.seq R.sq, at_of (j := p) (v := V.int z) (by omega) (by rw [List.getElem?_map, hz]; rfl), ?_⟩
    exact k _ R' (Fr.upd (by simp))
abbrev DNumber (P : Program) (w : World) (K : PySem.W.Frag) (mg : Str → Option Value) (base : Heap) (CR : Addr) : Prop := MethD P w K mg base 1 CR "number" ["self"] (spNumber K CR)
def spRow (K : PySem.W.Frag) (CR : Addr) : Sp := fun vs H Q _ => ∃ (H0 : Hp) (rd a : Addr) (calls : List Int) (p m : Nat), vs = [.ref rd] ∧ ReadAt K CR H0 H rd a calls p ∧ calls[p]? = some (m : Int) ∧ p + 1 + m ≤ calls.length ∧
  ∀ H' D, ReadAt K CR H0 H' rd a calls (p + 1 + m) → Fr [rd] H H' → H D = none → RowAt H' D ((calls.drop (p + 1)).take m) → Q (.ref D) H'
theorem scRow : FnScope ["self", "length", "first"] ["self"] (defScope sRow) := sc_of (by decide +kernel)
theorem ok_row {f : Addr} {fd : FuncData} (F : Fun K "row" "Reader.row" sRow f fd) (TR : TxtR K CR) (d1 : DNumber P w K mg base CR) : FnOk P w K mg base CX0 2 f fd ["self"] (spRow K CR) := by
  obtain ⟨fb, fdb, Fb, mb, bb⟩ := d1
  refine F.ok scRow (fun vs H Q E h => ?_) (fun cdv A outer s H vs Q E hr h => ?_)
  · obtain ⟨H0, rd, a, calls, p, m, rfl, _⟩ := h
    rfl
  · obtain ⟨H0, rd, a, calls, p, m, rfl, R, hz, hm, k⟩ := h
    refine ⟨_, pss_cons (ps_set (i := 1) scRow.nd rfl (Or.inl rfl) (pe_meth0 (pv 0) TR.cl mb Fb hr bb .nil pass0))
      (pss_cons (ps_set (i := 2) scRow.nd rfl (Or.inl rfl) (pe_fld (pv 0) rfl))
      (pss_cons (ps_fldaug (pv 0) (pv 1) in_add)
      (pss_one (ps_ret (pe_slice sl_list (pe_fld (pv 0) rfl) (po_some (pv 2)) (po_some (pe_fld (pv 0) rfl))))))), ?_⟩
    obtain ⟨dx0, hi0⟩ := R.ins
    refine ⟨_, rfl, rd, dx0, _, rfl, hi0, rfl, H0, rd, a, calls, p, m, rfl, R, hz, fun H1 R1 f1 => ?_⟩
    obtain ⟨dx, hi⟩ := R1.ins
    refine ⟨_, rfl, rd, CR, dx, _, _, rfl, hi, TR.cl, TR.nP, rfl, ?_⟩
    refine ⟨_, rfl, rd, CR, dx, _, _, rfl, hi, TR.cl, TR.nP, rfl, _, rfl, _, _, rfl, rfl, dx, _, hi, (by show 2 < 1000; decide), ?_⟩
    have R2 : ReadAt K CR H0 (L2.upd H1 rd (.ins CR dx (rf a (p + 1 + m)))) rd a calls (p + 1 + m) := R1.upd
    rw [show putF "place" (V.int (((p + 1 : Nat) : Int) + (m : Int))) (rf a (p + 1)) = rf a (p + 1 + m) from rfl]
    refine ⟨_, rfl, rd, CR, dx, _, _, rfl, upd_same, TR.cl, TR.nN, rfl, _, rfl, ((p + 1 : Nat) : Int), rfl, _, rfl, rd, CR, dx, _, _, rfl, upd_same, TR.cl, TR.nP, rfl, ((p + 1 + m : Nat) : Int), rfl, a, _, rfl, R2.hs.seq R.sq, fun D hD => ?_⟩
    have ec : cutV (iV calls) (some ((p + 1 : Nat) : Int)) (some ((p + 1 + m : Nat) : Int)) = iV ((calls.drop (p + 1)).take m) := by
      unfold cutV
      rw [HT.sIx_nat, HT.sIx_nat, List.length_map, Nat.min_eq_left (by omega), Nat.min_eq_left (by omega), show p + 1 + m - (p + 1) = m by omega]
      unfold iV
      rw [List.map_take, List.map_drop]
    rw [ec]
    have f2 : Fr [rd] H (L2.upd H1 rd (.ins CR dx (rf a (p + 1 + m)))) := f1.trans1 (Fr.upd (by simp))
    have s3 : Same (L2.upd H1 rd (.ins CR dx (rf a (p + 1 + m)))) (L2.upd (L2.upd H1 rd (.ins CR dx (rf a (p + 1 + m)))) D (.lst (iV ((calls.drop (p + 1)).take m)))) := Same.new hD
    refine k _ D ⟨R2.hs.trans s3, R.nr, R.sq, ⟨dx, s3 _ _ upd_same⟩⟩ (f2.trans1 s3.fr) ?_ upd_same
    have nrd : D ≠ rd := (ne_of_none (H := L2.upd H1 rd (.ins CR dx (rf a (p + 1 + m)))) upd_same hD).symm
    cases e : H D with
    | none => rfl
    | some o => rw [f2 D o e (by simp [nrd])] at hD; cases hD
end
end Ug

set_option Elab.async false
set_option linter.all false
set_option maxRecDepth 100000
set_option maxHeartbeats 2000000
namespace Ug
open PySem PySem.Spec PyProof.Rows L2
abbrev sHas : Stmt := top 37
abbrev sHas2 : Stmt := top 38
abbrev sRoom : Stmt := top 39
abbrev sRoomN : Stmt := top 40
abbrev sQuot : Stmt := top 42
abbrev sAcc : Stmt := top 43
abbrev sNext : Stmt := top 44
abbrev sKeepF : Stmt := top 45
abbrev sKeepN : Stmt := top 46
theorem small_mul {t y : Int} (ht : t.natAbs < 2 ^ 8) (hy : y.natAbs ≤ 12) : IntMulOk t y := mulOk_of (m := 8) (n := 4) ht (by omega) (by decide)
theorem size13 {r : Uni.Row} (h : r.length = 13) : r.length < sizeLine := by rw [h]; decide
theorem ne13 {r : Uni.Row} (h : r.length = 13) : r ≠ [] := by intro e; rw [e] at h; simp at h
theorem at_ref {as : List Addr} {a : Nat} {ea : Addr} (h : as[a]? = some ea) : atI (as.map V.ref) (a : Int) = some (V.ref ea) := at_of rfl (by rw [List.getElem?_map, h]; rfl)
section
variable {P : Program} {w : World} {K : PySem.W.Frag} {mg : Str → Option Value} {base : Heap} {CW CS CR : Addr}
/-- has_formula(sheet, a) -/
def spHas (CS CW : Addr) : Sp := fun vs H Q _ => ∃ (sh : Addr) (d : SD) (a : Nat), vs = [.ref sh, .int a] ∧ SheetAt CS CW H sh d ∧ Q (.bl (decide (a < d.forms.length))) H
theorem scHas : FnScope ["sheet", "a"] ["sheet", "a"] (defScope sHas) := sc_of (by decide +kernel)
theorem ok_has {f : Addr} {fd : FuncData} (F : Fun K "has_formula" "has_formula" sHas f fd) (T : Txt mg) (TS : TxtS K CS) : FnOk P w K mg base CX0 1 f fd ["sheet", "a"] (spHas CS CW) := by
  refine F.ok scHas (fun vs H Q E h => ?_) (fun cdv A outer s H vs Q E hr h => ?_)
  · obtain ⟨sh, d, a, rfl, _⟩ := h
    rfl
  · obtain ⟨sh, d, a, rfl, S, k⟩ := h
    refine ⟨_, pss_one (ps_ret (pe_cmpR op_lt (pv 1) (pe_callB call_len_seq rfl T.nLen boot_len (pa_cons (pe_fld (pv 0) rfl) pa_nil)) (nomark _))), ?_⟩
    obtain ⟨dx, hi⟩ := S.ins
    obtain ⟨as, ha, hal⟩ := S.len
    refine ⟨_, rfl, _, rfl, sh, CS, dx, _, _, rfl, hi, TS.cl, TS.nF, rfl, d.fa, _, rfl, .inl (SqL.of ha), _, _, rfl, rfl, ?_⟩
    have e : decide ((a : Int) < ((as.map V.ref).length : Int)) = decide (a < d.forms.length) := decide_eq_decide.mpr (by rw [List.length_map, hal]; omega)
    show Q (V.bl (decide ((a : Int) < ((as.map V.ref).length : Int)))) H
    rw [e]
    exact k
abbrev DHas (P : Program) (w : World) (K : PySem.W.Frag) (mg : Str → Option Value) (base : Heap) (CS CW : Addr) : Prop := Def P w K mg base 1 "has_formula" ["sheet", "a"] (spHas CS CW)
/-- has_formulas(sheet, a, b) -/
def spHas2 (CS CW : Addr) : Sp := fun vs H Q _ => ∃ (sh : Addr) (d : SD) (a b : Nat), vs = [.ref sh, .int a, .int b] ∧ SheetAt CS CW H sh d ∧ Q (.bl (decide (a < d.forms.length ∧ b < d.forms.length))) H
theorem scHas2 : FnScope ["sheet", "a", "b"] ["sheet", "a", "b"] (defScope sHas2) := sc_of (by decide +kernel)
theorem ok_has2 {f : Addr} {fd : FuncData} (F : Fun K "has_formulas" "has_formulas" sHas2 f fd) (d1 : DHas P w K mg base CS CW) : FnOk P w K mg base CX0 2 f fd ["sheet", "a", "b"] (spHas2 CS CW) := by
  refine F.ok scHas2 (fun vs H Q E h => ?_) (fun cdv A outer s H vs Q E hr h => ?_)
  · obtain ⟨sh, d, a, b, rfl, _⟩ := h
    rfl
  · obtain ⟨sh, d, a, b, rfl, S, k⟩ := h
    refine ⟨_, pss_one (ps_ret (pe_and (pe_def d1 hr rfl (pa_cons (pv 0) (pa_cons (pv 1) pa_nil))) (pe_one (pe_def d1 hr rfl (pa_cons (pv 0) (pa_cons (pv 2) pa_nil)))))), ?_⟩
    refine ⟨_, rfl, _, rfl, sh, d, a, rfl, S, _, rfl, ite2 (fun h => ?_) (fun h => ?_)⟩
    · have h1 : a < d.forms.length := of_decide_eq_true h
      refine ⟨_, rfl, _, rfl, sh, d, b, rfl, S, ?_⟩
      have e : decide (b < d.forms.length) = decide (a < d.forms.length ∧ b < d.forms.length) := decide_eq_decide.mpr ⟨fun q => ⟨h1, q⟩, fun q => q.2⟩
      rw [e]; exact k
    · have h1 : ¬ a < d.forms.length := fun q => h (decide_eq_true q)
      have e : decide (a < d.forms.length ∧ b < d.forms.length) = false := decide_eq_false fun q => h1 q.1
      rw [e] at k; exact k
abbrev DHas2 (P : Program) (w : World) (K : PySem.W.Frag) (mg : Str → Option Value) (base : Heap) (CS CW : Addr) : Prop := Def P w K mg base 2 "has_formulas" ["sheet", "a", "b"] (spHas2 CS CW)
/-- has_room(sheet) -/
def spRoom (CS CW : Addr) : Sp := fun vs H Q _ => ∃ (sh : Addr) (d : SD), vs = [.ref sh] ∧ SheetAt CS CW H sh d ∧ Q (.bl (decide (d.forms.length < 64))) H
theorem scRoom : FnScope ["sheet"] ["sheet"] (defScope sRoom) := sc_of (by decide +kernel)
theorem ok_room {f : Addr} {fd : FuncData} (F : Fun K "has_room" "has_room" sRoom f fd) (T : Txt mg) (TS : TxtS K CS) : FnOk P w K mg base CX0 1 f fd ["sheet"] (spRoom CS CW) := by
  refine F.ok scRoom (fun vs H Q E h => ?_) (fun cdv A outer s H vs Q E hr h => ?_)
  · obtain ⟨sh, d, rfl, _⟩ := h
    rfl
  · obtain ⟨sh, d, rfl, S, k⟩ := h
    refine ⟨_, pss_one (ps_ret (pe_cmpR op_lt (pe_callB call_len_seq rfl T.nLen boot_len (pa_cons (pe_fld (pv 0) rfl) pa_nil)) (pe_num rfl T.cForms) (nomark _))), ?_⟩
    obtain ⟨dx, hi⟩ := S.ins
    obtain ⟨as, ha, hal⟩ := S.len
    refine ⟨_, rfl, sh, CS, dx, _, _, rfl, hi, TS.cl, TS.nF, rfl, d.fa, _, rfl, .inl (SqL.of ha), _, _, rfl, rfl, ?_⟩
    have e : decide (((as.map V.ref).length : Int) < 64) = decide (d.forms.length < 64) := decide_eq_decide.mpr (by rw [List.length_map, hal]; omega)
    show Q (V.bl (decide (((as.map V.ref).length : Int) < 64))) H
    rw [e]
    exact k
abbrev DRoom (P : Program) (w : World) (K : PySem.W.Frag) (mg : Str → Option Value) (base : Heap) (CS CW : Addr) : Prop := Def P w K mg base 1 "has_room" ["sheet"] (spRoom CS CW)
/-- has_room_for_name(sheet) -/
def spRoomN (CS CW : Addr) : Sp := fun vs H Q _ => ∃ (sh : Addr) (d : SD), vs = [.ref sh] ∧ SheetAt CS CW H sh d ∧ Q (.bl (decide (d.names < 6 ∧ d.forms.length < 64))) H
theorem scRoomN : FnScope ["sheet"] ["sheet"] (defScope sRoomN) := sc_of (by decide +kernel)
theorem ok_roomN {f : Addr} {fd : FuncData} (F : Fun K "has_room_for_name" "has_room_for_name" sRoomN f fd) (T : Txt mg) (TS : TxtS K CS) (d1 : DRoom P w K mg base CS CW) : FnOk P w K mg base CX0 2 f fd ["sheet"] (spRoomN CS CW) := by
  refine F.ok scRoomN (fun vs H Q E h => ?_) (fun cdv A outer s H vs Q E hr h => ?_)
  · obtain ⟨sh, d, rfl, _⟩ := h
    rfl
  · obtain ⟨sh, d, rfl, S, k⟩ := h
    refine ⟨_, pss_one (ps_ret (pe_and (pe_cmpR op_lt (pe_fld (pv 0) rfl) (pe_num rfl T.cNames) (nomark _)) (pe_one (pe_def d1 hr rfl (pa_cons (pv 0) pa_nil))))), ?_⟩
    obtain ⟨dx, hi⟩ := S.ins
    refine ⟨_, rfl, sh, CS, dx, _, _, rfl, hi, TS.cl, TS.nN, rfl, _, _, rfl, rfl, _, rfl, ite2 (fun h => ?_) (fun h => ?_)⟩
    · have h0 : (d.names : Int) < 6 := of_decide_eq_true h
      have h1 : d.names < 6 := by omega
      refine ⟨_, rfl, sh, d, rfl, S, ?_⟩
      have e : decide (d.forms.length < 64) = decide (d.names < 6 ∧ d.forms.length < 64) := decide_eq_decide.mpr ⟨fun q => ⟨h1, q⟩, fun q => q.2⟩
      rw [e]; exact k
    · have h1 : ¬ d.names < 6 := fun q => h (decide_eq_true (by omega))
      have e : decide (d.names < 6 ∧ d.forms.length < 64) = false := decide_eq_false fun q => h1 q.1
      rw [e] at k; exact k
abbrev DRoomN (P : Program) (w : World) (K : PySem.W.Frag) (mg : Str → Option Value) (base : Heap) (CS CW : Addr) : Prop := Def P w K mg base 2 "has_room_for_name" ["sheet"] (spRoomN CS CW)
/-- quotient(sheet, a, b) -/
def spQuot (CS CW : Addr) : Sp := fun vs H Q _ => ∃ (sh : Addr) (d : SD) (a b : Nat) (ra rb : Uni.Row), vs = [.ref sh, .int a, .int b] ∧ SheetAt CS CW H sh d ∧ (∀ r ∈ d.forms, r.length = 13 ∧ Uf.Bd 6 r) ∧ d.forms[a]? = some ra ∧ d.forms[b]? = some rb ∧
  ∀ D H', H D = none → Same H H' → RowAt H' D (Uni.plus ra rb (-1)) → Q (.ref D) H'
theorem scQuot : FnScope ["sheet", "a", "b"] ["sheet", "a", "b"] (defScope sQuot) := sc_of (by decide +kernel)
theorem ok_quot {f : Addr} {fd : FuncData} (F : Fun K "quotient" "quotient" sQuot f fd) (TS : TxtS K CS) (d2 : DWith P w K mg base) : FnOk P w K mg base CX0 2 f fd ["sheet", "a", "b"] (spQuot CS CW) := by
  refine F.ok scQuot (fun vs H Q E h => ?_) (fun cdv A outer s H vs Q E hr h => ?_)
  · obtain ⟨sh, d, a, b, ra, rb, rfl, _⟩ := h
    rfl
  · obtain ⟨sh, d, a, b, ra, rb, rfl, S, hrow, hra, hrb, k⟩ := h
    refine ⟨_, pss_one (ps_ret (pe_def d2 hr rfl (pa_cons (pe_ix ix_list (pe_fld (pv 0) rfl) (pv 1) (fun _ _ => rfl)) (pa_cons (pe_un un_neg pe_int) (pa_cons (pe_ix ix_list (pe_fld (pv 0) rfl) (pv 2) (fun _ _ => rfl)) pa_nil))))), ?_⟩
    obtain ⟨dx, hi⟩ := S.ins
    obtain ⟨as, ea, ha, hea, hrea⟩ := S.form hra
    obtain ⟨as', eb, ha', heb, hreb⟩ := S.form hrb
    have r1 := hrow ra (List.mem_of_getElem? hra)
    have r2 := hrow rb (List.mem_of_getElem? hrb)
    refine ⟨_, rfl, sh, CS, dx, _, _, rfl, hi, TS.cl, TS.nF, rfl, _, rfl, d.fa, _, _, _, rfl, rfl, SqL.of ha, at_ref hea, 1, rfl, _, rfl, sh, CS, dx, _, _, rfl, hi, TS.cl, TS.nF, rfl, _, rfl, d.fa, _, _, _, rfl, rfl, SqL.of ha', at_ref heb, ?_⟩
    refine ⟨ea, eb, ra, rb, -1, rfl, (hrea.same cut_le).sq, (hreb.same cut_le).sq, size13 r1.1, fun y hy => small_mul (by decide) (Nat.le_trans (r2.2 y hy) (by decide)), fun D H' hD s' h' => k D H' hD s' h'⟩
abbrev DQuot (P : Program) (w : World) (K : PySem.W.Frag) (mg : Str → Option Value) (base : Heap) (CS CW : Addr) : Prop := Def P w K mg base 2 "quotient" ["sheet", "a", "b"] (spQuot CS CW)
abbrev DLine (P : Program) (w : World) (K : PySem.W.Frag) (mg : Str → Option Value) (base : Heap) (CW : Addr) : Prop := Def P w K mg base 4 "ways_with_line" ["ways", "line"] (spLine CW)
/-- accepts_line(sheet, line) -/
def spAcc (CS CW : Addr) : Sp := fun vs H Q _ => ∃ (sh : Addr) (d : SD) (ln : Addr) (line : Uni.Row), vs = [.ref sh, .ref ln] ∧ SheetAt CS CW H sh d ∧ RowAt H ln line ∧ line.length = 13 ∧ Uf.Bd 12 line ∧ Uf.Good d.starts d.steps ∧ Uf.SizeOk d.starts d.steps ∧
  (∀ H', Same H H' → Uf.LineNo (line.take 6) (line.drop 6) d.starts d.steps → Q (.bl false) H') ∧
  (∀ H' wa st sp, SheetAt CS CW H' sh { d with wa := wa, starts := st, steps := sp } → Fr (d.M sh) H H' → Uf.LineYes (line.take 6) (line.drop 6) d.starts d.steps st sp → Uf.SizeOk st sp → Q (.bl true) H')
theorem scAcc : FnScope ["sheet", "line", "ways"] ["sheet", "line"] (defScope sAcc) := sc_of (by decide +kernel)
theorem ok_acc {f : Addr} {fd : FuncData} (F : Fun K "accepts_line" "accepts_line" sAcc f fd) (TS : TxtS K CS) (d1 : DLine P w K mg base CW) : FnOk P w K mg base CX0 5 f fd ["sheet", "line"] (spAcc CS CW) := by
  refine F.ok scAcc (fun vs H Q E h => ?_) (fun cdv A outer s H vs Q E hr h => ?_)
  · obtain ⟨sh, d, ln, line, rfl, _⟩ := h
    rfl
  · obtain ⟨sh, d, ln, line, rfl, S, hln, h13, h12, G, Z, kno, kyes⟩ := h
    refine ⟨_, pss_cons (ps_set (i := 2) scAcc.nd rfl (Or.inl rfl) (pe_def d1 hr rfl (pa_cons (pe_fld (pv 0) rfl) (pa_cons (pv 1) pa_nil))))
      (pss_cons (ps_if (pt_cmpR op_isN (pv 2) pe_non (nomark _)) (pss_one (ps_ret pe_bl)) pss_nil)
      (pss_cons (ps_fld (pv 0) (pv 2) rfl) (pss_one (ps_ret pe_bl)))), ?_⟩
    obtain ⟨dx, hi⟩ := S.ins
    obtain ⟨sa, ta, hw1, hw2, hw3⟩ := S.hw
    refine ⟨_, rfl, sh, CS, dx, _, _, rfl, hi, TS.cl, TS.nW, rfl, _, rfl, d.wa, ln, sa, ta, d.starts, d.steps, line, rfl, hw1.same cut_le, hw2.same cut_le, hw3.same cut_le, hln, h13, h12, G, Z, ?_, ?_⟩
    · intro H' s' N
      refine ⟨_, rfl, rfl, _, rfl, iteT ?_⟩
      exact kno H' s' N
    · intro H' wa sa' ta' st sp s' nwa nsa nta hwa hsa hta Y Z'
      refine ⟨_, rfl, rfl, _, rfl, iteF ?_⟩
      have S1 := S.same s'
      obtain ⟨dw, hdw⟩ := hwa
      have W : WaysFull CW (cut H' (d.M sh)) wa st sp := ⟨sa', ta', ⟨dw, cut_of hdw (S.fresh nwa)⟩, S1.mok.rowsAt hsa (S.fresh nsa) fun r hr => ne_nil6 (Y.good.six r hr), S1.mok.rowsAt hta (S.fresh nta) fun r hr => ne_nil6 (Y.good.sixS r hr)⟩
      refine ⟨_, rfl, _, rfl, sh, CS, dx, _, rfl, s' _ _ hi, TS.cl, TS.nW, (by show 4 < 1000; decide), ?_⟩
      exact kyes _ wa st sp (S1.fields (dx := dx) (n := d.names) W) (s'.fr.trans1 (Fr.upd SD.m_sh)) Y Z'
abbrev DAcc (P : Program) (w : World) (K : PySem.W.Frag) (mg : Str → Option Value) (base : Heap) (CS CW : Addr) : Prop := Def P w K mg base 5 "accepts_line" ["sheet", "line"] (spAcc CS CW)
/-- next_name(sheet) -/
def spNext (CS CW : Addr) : Sp := fun vs H Q _ => ∃ (sh : Addr) (d : SD), vs = [.ref sh] ∧ SheetAt CS CW H sh d ∧ ∀ D H', H D = none → Same H H' → RowAt H' D (Uf.single d.names 13) → Q (.ref D) H'
theorem scNext : FnScope ["sheet"] ["sheet"] (defScope sNext) := sc_of (by decide +kernel)
theorem ok_next {f : Addr} {fd : FuncData} (F : Fun K "next_name" "next_name" sNext f fd) (T : Txt mg) (TS : TxtS K CS) (d1 : DSingle P w K mg base) : FnOk P w K mg base CX0 2 f fd ["sheet"] (spNext CS CW) := by
  refine F.ok scNext (fun vs H Q E h => ?_) (fun cdv A outer s H vs Q E hr h => ?_)
  · obtain ⟨sh, d, rfl, _⟩ := h
    rfl
  · obtain ⟨sh, d, rfl, S, k⟩ := h
    refine ⟨_, pss_one (ps_ret (pe_def d1 hr rfl (pa_cons (pe_fld (pv 0) rfl) (pa_cons (pe_op op_add (pe_num rfl T.cNames) (pe_num rfl T.cUnits)) pa_nil)))), ?_⟩
    obtain ⟨dx, hi⟩ := S.ins
    exact ⟨_, rfl, sh, CS, dx, _, _, rfl, hi, TS.cl, TS.nN, rfl, _, _, rfl, rfl, d.names, 13, rfl, by decide, fun D H' hD s' h' => k D H' hD s' h'⟩
abbrev DNext (P : Program) (w : World) (K : PySem.W.Frag) (mg : Str → Option Value) (base : Heap) (CS CW : Addr) : Prop := Def P w K mg base 2 "next_name" ["sheet"] (spNext CS CW)
abbrev DSmall (P : Program) (w : World) (K : PySem.W.Frag) (mg : Str → Option Value) (base : Heap) : Prop := Def P w K mg base 1 "is_small" ["exponents"] (spSmall K)
/-- keep_formula(sheet, exponents) -/
def spKeepF (CS CW : Addr) : Sp := fun vs H Q _ => ∃ (sh : Addr) (d : SD) (e : Addr) (r : Uni.Row), vs = [.ref sh, .ref e] ∧ SheetAt CS CW H sh d ∧ RowAt (cut H (d.M sh)) e r ∧ r.length = 13 ∧
  ((d.forms.length < 64 ∧ Uf.Bd 6 r) → ∀ H', SheetAt CS CW H' sh { d with forms := d.forms ++ [r] } → Fr (d.M sh) H H' → Q (.int (d.forms.length : Nat)) H') ∧
  (¬ (d.forms.length < 64 ∧ Uf.Bd 6 r) → ∀ H', Same H H' → Q (.int (-2)) H')
theorem scKeepF : FnScope ["sheet", "exponents"] ["sheet", "exponents"] (defScope sKeepF) := sc_of (by decide +kernel)
theorem ok_keepF {f : Addr} {fd : FuncData} (F : Fun K "keep_formula" "keep_formula" sKeepF f fd) (T : Txt mg) (TS : TxtS K CS) (d1 : DRoom P w K mg base CS CW) (d2 : DSmall P w K mg base) : FnOk P w K mg base CX0 2 f fd ["sheet", "exponents"] (spKeepF CS CW) := by
  refine F.ok scKeepF (fun vs H Q E h => ?_) (fun cdv A outer s H vs Q E hr h => ?_)
  · obtain ⟨sh, d, e, r, rfl, _⟩ := h
    rfl
  · obtain ⟨sh, d, e, r, rfl, S, he, h13, kyes, kno⟩ := h
    refine ⟨_, pss_cons (ps_if (PW.pt (pw_or (pt_not (pt_val (pe_def d1 hr rfl (pa_cons (pv 0) pa_nil)))) (pw_or1 (pt_not (pt_val (pe_def d2 hr rfl (pa_cons (pv 1) pa_nil))))))) (pss_one (ps_ret (pe_num rfl T.rMuch))) pss_nil)
      (pss_cons (ps_expr (pe_bm PySem.F.plainAttrs_list PySem.F.slot_list_append PySem.F.type_list_append mt_append (pe_fld (pv 0) rfl) (pa_cons (pv 1) pa_nil)))
      (pss_one (ps_ret (pe_op op_sub (pe_callB call_len_seq rfl T.nLen boot_len (pa_cons (pe_fld (pv 0) rfl) pa_nil)) pe_int)))), ?_⟩
    refine ⟨_, rfl, sh, d, rfl, S, _, rfl, ite2 (fun h => ?_) (fun h => ?_)⟩
    · have h1 : ¬ d.forms.length < 64 := by simpa using h
      refine iteT ?_
      exact kno (fun q => h1 q.1) H (Same.refl _)
    · have h1 : d.forms.length < 64 := by simpa using h
      refine ⟨_, rfl, e, r, rfl, (he.same cut_le).sq, size13 h13, fun H1 b s1 hb => ⟨_, rfl, ite2 (fun h2 => ?_) (fun h2 => ?_)⟩⟩
      · have hb' : b = false := by simpa using h2
        exact kno (fun q => by rw [hb.mpr q.2] at hb'; cases hb') H1 s1
      · have hb' : b = true := by simpa using h2
        have S1 := S.same s1
        obtain ⟨dx, hi⟩ := S1.ins
        obtain ⟨as, ha, hal⟩ := S1.len
        have he1 : RowAt (cut H1 (d.M sh)) e r := he.same (Fr.cut s1.fr (Grow.refl _ _))
        have S2 := S1.more ha he1
        obtain ⟨dx2, hi2⟩ := S2.ins
        refine ⟨_, rfl, sh, CS, dx, _, _, rfl, hi, TS.cl, TS.nF, rfl, .inl ⟨rfl, _, SqL.of ha⟩, _, rfl, d.fa, _, _, rfl, rfl, ha, ?_, ?_⟩
        · rw [List.length_map, hal]; exact Nat.lt_trans h1 (by decide)
        · refine ⟨_, rfl, sh, CS, dx2, _, _, rfl, hi2, TS.cl, TS.nF, rfl, d.fa, _, rfl, .inl (SqL.of upd_same), _, _, rfl, rfl, ?_⟩
          have := kyes ⟨h1, hb.mp hb'⟩ _ S2 (s1.fr.trans1 (Fr.upd SD.m_fa))
          have el : (((as.map V.ref ++ [V.ref e]).length : Nat) : Int) - 1 = ((d.forms.length : Nat) : Int) := by
            rw [List.length_append, List.length_map, hal]; simp
          show Q (V.int (((as.map V.ref ++ [V.ref e]).length : Int) - 1)) _
          rw [el]
          exact this
abbrev DKeepF (P : Program) (w : World) (K : PySem.W.Frag) (mg : Str → Option Value) (base : Heap) (CS CW : Addr) : Prop := Def P w K mg base 2 "keep_formula" ["sheet", "exponents"] (spKeepF CS CW)
/-- keep_next_name(sheet) -/
def spKeepN (CS CW : Addr) : Sp := fun vs H Q _ => ∃ (sh : Addr) (d : SD), vs = [.ref sh] ∧ SheetAt CS CW H sh d ∧ d.names < 6 ∧ d.forms.length < 64 ∧
  ∀ H', SheetAt CS CW H' sh { d with names := d.names + 1, forms := d.forms ++ [Uf.single d.names 13] } → Fr (d.M sh) H H' → Q (.int (d.forms.length : Nat)) H'
theorem scKeepN : FnScope ["sheet", "exponents"] ["sheet"] (defScope sKeepN) := sc_of (by decide +kernel)
theorem ok_keepN {f : Addr} {fd : FuncData} (F : Fun K "keep_next_name" "keep_next_name" sKeepN f fd) (TS : TxtS K CS) (d1 : DNext P w K mg base CS CW) (d2 : DKeepF P w K mg base CS CW) : FnOk P w K mg base CX0 3 f fd ["sheet"] (spKeepN CS CW) := by
  refine F.ok scKeepN (fun vs H Q E h => ?_) (fun cdv A outer s H vs Q E hr h => ?_)
  · obtain ⟨sh, d, rfl, _⟩ := h
    rfl
  · obtain ⟨sh, d, rfl, S, hn, hl, k⟩ := h
    refine ⟨_, pss_cons (ps_set (i := 1) scKeepN.nd rfl (Or.inl rfl) (pe_def d1 hr rfl (pa_cons (pv 0) pa_nil)))
      (pss_cons (ps_fldaug (pv 0) pe_int in_add) (pss_one (ps_ret (pe_def d2 hr rfl (pa_cons (pv 0) (pa_cons (pv 1) pa_nil)))))), ?_⟩
    refine ⟨_, rfl, sh, d, rfl, S, fun D H1 hD s1 h1 => ?_⟩
    have S1 := S.same s1
    obtain ⟨dx, hi⟩ := S1.ins
    refine ⟨_, rfl, sh, CS, dx, _, _, rfl, hi, TS.cl, TS.nN, rfl, _, _, rfl, rfl, dx, _, hi, (by show 4 < 1000; decide), ?_⟩
    have S2 : SheetAt CS CW (upd H1 sh (.ins CS dx (sf (d.names + 1) d.fa d.wa d.ka))) sh { d with names := d.names + 1 } := S1.fields (dx := dx) (n := d.names + 1) S1.hw
    have f2 : Fr (d.M sh) H (upd H1 sh (.ins CS dx (sf (d.names + 1) d.fa d.wa d.ka))) := s1.fr.trans1 (Fr.upd SD.m_sh)
    have l13 := Uf.single_len d.names 13
    have r2 : RowAt (cut (upd H1 sh (.ins CS dx (sf (d.names + 1) d.fa d.wa d.ka))) (d.M sh)) D (Uf.single d.names 13) := by
      have c : cut (upd H1 sh (.ins CS dx (sf (d.names + 1) d.fa d.wa d.ka))) (d.M sh) = cut H1 (d.M sh) := cut_upd SD.m_sh
      rw [c]
      exact cut_of h1 (S.fresh hD)
    rw [show putF "names" (V.int ((d.names : Int) + 1)) (sf d.names d.fa d.wa d.ka) = sf (d.names + 1) d.fa d.wa d.ka from rfl]
    refine ⟨_, rfl, _, rfl, sh, { d with names := d.names + 1 }, D, Uf.single d.names 13, rfl, S2, r2, l13, fun _ H' S' f' => k H' S' (f2.trans1 f'), fun q => (q ⟨hl, (Uf.single_bd d.names 13).mono (by decide)⟩).elim⟩
abbrev DKeepN (P : Program) (w : World) (K : PySem.W.Frag) (mg : Str → Option Value) (base : Heap) (CS CW : Addr) : Prop := Def P w K mg base 3 "keep_next_name" ["sheet"] (spKeepN CS CW)
end
end Ug

set_option Elab.async false
set_option linter.all false
set_option maxRecDepth 100000
set_option maxHeartbeats 2000000
namespace Ug
open PySem PySem.Spec PyProof.Rows L2
abbrev sAInit : Stmt := top 47
abbrev sAName : Stmt := top 48
abbrev sABase : Stmt := top 49
abbrev sAProd : Stmt := top 50
abbrev sAPow : Stmt := top 51
abbrev sARoot : Stmt := top 52
abbrev sAAdd : Stmt := top 53
abbrev sAEq : Stmt := top 54
abbrev sATest : Stmt := top 55
abbrev sAKeep : Stmt := top 56
abbrev sABack : Stmt := top 57
theorem nd_of {p : Prop} [Decidable p] (h : (!decide p) = true) : ¬ p := fun q => by rw [decide_eq_true q] at h; cases h
/-- a call's number is answered, and the sheet is as the specification's state behind it -/
def Done (CS CW sh : Addr) (H : Hp) (d : SD) (s : Uni.State) (x : Uni.Call) (Q : VK) : Prop := ∀ H' d' s' z, SheetAt CS CW H' sh d' → Fr (d.M sh) H H' → Grow (d.M sh) (d'.M sh) H → Uni.step s x = (s', Uni.says z) → d'.Rel s' → Q (.int z) H'
theorem Done.no {CS CW sh : Addr} {H H' : Hp} {d : SD} {s : Uni.State} {x : Uni.Call} {Q : VK} {z : Int} (k : Done CS CW sh H d s x Q) (S : SheetAt CS CW H sh d) (R : d.Rel s) (s' : Same H H') (h : Uni.step s x = (s, Uni.says z)) : Q (.int z) H' :=
  k H' d s z (S.same s') s'.fr (Grow.refl _ _) h R
section
variable {P : Program} {w : World} {K : PySem.W.Frag} {mg : Str → Option Value} {base : Heap} {CW CS CR : Addr}
/-- answer_init(sheet) -/
def spAInit (CS CW : Addr) : Sp := fun vs H Q _ => ∃ (sh : Addr) (d : SD) (s : Uni.State), vs = [.ref sh] ∧ SheetAt CS CW H sh d ∧ d.Rel s ∧ Done CS CW sh H d s .init Q
theorem scAInit : FnScope ["sheet"] ["sheet"] (defScope sAInit) := sc_of (by decide +kernel)
theorem ok_ainit {f : Addr} {fd : FuncData} (F : Fun K "answer_init" "answer_init" sAInit f fd) (TS : TxtS K CS) (d1 : DBegin P w K mg base CS CW) : FnOk P w K mg base CX0 5 f fd ["sheet"] (spAInit CS CW) := by
  obtain ⟨fb, fdb, Fb, mb, bb⟩ := d1
  refine F.ok scAInit (fun vs H Q E h => ?_) (fun cdv A outer s H vs Q E hr h => ?_)
  · obtain ⟨sh, d, s, rfl, _⟩ := h
    rfl
  · obtain ⟨sh, d, s, rfl, S, R, k⟩ := h
    refine ⟨_, pss_cons (ps_expr (pe_meth0 (pv 0) TS.cl mb Fb hr bb .nil pass0)) (pss_one (ps_ret pe_int)), ?_⟩
    obtain ⟨dx, hi⟩ := S.ins
    refine ⟨_, rfl, sh, dx, _, rfl, hi, rfl, sh, dx, _, rfl, hi, .inr ⟨_, _, _, _, rfl⟩, fun H' d' B => ?_⟩
    refine k H' d' Uni.start 0 B.at_ (B.fr.mono fun b hb => ?_) (fun b hb => ?_) rfl ?_
    · simp only [List.mem_cons, List.not_mem_nil, or_false] at hb
      rw [hb]; exact SD.m_sh
    · simp only [SD.M, B.ks, List.map_nil, List.mem_cons, List.not_mem_nil, or_false] at hb ⊢
      rcases hb with h | h | h
      · exact .inl (.inl h)
      · exact .inr (h ▸ B.nk)
      · exact .inr (h ▸ B.nf)
    · have := Uf.start_rel
      refine ⟨?_, ?_, ?_⟩
      · rw [B.names, B.forms, B.starts, B.steps]; exact this
      · rw [B.ks]; exact trivial
      · rw [B.ks]; decide
/-- answer_name(sheet) -/
def spAName (CS CW : Addr) : Sp := fun vs H Q _ => ∃ (sh : Addr) (d : SD) (s : Uni.State), vs = [.ref sh] ∧ SheetAt CS CW H sh d ∧ d.Rel s ∧ Done CS CW sh H d s .name Q
theorem scAName : FnScope ["sheet"] ["sheet"] (defScope sAName) := sc_of (by decide +kernel)
theorem ok_aname {f : Addr} {fd : FuncData} (F : Fun K "answer_name" "answer_name" sAName f fd) (T : Txt mg) (d1 : DRoomN P w K mg base CS CW) (d2 : DKeepN P w K mg base CS CW) : FnOk P w K mg base CX0 4 f fd ["sheet"] (spAName CS CW) := by
  refine F.ok scAName (fun vs H Q E h => ?_) (fun cdv A outer s H vs Q E hr h => ?_)
  · obtain ⟨sh, d, s, rfl, _⟩ := h
    rfl
  · obtain ⟨sh, d, s, rfl, S, R, k⟩ := h
    refine ⟨_, pss_cons (ps_if (pt_not (pt_val (pe_def d1 (hr.mono (by decide)) rfl (pa_cons (pv 0) pa_nil)))) (pss_one (ps_ret (pe_num rfl T.rMuch))) pss_nil) (pss_one (ps_ret (pe_def d2 hr rfl (pa_cons (pv 0) pa_nil)))), ?_⟩
    refine ⟨_, rfl, sh, d, rfl, S, _, rfl, ite2 (fun h => ?_) (fun h => ?_)⟩
    · have h1 : ¬ (d.names < 6 ∧ d.forms.length < 64) := nd_of h
      exact k.no S R (Same.refl _) (Uf.step_name_no R.now h1)
    · have h1 : d.names < 6 ∧ d.forms.length < 64 := by simpa using h
      refine ⟨_, rfl, sh, d, rfl, S, h1.1, h1.2, fun H' S' f' => ?_⟩
      obtain ⟨now, e1, e2⟩ := Uf.step_name R.now h1.1 h1.2
      exact k H' _ _ _ S' f' (Grow.refl _ _) e1 ⟨e2, R.kept, R.few⟩
/-- answer_base(sheet, exponents) -/
def spABase (CS CW : Addr) : Sp := fun vs H Q _ => ∃ (sh : Addr) (d : SD) (s : Uni.State) (ea : Addr) (e : List Int), vs = [.ref sh, .ref ea] ∧ SheetAt CS CW H sh d ∧ d.Rel s ∧ RowAt H ea e ∧ Done CS CW sh H d s (.base e) Q
theorem scABase : FnScope ["sheet", "exponents"] ["sheet", "exponents"] (defScope sABase) := sc_of (by decide +kernel)
theorem ok_abase {f : Addr} {fd : FuncData} (F : Fun K "answer_base" "answer_base" sABase f fd) (T : Txt mg) (d1 : DKeepF P w K mg base CS CW) : FnOk P w K mg base CX0 3 f fd ["sheet", "exponents"] (spABase CS CW) := by
  refine F.ok scABase (fun vs H Q E h => ?_) (fun cdv A outer s H vs Q E hr h => ?_)
  · obtain ⟨sh, d, s, ea, e, rfl, _⟩ := h
    rfl
  · obtain ⟨sh, d, s, ea, e, rfl, S, R, hea, k⟩ := h
    refine ⟨_, pss_cons (ps_if (pt_cmpR op_ne (pe_callB call_len_seq rfl T.nLen boot_len (pa_cons (pv 1) pa_nil)) (pe_num rfl T.cUnits) (nomark _)) (pss_one (ps_ret (pe_num rfl T.rMuch))) pss_nil)
      (pss_one (ps_ret (pe_def d1 hr rfl (pa_cons (pv 0) (pa_cons (pe_op op_cat (pe_op op_rep (pe_lst (pa_cons pe_int pa_nil)) (pe_num rfl T.cNames)) (pv 1)) pa_nil))))), ?_⟩
    refine ⟨_, rfl, ea, _, rfl, .inl hea.sq, rfl, _, rfl, ite2 (fun h => ?_) (fun h => ?_)⟩
    · have h1 : ¬ e.length = 7 := by
        intro q
        rw [List.length_map, q] at h
        simp at h
      exact k.no S R (Same.refl _) (Uf.step_base_no R.now fun q => h1 q.1)
    · have h1 : e.length = 7 := by
        simp only [List.length_map] at h
        simp at h
        omega
      refine ⟨_, rfl, (by show 1 ≤ sizeLine; decide), fun l hl => ?_⟩
      have s1 : Same H (upd H l (.lst [.int 0])) := Same.new hl
      refine ⟨l, 6, _, rfl, rfl, upd_same, by decide, by decide, (by show 1 * 6 ≤ sizeLine; decide), fun l2 hl2 => ?_⟩
      have s2 : Same (upd H l (.lst [.int 0])) (upd (upd H l (.lst [.int 0])) l2 (.lst (iV Uf.z6))) := Same.new hl2
      refine ⟨_, rfl, l2, ea, _, _, rfl, rfl, upd_same, s2 _ _ (s1 _ _ hea), ?_, fun l3 hl3 => ?_⟩
      · show 6 + (e.map V.int).length ≤ sizeLine
        rw [List.length_map, h1]; decide
      · have e3 : iV Uf.z6 ++ iV e = iV (Uf.z6 ++ e) := by simp [iV]
        have s3 : Same (upd (upd H l (.lst [.int 0])) l2 (.lst (iV Uf.z6))) (upd (upd (upd H l (.lst [.int 0])) l2 (.lst (iV Uf.z6))) l3 (.lst (iV Uf.z6 ++ iV e))) := Same.new hl3
        have s13 := (s1.trans s2).trans s3
        have S3 := S.same s13
        have r3 : RowAt (upd (upd (upd H l (.lst [.int 0])) l2 (.lst (iV Uf.z6))) l3 (.lst (iV Uf.z6 ++ iV e))) l3 (Uf.z6 ++ e) := by
          show _ = _
          rw [upd_same, e3]
        have l13 : (Uf.z6 ++ e).length = 13 := by rw [List.length_append, h1]; rfl
        refine ⟨sh, d, l3, Uf.z6 ++ e, rfl, S3, S3.mok.row r3 (ne13 l13), l13, fun q H' S' f' => ?_, fun q H' s' => ?_⟩
        · obtain ⟨now, e1, e2⟩ := Uf.step_base R.now h1 q.1 q.2
          exact k H' _ _ _ S' (s13.fr.trans1 f') (Grow.refl _ _) e1 ⟨e2, R.kept, R.few⟩
        · exact k.no S R (s13.trans s') (Uf.step_base_no R.now fun z => q ⟨z.2.1, z.2.2⟩)
/-- answer_product(sheet, a, b, power) -/
def spAProd (CS CW : Addr) : Sp := fun vs H Q _ => ∃ (sh : Addr) (d : SD) (s : Uni.State) (a b : Nat) (pw : Int) (x : Uni.Call), vs = [.ref sh, .int a, .int b, .int pw] ∧ SheetAt CS CW H sh d ∧ d.Rel s ∧ ((pw = 1 ∧ x = .mul a b) ∨ (pw = -1 ∧ x = .div a b)) ∧ Done CS CW sh H d s x Q
theorem scAProd : FnScope ["sheet", "a", "b", "power"] ["sheet", "a", "b", "power"] (defScope sAProd) := sc_of (by decide +kernel)
theorem prod_no {d : SD} {s : Uni.State} {a b : Nat} {pw : Int} {x : Uni.Call} (R : d.Rel s) (hx : (pw = 1 ∧ x = .mul a b) ∨ (pw = -1 ∧ x = .div a b)) (h : ¬ (a < d.forms.length ∧ b < d.forms.length)) : Uni.step s x = (s, Uni.says (-1)) := by
  have h' : d.forms.length ≤ a ∨ d.forms.length ≤ b := by omega
  rcases hx with ⟨_, rfl⟩ | ⟨_, rfl⟩
  · exact Uf.ofTwo_no R.now h'
  · exact Uf.ofTwo_no R.now h'
theorem prod_step {d : SD} {s : Uni.State} {a b : Nat} {pw : Int} {x : Uni.Call} {ra rb : Uni.Row} (R : d.Rel s) (hx : (pw = 1 ∧ x = .mul a b) ∨ (pw = -1 ∧ x = .div a b)) (ha : d.forms[a]? = some ra) (hb : d.forms[b]? = some rb) :
    ((d.forms.length < 64 ∧ Uf.Bd 6 (Uni.plus ra rb pw)) → ∃ now, Uni.step s x = (⟨now, s.kept⟩, Uni.says (d.forms.length : Nat)) ∧ Uf.NowRel d.names (d.forms ++ [Uni.plus ra rb pw]) d.starts d.steps now) ∧
    (¬ (d.forms.length < 64 ∧ Uf.Bd 6 (Uni.plus ra rb pw)) → Uni.step s x = (s, Uni.says (-2))) := by
  rcases hx with ⟨rfl, rfl⟩ | ⟨rfl, rfl⟩
  · exact Uf.step_mul R.now ha hb
  · exact Uf.step_div R.now ha hb
theorem get_of {d : SD} {a : Nat} (h : a < d.forms.length) : ∃ ra, d.forms[a]? = some ra := ⟨_, List.getElem?_eq_getElem h⟩
theorem ok_aprod {f : Addr} {fd : FuncData} (F : Fun K "answer_product" "answer_product" sAProd f fd) (T : Txt mg) (TS : TxtS K CS) (d1 : DHas2 P w K mg base CS CW) (d2 : DKeepF P w K mg base CS CW) (d3 : DWith P w K mg base) : FnOk P w K mg base CX0 3 f fd ["sheet", "a", "b", "power"] (spAProd CS CW) := by
  refine F.ok scAProd (fun vs H Q E h => ?_) (fun cdv A outer s H vs Q E hr h => ?_)
  · obtain ⟨sh, d, s, a, b, pw, x, rfl, _⟩ := h
    rfl
  · obtain ⟨sh, d, s, a, b, pw, x, rfl, S, R, hx, k⟩ := h
    refine ⟨_, pss_cons (ps_if (pt_not (pt_val (pe_def d1 hr rfl (pa_cons (pv 0) (pa_cons (pv 1) (pa_cons (pv 2) pa_nil)))))) (pss_one (ps_ret (pe_num rfl T.rNone))) pss_nil)
      (pss_one (ps_ret (pe_def d2 hr rfl (pa_cons (pv 0) (pa_cons (pe_def d3 (hr.mono (by decide)) rfl (pa_cons (pe_ix ix_list (pe_fld (pv 0) rfl) (pv 1) (fun _ _ => rfl)) (pa_cons (pv 3) (pa_cons (pe_ix ix_list (pe_fld (pv 0) rfl) (pv 2) (fun _ _ => rfl)) pa_nil)))) pa_nil))))), ?_⟩
    refine ⟨_, rfl, _, rfl, _, rfl, sh, d, a, b, rfl, S, _, rfl, ite2 (fun h => ?_) (fun h => ?_)⟩
    · have h1 : ¬ (a < d.forms.length ∧ b < d.forms.length) := nd_of h
      exact k.no S R (Same.refl _) (prod_no R hx h1)
    · have h1 : a < d.forms.length ∧ b < d.forms.length := by simpa using h
      obtain ⟨ra, hra⟩ := get_of h1.1
      obtain ⟨rb, hrb⟩ := get_of h1.2
      obtain ⟨dx, hi⟩ := S.ins
      obtain ⟨as, ea, ha, hea, hrea⟩ := S.form hra
      obtain ⟨as', eb, ha', heb, hreb⟩ := S.form hrb
      have r1 := R.now.row (List.mem_of_getElem? hra)
      have r2 := R.now.row (List.mem_of_getElem? hrb)
      have hpw : pw.natAbs < 2 ^ 8 := by rcases hx with ⟨rfl, _⟩ | ⟨rfl, _⟩ <;> decide
      refine ⟨_, rfl, _, rfl, sh, CS, dx, _, _, rfl, hi, TS.cl, TS.nF, rfl, _, rfl, d.fa, _, _, _, rfl, rfl, SqL.of ha, at_ref hea, _, rfl, _, rfl, sh, CS, dx, _, _, rfl, hi, TS.cl, TS.nF, rfl, _, rfl, d.fa, _, _, _, rfl, rfl, SqL.of ha', at_ref heb, ?_⟩
      refine ⟨ea, eb, ra, rb, pw, rfl, (hrea.same cut_le).sq, (hreb.same cut_le).sq, size13 r1.1, fun y hy => small_mul hpw (Nat.le_trans (r2.2 y hy) (by decide)), fun D H' hD s' h' => ?_⟩
      have S1 := S.same s'
      have l13 : (Uni.plus ra rb pw).length = 13 := by rw [Uf.plus_length, r1.1, r2.1]; rfl
      obtain ⟨p1, p2⟩ := prod_step R hx hra hrb
      refine ⟨sh, d, D, Uni.plus ra rb pw, rfl, S1, S1.mok.row h' (ne13 l13), l13, fun q H2 S2 f2 => ?_, fun q H2 s2 => ?_⟩
      · obtain ⟨now, e1, e2⟩ := p1 q
        exact k H2 _ _ _ S2 (s'.fr.trans1 f2) (Grow.refl _ _) e1 ⟨e2, R.kept, R.few⟩
      · exact k.no S R (s'.trans s2) (p2 q)
/-- answer_pow(sheet, a, k) -/
def spAPow (CS CW : Addr) : Sp := fun vs H Q _ => ∃ (sh : Addr) (d : SD) (s : Uni.State) (a : Nat) (n : Int), vs = [.ref sh, .int a, .int n] ∧ SheetAt CS CW H sh d ∧ d.Rel s ∧ (-(2 ^ 64) < n ∧ n < 2 ^ 64) ∧ Done CS CW sh H d s (.pow a n) Q
theorem scAPow : FnScope ["sheet", "a", "k", "exponent"] ["sheet", "a", "k"] (defScope sAPow) := sc_of (by decide +kernel)
theorem ok_apow {f : Addr} {fd : FuncData} (F : Fun K "answer_pow" "answer_pow" sAPow f fd) (T : Txt mg) (TS : TxtS K CS) (d1 : DHas P w K mg base CS CW) (d2 : DKeepF P w K mg base CS CW) : FnOk P w K mg base CX0 3 f fd ["sheet", "a", "k"] (spAPow CS CW) := by
  refine F.ok scAPow (fun vs H Q E h => ?_) (fun cdv A outer s H vs Q E hr h => ?_)
  · obtain ⟨sh, d, s, a, n, rfl, _⟩ := h
    rfl
  · obtain ⟨sh, d, s, a, n, rfl, S, R, hn, k⟩ := h
    refine ⟨_, pss_cons (ps_if (pt_not (pt_val (pe_def d1 (hr.mono (by decide)) rfl (pa_cons (pv 0) (pa_cons (pv 1) pa_nil))))) (pss_one (ps_ret (pe_num rfl T.rNone))) pss_nil)
      (pss_one (ps_ret (pe_def d2 hr rfl (pa_cons (pv 0) (pa_cons (pe_lc1 (p := 3) rfl scAPow.nd (pi_list (pe_ix ix_list (pe_fld (pv 0) rfl) (pv 1) (fun _ _ => rfl))) (blk_ok (N := ["sheet", "a", "k", "exponent"]) (sc := defScope sAPow) rfl rfl (by decide +kernel)) rfl
        (fun _ _ _ _ _ => pe_op op_mul (pv 2) (pv 3))) pa_nil))))), ?_⟩
    refine ⟨_, rfl, _, rfl, sh, d, a, rfl, S, _, rfl, ite2 (fun h => ?_) (fun h => ?_)⟩
    · have h1 : ¬ a < d.forms.length := by simpa using h
      exact k.no S R (Same.refl _) (Uf.ofOne_no R.now (by omega))
    · have h1 : a < d.forms.length := by simpa using h
      obtain ⟨ra, hra⟩ := get_of h1
      obtain ⟨dx, hi⟩ := S.ins
      obtain ⟨as, ea, ha, hea, hrea⟩ := S.form hra
      have r1 := R.now.row (List.mem_of_getElem? hra)
      refine of_next ?_
      dsimp only
      refine of_ret (of_call ?_)
      refine ⟨_, rfl, ?_⟩
      refine of_cons ?_
      refine tlc_map (a := ea) (xs := iV ra) (fun i => V.int (n * Uni.at_ ra i)) (hrea.same cut_le).sq (by rw [List.length_map]; exact size13 r1.1) (fun R h => ⟨_, rfl, sh, CS, dx, _, _, rfl, hi, TS.cl, TS.nF, rfl, _, rfl, d.fa, _, _, _, rfl, rfl, SqL.of ha, at_ref hea, h⟩) ?_ ?_
      · intro i x hx H2 s2 R2 hR
        obtain ⟨z, hz, rfl⟩ : ∃ z, ra[i]? = some z ∧ x = V.int z := by
          rw [List.getElem?_map] at hx
          cases e : ra[i]? with
          | none => rw [e] at hx; cases hx
          | some z => rw [e] at hx; exact ⟨z, rfl, (Option.some.inj hx).symm⟩
        refine ⟨_, rfl, _, rfl, _, _, rfl, rfl, .inl hn, ?_⟩
        have := hR H2 (Same.refl _)
        rw [at_of_get hz] at this
        exact this
      · intro D H2 hD s2 h2
        have el : (List.range (iV ra).length).map (fun i => V.int (n * Uni.at_ ra i)) = iV (ra.map fun x => n * x) := by
          apply List.ext_getElem?
          intro i
          rw [List.getElem?_map, List.getElem?_map, List.getElem?_map, List.length_map]
          by_cases hi : i < ra.length
          · rw [List.getElem?_range hi, List.getElem?_eq_getElem hi]
            show some (V.int (n * Uni.at_ ra i)) = some (V.int (n * ra[i]))
            rw [at_of_get (List.getElem?_eq_getElem hi)]
          · rw [List.getElem?_eq_none (by simpa using hi), List.getElem?_eq_none (by simpa using hi)]; rfl
        rw [el] at h2
        have S1 := S.same s2
        have l13 : (ra.map fun x => n * x).length = 13 := by rw [List.length_map]; exact r1.1
        obtain ⟨p1, p2⟩ := Uf.step_pow R.now n hra
        refine ⟨sh, d, D, ra.map fun x => n * x, rfl, S1, S1.mok.row h2 (ne13 l13), l13, fun q H3 S3 f3 => ?_, fun q H3 s3 => ?_⟩
        · obtain ⟨now, e1, e2⟩ := p1 q
          exact k H3 _ _ _ S3 (s2.fr.trans1 f3) (Grow.refl _ _) e1 ⟨e2, R.kept, R.few⟩
        · exact k.no S R (s2.trans s3) (p2 q)
/-- answer_root(sheet, a, k) -/
def spARoot (CS CW : Addr) : Sp := fun vs H Q _ => ∃ (sh : Addr) (d : SD) (s : Uni.State) (a : Nat) (n : Int), vs = [.ref sh, .int a, .int n] ∧ SheetAt CS CW H sh d ∧ d.Rel s ∧ Done CS CW sh H d s (.root a n) Q
theorem scARoot : FnScope ["sheet", "a", "k"] ["sheet", "a", "k"] (defScope sARoot) := sc_of (by decide +kernel)
theorem ok_aroot {f : Addr} {fd : FuncData} (F : Fun K "answer_root" "answer_root" sARoot f fd) (T : Txt mg) (TS : TxtS K CS) (d1 : DHas P w K mg base CS CW) (d2 : DRoomN P w K mg base CS CW) (d3 : DWith P w K mg base) (d4 : DNext P w K mg base CS CW) (d5 : DAcc P w K mg base CS CW) (d6 : DKeepN P w K mg base CS CW) :
    FnOk P w K mg base CX0 6 f fd ["sheet", "a", "k"] (spARoot CS CW) := by
  refine F.ok scARoot (fun vs H Q E h => ?_) (fun cdv A outer s H vs Q E hr h => ?_)
  · obtain ⟨sh, d, s, a, n, rfl, _⟩ := h
    rfl
  · obtain ⟨sh, d, s, a, n, rfl, S, R, k⟩ := h
    have hr1 : Room 1 _ := hr.mono (by decide)
    have hr2 : Room 2 _ := hr.mono (by decide)
    have hr3 : Room 3 _ := hr.mono (by decide)
    refine ⟨_, pss_cons (ps_if (pt_not (pt_val (pe_def d1 hr1 rfl (pa_cons (pv 0) (pa_cons (pv 1) pa_nil))))) (pss_one (ps_ret (pe_num rfl T.rNone))) pss_nil)
      (pss_cons (ps_if (PW.pt (pw_or (pt_cmpR op_lt (pv 2) pe_int (nomark _)) (pw_or (pt_cmpR op_gt (pv 2) (pe_num rfl T.cRoot) (nomark _)) (pw_or1 (pt_not (pt_val (pe_def d2 hr2 rfl (pa_cons (pv 0) pa_nil)))))))) (pss_one (ps_ret (pe_num rfl T.rMuch))) pss_nil)
      (pss_cons (ps_if (pt_not (pt_val (pe_def d5 hr rfl (pa_cons (pv 0) (pa_cons (pe_def d3 hr1 rfl (pa_cons (pe_ix ix_list (pe_fld (pv 0) rfl) (pv 1) (fun _ _ => rfl)) (pa_cons (pe_un un_neg (pv 2)) (pa_cons (pe_def d4 hr2 rfl (pa_cons (pv 0) pa_nil)) pa_nil)))) pa_nil))))) (pss_one (ps_ret (pe_num rfl T.rCannot))) pss_nil)
      (pss_one (ps_ret (pe_def d6 hr3 rfl (pa_cons (pv 0) pa_nil)))))), ?_⟩
    refine ⟨_, rfl, _, rfl, sh, d, a, rfl, S, _, rfl, ite2 (fun h => ?_) (fun h => ?_)⟩
    · have h1 : ¬ a < d.forms.length := by simpa using h
      exact k.no S R (Same.refl _) (Uf.ofOne_no R.now (by omega))
    · have h1 : a < d.forms.length := by simpa using h
      obtain ⟨ra, hra⟩ := get_of h1
      refine ⟨_, rfl, _, _, rfl, rfl, _, rfl, ite2 (fun h2 => ?_) (fun h2 => ?_)⟩
      · have h3 : n < 1 := of_decide_eq_true h2
        refine iteT ?_
        exact k.no S R (Same.refl _) (Uf.step_root_bad R.now hra fun q => by omega)
      · have h3 : ¬ n < 1 := fun q => h2 (decide_eq_true q)
        refine ⟨_, rfl, _, _, rfl, rfl, _, rfl, ite2 (fun h4 => ?_) (fun h4 => ?_)⟩
        · have h5 : 6 < n := of_decide_eq_true h4
          refine iteT ?_
          exact k.no S R (Same.refl _) (Uf.step_root_bad R.now hra fun q => by omega)
        · have h5 : ¬ 6 < n := fun q => h4 (decide_eq_true q)
          refine ⟨_, rfl, sh, d, rfl, S, _, rfl, ite2 (fun h6 => ?_) (fun h6 => ?_)⟩
          · have h7 : ¬ (d.names < 6 ∧ d.forms.length < 64) := nd_of h6
            exact k.no S R (Same.refl _) (Uf.step_root_bad R.now hra fun q => h7 q.2.2)
          · have h7 : d.names < 6 ∧ d.forms.length < 64 := by simpa using h6
            obtain ⟨dx, hi⟩ := S.ins
            obtain ⟨as, ea, ha, hea, hrea⟩ := S.form hra
            have r1 := R.now.row (List.mem_of_getElem? hra)
            refine ⟨_, rfl, _, rfl, sh, CS, dx, _, _, rfl, hi, TS.cl, TS.nF, rfl, _, rfl, d.fa, _, _, _, rfl, rfl, SqL.of ha, at_ref hea, _, rfl, _, rfl, _, rfl, sh, d, rfl, S, fun D1 H1 hD1 s1 hr1' => ?_⟩
            have hk6 : n.natAbs ≤ 6 := by omega
            have l1 := Uf.single_len d.names 13
            have b1 := Uf.single_bd d.names 13
            refine ⟨ea, D1, ra, Uf.single d.names 13, -n, rfl, ((hrea.same cut_le).same s1).sq, hr1'.sq, size13 r1.1, fun y hy => small_mul (by rw [Int.natAbs_neg]; omega) (Nat.le_trans (b1 y hy) (by decide)), fun D2 H2 hD2 s2 hr2' => ?_⟩
            have s12 := s1.trans s2
            have S2 := S.same s12
            have l13 : (Uni.plus ra (Uf.single d.names 13) (-n)).length = 13 := by rw [Uf.plus_length, r1.1, l1]; rfl
            have b12 : Uf.Bd 12 (Uni.plus ra (Uf.single d.names 13) (-n)) := Uf.Bd12_plus (k := -n) (m := 1) r1.2 b1 (by rw [Int.natAbs_neg]; omega)
            obtain ⟨p1, p2⟩ := Uf.step_root (k := n) R.now hra ⟨by omega, by omega, h7.1, h7.2⟩
            refine ⟨sh, d, D2, _, rfl, S2, hr2', l13, b12, R.now.rel.good, R.now.size, fun H3 s3 N => ⟨_, rfl, iteT ?_⟩, fun H3 wa st sp S3 f3 Y Z => ⟨_, rfl, iteF ?_⟩⟩
            · exact k.no S R (s12.trans s3) (p1 N)
            · refine ⟨_, rfl, sh, _, rfl, S3, h7.1, h7.2, fun H4 S4 f4 => ?_⟩
              obtain ⟨now, e1, e2⟩ := p2 st sp Y Z
              exact k H4 _ _ _ S4 ((s12.fr.trans1 f3).trans1 f4) (Grow.refl _ _) e1 ⟨e2, R.kept, R.few⟩
/-- the line of two formulas -/
theorem line_ok {d : SD} {s : Uni.State} {ra rb : Uni.Row} {a b : Nat} (R : d.Rel s) (hra : d.forms[a]? = some ra) (hrb : d.forms[b]? = some rb) : (Uni.plus ra rb (-1)).length = 13 ∧ Uf.Bd 12 (Uni.plus ra rb (-1)) := by
  have r1 := R.now.row (List.mem_of_getElem? hra)
  have r2 := R.now.row (List.mem_of_getElem? hrb)
  exact ⟨by rw [Uf.plus_length, r1.1, r2.1]; rfl, Uf.Bd12_plus r1.2 r2.2 (by decide)⟩
/-- answer_add(sheet, a, b) -/
def spAAdd (CS CW : Addr) : Sp := fun vs H Q _ => ∃ (sh : Addr) (d : SD) (s : Uni.State) (a b : Nat), vs = [.ref sh, .int a, .int b] ∧ SheetAt CS CW H sh d ∧ d.Rel s ∧ Done CS CW sh H d s (.add a b) Q
theorem scAAdd : FnScope ["sheet", "a", "b"] ["sheet", "a", "b"] (defScope sAAdd) := sc_of (by decide +kernel)
theorem ok_aadd {f : Addr} {fd : FuncData} (F : Fun K "answer_add" "answer_add" sAAdd f fd) (T : Txt mg) (TS : TxtS K CS) (d1 : DHas2 P w K mg base CS CW) (d2 : DRoom P w K mg base CS CW) (d3 : DQuot P w K mg base CS CW) (d5 : DAcc P w K mg base CS CW) (d6 : DKeepF P w K mg base CS CW) :
    FnOk P w K mg base CX0 6 f fd ["sheet", "a", "b"] (spAAdd CS CW) := by
  refine F.ok scAAdd (fun vs H Q E h => ?_) (fun cdv A outer s H vs Q E hr h => ?_)
  · obtain ⟨sh, d, s, a, b, rfl, _⟩ := h
    rfl
  · obtain ⟨sh, d, s, a, b, rfl, S, R, k⟩ := h
    have hr1 : Room 1 _ := hr.mono (by decide)
    have hr2 : Room 2 _ := hr.mono (by decide)
    refine ⟨_, pss_cons (ps_if (pt_not (pt_val (pe_def d1 hr2 rfl (pa_cons (pv 0) (pa_cons (pv 1) (pa_cons (pv 2) pa_nil)))))) (pss_one (ps_ret (pe_num rfl T.rNone))) pss_nil)
      (pss_cons (ps_if (pt_not (pt_val (pe_def d2 hr1 rfl (pa_cons (pv 0) pa_nil)))) (pss_one (ps_ret (pe_num rfl T.rMuch))) pss_nil)
      (pss_cons (ps_if (pt_not (pt_val (pe_def d5 hr rfl (pa_cons (pv 0) (pa_cons (pe_def d3 hr2 rfl (pa_cons (pv 0) (pa_cons (pv 1) (pa_cons (pv 2) pa_nil)))) pa_nil))))) (pss_one (ps_ret (pe_num rfl T.rCannot))) pss_nil)
      (pss_one (ps_ret (pe_def d6 hr2 rfl (pa_cons (pv 0) (pa_cons (pe_callTy call_list_of rfl T.nList boot_list (pa_cons (pe_ix ix_list (pe_fld (pv 0) rfl) (pv 1) (fun _ _ => rfl)) pa_nil)) pa_nil))))))), ?_⟩
    refine ⟨_, rfl, _, rfl, _, rfl, sh, d, a, b, rfl, S, _, rfl, ite2 (fun h => ?_) (fun h => ?_)⟩
    · have h1 : ¬ (a < d.forms.length ∧ b < d.forms.length) := nd_of h
      exact k.no S R (Same.refl _) (Uf.ofTwo_no R.now (by omega))
    · have h1 : a < d.forms.length ∧ b < d.forms.length := by simpa using h
      obtain ⟨ra, hra⟩ := get_of h1.1
      obtain ⟨rb, hrb⟩ := get_of h1.2
      refine ⟨_, rfl, sh, d, rfl, S, _, rfl, ite2 (fun h2 => ?_) (fun h2 => ?_)⟩
      · have h3 : ¬ d.forms.length < 64 := by simpa using h2
        exact k.no S R (Same.refl _) (Uf.step_add_bad R.now hra hrb h3)
      · have h3 : d.forms.length < 64 := by simpa using h2
        obtain ⟨p1, p2⟩ := Uf.step_add R.now hra hrb h3
        obtain ⟨l13, b12⟩ := line_ok R hra hrb
        have r1 := R.now.row (List.mem_of_getElem? hra)
        refine ⟨_, rfl, _, rfl, _, rfl, _, rfl, sh, d, a, b, ra, rb, rfl, S, fun r hr => R.now.row hr, hra, hrb, fun D H1 hD s1 hrow => ?_⟩
        have S1 := S.same s1
        refine ⟨sh, d, D, _, rfl, S1, hrow, l13, b12, R.now.rel.good, R.now.size, fun H3 s3 N => ⟨_, rfl, iteT ?_⟩, fun H3 wa st sp S3 f3 Y Z => ⟨_, rfl, iteF ?_⟩⟩
        · exact k.no S R (s1.trans s3) (p1 N)
        · obtain ⟨dx, hi⟩ := S3.ins
          obtain ⟨as, ea, ha, hea, hrea⟩ := S3.form hra
          refine ⟨_, rfl, _, rfl, sh, CS, dx, _, _, rfl, hi, TS.cl, TS.nF, rfl, _, rfl, d.fa, _, _, _, rfl, rfl, SqL.of ha, at_ref hea, ea, _, rfl, .inl (hrea.same cut_le).sq, fun l hl => ?_⟩
          have s4 : Same H3 (upd H3 l (.lst (iV ra))) := Same.new hl
          have S4 := S3.same s4
          refine ⟨sh, _, l, ra, rfl, S4, S4.mok.row upd_same (ne13 r1.1), r1.1, fun q H5 S5 f5 => ?_, fun q => (q ⟨h3, r1.2⟩).elim⟩
          obtain ⟨now, e1, e2⟩ := p2 st sp Y Z
          exact k H5 _ _ _ S5 (((s1.fr.trans1 f3).trans1 s4.fr).trans1 f5) (Grow.refl _ _) e1 ⟨e2, R.kept, R.few⟩
/-- answer_eq(sheet, a, b) -/
def spAEq (CS CW : Addr) : Sp := fun vs H Q _ => ∃ (sh : Addr) (d : SD) (s : Uni.State) (a b : Nat), vs = [.ref sh, .int a, .int b] ∧ SheetAt CS CW H sh d ∧ d.Rel s ∧ Done CS CW sh H d s (.eq_ a b) Q
theorem scAEq : FnScope ["sheet", "a", "b"] ["sheet", "a", "b"] (defScope sAEq) := sc_of (by decide +kernel)
theorem ok_aeq {f : Addr} {fd : FuncData} (F : Fun K "answer_eq" "answer_eq" sAEq f fd) (T : Txt mg) (d1 : DHas2 P w K mg base CS CW) (d3 : DQuot P w K mg base CS CW) (d5 : DAcc P w K mg base CS CW) :
    FnOk P w K mg base CX0 6 f fd ["sheet", "a", "b"] (spAEq CS CW) := by
  refine F.ok scAEq (fun vs H Q E h => ?_) (fun cdv A outer s H vs Q E hr h => ?_)
  · obtain ⟨sh, d, s, a, b, rfl, _⟩ := h
    rfl
  · obtain ⟨sh, d, s, a, b, rfl, S, R, k⟩ := h
    have hr2 : Room 2 _ := hr.mono (by decide)
    refine ⟨_, pss_cons (ps_if (pt_not (pt_val (pe_def d1 hr2 rfl (pa_cons (pv 0) (pa_cons (pv 1) (pa_cons (pv 2) pa_nil)))))) (pss_one (ps_ret (pe_num rfl T.rNone))) pss_nil)
      (pss_one (ps_ret (pe_ifExp (pt_val (pe_def d5 hr rfl (pa_cons (pv 0) (pa_cons (pe_def d3 hr2 rfl (pa_cons (pv 0) (pa_cons (pv 1) (pa_cons (pv 2) pa_nil)))) pa_nil)))) pe_int (pe_num rfl T.rCannot)))), ?_⟩
    refine ⟨_, rfl, _, rfl, _, rfl, sh, d, a, b, rfl, S, _, rfl, ite2 (fun h => ?_) (fun h => ?_)⟩
    · have h1 : ¬ (a < d.forms.length ∧ b < d.forms.length) := nd_of h
      exact k.no S R (Same.refl _) (Uf.ofTwo_no R.now (by omega))
    · have h1 : a < d.forms.length ∧ b < d.forms.length := by simpa using h
      obtain ⟨ra, hra⟩ := get_of h1.1
      obtain ⟨rb, hrb⟩ := get_of h1.2
      obtain ⟨p1, p2⟩ := Uf.step_eq R.now hra hrb
      obtain ⟨l13, b12⟩ := line_ok R hra hrb
      refine ⟨_, rfl, _, rfl, _, rfl, _, rfl, sh, d, a, b, ra, rb, rfl, S, fun r hr => R.now.row hr, hra, hrb, fun D H1 hD s1 hrow => ?_⟩
      have S1 := S.same s1
      refine ⟨sh, d, D, _, rfl, S1, hrow, l13, b12, R.now.rel.good, R.now.size, fun H3 s3 N => ⟨_, rfl, iteF ?_⟩, fun H3 wa st sp S3 f3 Y Z => ⟨_, rfl, iteT ?_⟩⟩
      · exact k.no S R (s1.trans s3) (p1 N)
      · obtain ⟨now, e1, e2⟩ := p2 st sp Y Z
        exact k H3 _ _ _ S3 (s1.fr.trans1 f3) (Grow.refl _ _) e1 ⟨e2, R.kept, R.few⟩
/-! lists of ints, compared -/
theorem dp_ints {H : Hp} : ∀ r : List Int, DpAll K H (iV r) (r.map PyData.int)
  | [] => .nil
  | x :: r => .cons (.int x) (dp_ints r)
theorem can_ints : ∀ r : List Int, PyData.canLayAll0 (r.map PyData.int) = true
  | [] => rfl
  | x :: r => by
    show (true && PyData.canLayAll0 (r.map PyData.int)) = true
    rw [can_ints r]; rfl
theorem depth_ints : ∀ r : List Int, PyData.depthAll (r.map PyData.int) = 0
  | [] => rfl
  | x :: r => by
    show max 0 (PyData.depthAll (r.map PyData.int)) = 0
    rw [depth_ints r]; rfl
theorem shaped_ints (r : List Int) : SeqAt.shaped (.list (r.map PyData.int)) = true := by
  show (PyData.canLayAll0 (r.map PyData.int) && decide (PyData.depthAll (r.map PyData.int) + 1 ≤ 64)) = true
  rw [can_ints r, depth_ints r]
  rfl
theorem eqv_ints : ∀ r q : List Int, PyData.eqvAll (r.map PyData.int) (q.map PyData.int) = decide (r = q)
  | [], [] => rfl
  | [], y :: q => rfl
  | x :: r, [] => rfl
  | x :: r, y :: q => by
    show ((x == y) && PyData.eqvAll (r.map PyData.int) (q.map PyData.int)) = _
    rw [eqv_ints r q]
    by_cases h : x = y
    · subst h
      rw [beq_self_eq_true, Bool.true_and]
      exact decide_eq_decide.mpr ⟨fun e => by rw [e], fun e => (List.cons.inj e).2⟩
    · rw [beq_eq_false_iff_ne.mpr h, Bool.false_and]
      exact (decide_eq_false fun e => h (List.cons.inj e).1).symm
theorem eqvL_ints (r q : List Int) : PyData.eqv (.list (r.map PyData.int)) (.list (q.map PyData.int)) = decide (r = q) := eqv_ints r q
abbrev z7 : Uni.Row := [0, 0, 0, 0, 0, 0, 0]
theorem units_zero {n e : Uni.Row} {starts steps : List Uni.Row} : Uf.unitNums n e starts steps = z7 ↔ ¬ Uf.LineNo n e starts steps := by
  have key : Uf.unitNums n e starts steps = z7 ↔ ∀ b, b < 7 → (Uf.gof n steps : Int) ∣ Uni.at_ e b + Uni.dot n (Uf.gd starts b) := by
    constructor
    · intro h b hb
      have h2 : (Uf.unitNums n e starts steps)[b]? = some 0 := by
        rw [h]
        match b, hb with
        | 0, _ => rfl
        | 1, _ => rfl
        | 2, _ => rfl
        | 3, _ => rfl
        | 4, _ => rfl
        | 5, _ => rfl
        | 6, _ => rfl
        | b + 7, hb => omega
      unfold Uf.unitNums at h2
      rw [Uf.rowOf_get hb] at h2
      have h3 := Option.some.inj h2
      by_cases h0 : Uf.gof n steps = 0
      · rw [if_pos h0] at h3
        rw [h3]; exact Int.dvd_zero _
      · rw [if_neg h0] at h3
        exact Int.dvd_of_emod_eq_zero h3
    · intro h
      refine Uf.row_ext (n := 7) (Uf.rowOf_len _ _) rfl fun b hb => ?_
      unfold Uf.unitNums
      rw [Uf.rowOf_get hb]
      have hz : z7[b]? = some 0 := by
        match b, hb with
        | 0, _ => rfl
        | 1, _ => rfl
        | 2, _ => rfl
        | 3, _ => rfl
        | 4, _ => rfl
        | 5, _ => rfl
        | 6, _ => rfl
        | b + 7, hb => omega
      rw [hz]
      refine congrArg some ?_
      by_cases h0 : Uf.gof n steps = 0
      · rw [if_pos h0]
        have := h b hb
        rw [h0] at this
        exact Int.zero_dvd.mp this
      · rw [if_neg h0]
        exact Int.emod_eq_zero_of_dvd (h b hb)
  rw [key]
  unfold Uf.LineNo
  exact ⟨fun h q => q h, fun h => Classical.byContradiction h⟩
abbrev DUnits (P : Program) (w : World) (K : PySem.W.Frag) (mg : Str → Option Value) (base : Heap) (CW : Addr) : Prop := Def P w K mg base 4 "units_in" ["ways", "exponents"] (spUnits CW)
/-- answer_test(sheet, a, b) -/
def spATest (CS CW : Addr) : Sp := fun vs H Q _ => ∃ (sh : Addr) (d : SD) (s : Uni.State) (a b : Nat), vs = [.ref sh, .int a, .int b] ∧ SheetAt CS CW H sh d ∧ d.Rel s ∧ Done CS CW sh H d s (.test a b) Q
theorem scATest : FnScope ["sheet", "a", "b", "units"] ["sheet", "a", "b"] (defScope sATest) := sc_of (by decide +kernel)
theorem ok_atest {f : Addr} {fd : FuncData} (F : Fun K "answer_test" "answer_test" sATest f fd) (T : Txt mg) (TS : TxtS K CS) (d1 : DHas2 P w K mg base CS CW) (d3 : DQuot P w K mg base CS CW) (d5 : DUnits P w K mg base CW) :
    FnOk P w K mg base CX0 5 f fd ["sheet", "a", "b"] (spATest CS CW) := by
  refine F.ok scATest (fun vs H Q E h => ?_) (fun cdv A outer s H vs Q E hr h => ?_)
  · obtain ⟨sh, d, s, a, b, rfl, _⟩ := h
    rfl
  · obtain ⟨sh, d, s, a, b, rfl, S, R, k⟩ := h
    have hr2 : Room 2 _ := hr.mono (by decide)
    refine ⟨_, pss_cons (ps_if (pt_not (pt_val (pe_def d1 hr2 rfl (pa_cons (pv 0) (pa_cons (pv 1) (pa_cons (pv 2) pa_nil)))))) (pss_one (ps_ret (pe_num rfl T.rNone))) pss_nil)
      (pss_cons (ps_set (i := 3) scATest.nd rfl (Or.inl rfl) (pe_def d5 hr rfl (pa_cons (pe_fld (pv 0) rfl) (pa_cons (pe_def d3 hr2 rfl (pa_cons (pv 0) (pa_cons (pv 1) (pa_cons (pv 2) pa_nil)))) pa_nil))))
      (pss_cons (ps_if (pt_cmpR (op_neD hr.units) (pe_ix ix_tup (pv 3) pe_int (fun _ _ => rfl)) (pe_op op_rep (pe_lst (pa_cons pe_int pa_nil)) (pe_num rfl T.cUnits)) (nomark _)) (pss_one (ps_ret (pe_num rfl T.tNever))) pss_nil)
      (pss_one (ps_ret (pe_ifExp (pt_cmpR op_eq (pe_ix ix_tup (pv 3) pe_int (fun _ _ => rfl)) pe_int (nomark _)) (pe_num rfl T.tAlways) (pe_num rfl T.tSome)))))), ?_⟩
    refine ⟨_, rfl, _, rfl, _, rfl, sh, d, a, b, rfl, S, _, rfl, ite2 (fun h => ?_) (fun h => ?_)⟩
    · have h1 : ¬ (a < d.forms.length ∧ b < d.forms.length) := nd_of h
      exact k.no S R (Same.refl _) (Uf.ofTwo_no R.now (by omega))
    · have h1 : a < d.forms.length ∧ b < d.forms.length := by simpa using h
      obtain ⟨ra, hra⟩ := get_of h1.1
      obtain ⟨rb, hrb⟩ := get_of h1.2
      obtain ⟨p1, p2⟩ := Uf.step_test R.now hra hrb
      obtain ⟨l13, b12⟩ := line_ok R hra hrb
      obtain ⟨dx, hi⟩ := S.ins
      obtain ⟨sa, ta, hw1, hw2, hw3⟩ := S.hw
      refine ⟨_, rfl, sh, CS, dx, _, _, rfl, hi, TS.cl, TS.nW, rfl, _, rfl, _, rfl, _, rfl, sh, d, a, b, ra, rb, rfl, S, fun r hr => R.now.row hr, hra, hrb, fun D H1 hD s1 hrow => ?_⟩
      refine ⟨d.wa, D, sa, ta, d.starts, d.steps, _, rfl, (hw1.same cut_le).same s1, (hw2.same cut_le).same s1, (hw3.same cut_le).same s1, hrow, l13, b12, R.now.rel.good, R.now.size, fun H2 tu U s2 htu hU => ?_⟩
      have s12 := s1.trans s2
      refine ⟨_, rfl, tu, _, 1, _, rfl, rfl, SqT.of htu, rfl, (by show 1 ≤ sizeLine; decide), fun l hl => ?_⟩
      have s3 : Same H2 (upd H2 l (.lst [.int 0])) := Same.new hl
      refine ⟨l, 7, _, rfl, rfl, upd_same, by decide, by decide, (by show 1 * 7 ≤ sizeLine; decide), fun l2 hl2 => ?_⟩
      have s4 : Same (upd H2 l (.lst [.int 0])) (upd (upd H2 l (.lst [.int 0])) l2 (.lst (iV z7))) := Same.new hl2
      have s34 := s3.trans s4
      refine ⟨.list ((Uf.unitNums ((Uni.plus ra rb (-1)).take 6) ((Uni.plus ra rb (-1)).drop 6) d.starts d.steps).map PyData.int), .list (z7.map PyData.int), .lst (SqL.of (s34 _ _ hU)) (dp_ints _), (Dp.lst (SqL.of upd_same) (dp_ints z7)), shaped_ints _, shaped_ints _, _, rfl, ?_⟩
      rw [eqvL_ints]
      refine ite2 (fun h2 => ?_) (fun h2 => ?_)
      · have h3 : ¬ Uf.unitNums ((Uni.plus ra rb (-1)).take 6) ((Uni.plus ra rb (-1)).drop 6) d.starts d.steps = z7 := by simpa using h2
        exact k.no S R (s12.trans s34) (p1 (Classical.byContradiction fun q => h3 (units_zero.mpr q)))
      · have h3 : Uf.unitNums ((Uni.plus ra rb (-1)).take 6) ((Uni.plus ra rb (-1)).drop 6) d.starts d.steps = z7 := by simpa using h2
        have hs := p2 (units_zero.mp h3)
        refine ⟨_, rfl, tu, _, 0, _, rfl, rfl, SqT.of (s34 _ _ htu), rfl, rfl, _, rfl, ite2 (fun h4 => ?_) (fun h4 => ?_)⟩
        · have h5 : Uf.gof ((Uni.plus ra rb (-1)).take 6) d.steps = 0 := by simpa using h4
          rw [if_pos h5] at hs
          exact k.no S R (s12.trans s34) hs
        · have h5 : ¬ Uf.gof ((Uni.plus ra rb (-1)).take 6) d.steps = 0 := by simpa using h4
          rw [if_neg h5] at hs
          exact k.no S R (s12.trans s34) hs
/-- answer_keep(sheet) -/
def spAKeep (CS CW : Addr) : Sp := fun vs H Q _ => ∃ (sh : Addr) (d : SD) (s : Uni.State), vs = [.ref sh] ∧ SheetAt CS CW H sh d ∧ d.Rel s ∧ Done CS CW sh H d s .keep Q
theorem scAKeep : FnScope ["sheet"] ["sheet"] (defScope sAKeep) := sc_of (by decide +kernel)
abbrev DKeep (P : Program) (w : World) (K : PySem.W.Frag) (mg : Str → Option Value) (base : Heap) (CS CW : Addr) : Prop := MethD P w K mg base 1 CS "keep" ["self"] (spKeep CS CW)
abbrev DGoBack (P : Program) (w : World) (K : PySem.W.Frag) (mg : Str → Option Value) (base : Heap) (CS CW : Addr) : Prop := MethD P w K mg base 1 CS "go_back" ["self"] (spGoBack CS CW)
theorem klen (d : SD) : ((d.ks.reverse.map KD.k).map V.ref).length = d.ks.length := by rw [List.length_map, List.length_map, List.length_reverse]
theorem ok_akeep {f : Addr} {fd : FuncData} (F : Fun K "answer_keep" "answer_keep" sAKeep f fd) (T : Txt mg) (TS : TxtS K CS) (d1 : DKeep P w K mg base CS CW) : FnOk P w K mg base CX0 2 f fd ["sheet"] (spAKeep CS CW) := by
  obtain ⟨fb, fdb, Fb, mb, bb⟩ := d1
  refine F.ok scAKeep (fun vs H Q E h => ?_) (fun cdv A outer s H vs Q E hr h => ?_)
  · obtain ⟨sh, d, s, rfl, _⟩ := h
    rfl
  · obtain ⟨sh, d, s, rfl, S, R, k⟩ := h
    refine ⟨_, pss_cons (ps_if (pt_cmpR op_eq (pe_callB call_len_seq rfl T.nLen boot_len (pa_cons (pe_fld (pv 0) rfl) pa_nil)) (pe_num rfl T.cKept) (nomark _)) (pss_one (ps_ret (pe_num rfl T.rMuch))) pss_nil)
      (pss_cons (ps_expr (pe_meth0 (pv 0) TS.cl mb Fb hr bb .nil pass0))
      (pss_one (ps_ret (pe_callB call_len_seq rfl T.nLen boot_len (pa_cons (pe_fld (pv 0) rfl) pa_nil))))), ?_⟩
    obtain ⟨dx, hi⟩ := S.ins
    have hl := R.kept.len
    refine ⟨_, rfl, sh, CS, dx, _, _, rfl, hi, TS.cl, TS.nK, rfl, d.ka, _, rfl, .inl (SqL.of S.hk), rfl, _, rfl, ?_⟩
    rw [klen]
    refine ite2 (fun h => ?_) (fun h => ?_)
    · have h1 : d.ks.length = 8 := by
        have : (d.ks.length : Int) = 8 := by simpa using h
        omega
      refine k.no S R (Same.refl _) ?_
      show (if _ then _ else _) = _
      rw [if_neg]
      rw [hl, h1]; decide
    · have h1 : d.ks.length < 8 := by
        have h2 : ¬ (d.ks.length : Int) = 8 := by simpa using h
        have := R.few
        omega
      refine ⟨_, rfl, sh, dx, _, rfl, hi, rfl, sh, d, rfl, S, h1, fun H' kp kf S' f' g' => ?_⟩
      obtain ⟨dx', hi'⟩ := S'.ins
      refine ⟨_, rfl, sh, CS, dx', _, _, rfl, hi', TS.cl, TS.nK, rfl, d.ka, _, rfl, .inl (SqL.of S'.hk), ?_⟩
      rw [klen]
      refine k H' _ ⟨s.now, s.now :: s.kept⟩ _ S' f' g' ?_ ⟨R.now, ⟨R.now, R.kept⟩, ?_⟩
      · show (if _ then _ else _) = _
        rw [if_pos (by rw [hl]; exact h1), hl]
        rfl
      · show d.ks.length + 1 ≤ 8
        omega
/-- answer_back(sheet) -/
def spABack (CS CW : Addr) : Sp := fun vs H Q _ => ∃ (sh : Addr) (d : SD) (s : Uni.State), vs = [.ref sh] ∧ SheetAt CS CW H sh d ∧ d.Rel s ∧ Done CS CW sh H d s .back Q
theorem scABack : FnScope ["sheet"] ["sheet"] (defScope sABack) := sc_of (by decide +kernel)
theorem ok_aback {f : Addr} {fd : FuncData} (F : Fun K "answer_back" "answer_back" sABack f fd) (T : Txt mg) (TS : TxtS K CS) (d1 : DGoBack P w K mg base CS CW) : FnOk P w K mg base CX0 2 f fd ["sheet"] (spABack CS CW) := by
  obtain ⟨fb, fdb, Fb, mb, bb⟩ := d1
  refine F.ok scABack (fun vs H Q E h => ?_) (fun cdv A outer s H vs Q E hr h => ?_)
  · obtain ⟨sh, d, s, rfl, _⟩ := h
    rfl
  · obtain ⟨sh, d, s, rfl, S, R, k⟩ := h
    refine ⟨_, pss_cons (ps_if (pt_cmpR op_eq (pe_callB call_len_seq rfl T.nLen boot_len (pa_cons (pe_fld (pv 0) rfl) pa_nil)) pe_int (nomark _)) (pss_one (ps_ret (pe_num rfl T.rNone))) pss_nil)
      (pss_cons (ps_expr (pe_meth0 (pv 0) TS.cl mb Fb hr bb .nil pass0))
      (pss_one (ps_ret (pe_callB call_len_seq rfl T.nLen boot_len (pa_cons (pe_fld (pv 0) rfl) pa_nil))))), ?_⟩
    obtain ⟨dx, hi⟩ := S.ins
    have hl := R.kept.len
    refine ⟨_, rfl, sh, CS, dx, _, _, rfl, hi, TS.cl, TS.nK, rfl, d.ka, _, rfl, .inl (SqL.of S.hk), rfl, _, rfl, ?_⟩
    rw [klen]
    refine ite2 (fun h => ?_) (fun h => ?_)
    · have h1 : d.ks.length = 0 := by
        have : (d.ks.length : Int) = 0 := by simpa using h
        omega
      refine k.no S R (Same.refl _) ?_
      show (match s.kept with
        | [] => (s, Uni.says (-1))
        | a :: r => (⟨a, r⟩, Uni.says (r.length : Nat))) = _
      have : s.kept = [] := List.length_eq_zero_iff.mp (hl.trans h1)
      rw [this]
    · cases ek : d.ks with
      | nil => rw [ek] at h; simp at h
      | cons q ks =>
        refine ⟨_, rfl, sh, dx, _, rfl, hi, rfl, sh, d, q, ks, rfl, S, ek, fun H' S' f' g' => ?_⟩
        obtain ⟨dx', hi'⟩ := S'.ins
        refine ⟨_, rfl, sh, CS, dx', _, _, rfl, hi', TS.cl, TS.nK, rfl, d.ka, _, rfl, .inl (SqL.of S'.hk), ?_⟩
        rw [klen]
        have kr := R.kept
        rw [ek] at kr
        cases es : s.kept with
        | nil => rw [es] at kr; exact kr.elim
        | cons n ns =>
          rw [es] at kr
          have few := R.few
          rw [ek] at few
          refine k H' _ ⟨n, ns⟩ _ S' f' g' ?_ ⟨kr.1, kr.2, ?_⟩
          · show (match s.kept with
              | [] => (s, Uni.says (-1))
              | a :: r => (⟨a, r⟩, Uni.says (r.length : Nat))) = _
            rw [es]
            show (_, Uni.says (ns.length : Nat)) = _
            rw [kr.2.len]
          · show ks.length ≤ 8
            simp only [List.length_cons] at few
            omega
end
end Ug

set_option Elab.async false
set_option linter.all false
set_option maxRecDepth 100000
set_option maxHeartbeats 2000000
namespace Ug
open PySem PySem.Spec PyProof.Rows L2
/-! what neither the reader nor the locked list is -/
def Nf (o : HO) : Prop := (∀ od u, o ≠ .frz od u) ∧ ∀ C dx a n, o ≠ .ins C dx (rf a n)
theorem nf_lst (xs : List V) : Nf (.lst xs) := ⟨fun _ _ e => (by cases e), fun _ _ _ _ e => (by cases e)⟩
theorem nf_tup (xs : List V) : Nf (.tup xs) := ⟨fun _ _ e => (by cases e), fun _ _ _ _ e => (by cases e)⟩
theorem nf_sf {C dx : Addr} {n : Nat} {f w k : Addr} : Nf (.ins C dx (sf n f w k)) := ⟨fun _ _ e => (by cases e), fun C' dx' a m e => by
  have h : sf n f w k = rf a m := by injection e
  have := congrArg List.length h
  cases this⟩
theorem nf_wf {C dx a b : Addr} : Nf (.ins C dx (wf a b)) := ⟨fun _ _ e => (by cases e), fun C' dx' c m e => by
  have h : wf a b = rf c m := by injection e
  have h2 : (("starts" : Str), V.ref a) = (("numbers" : Str), V.ref c) := (List.cons.inj h).1
  have h3 : ("starts" : Str) = "numbers" := congrArg Prod.fst h2
  exact absurd h3 (by decide)⟩
def NS (H H' : Hp) : Prop := ∀ b o, Nf o → H b = some o → H' b = some o
theorem NS.cut {H H' : Hp} {M : List Addr} (h : NS H H') : NS (cut H M) (cut H' M) := fun b o n e => by
  obtain ⟨hb, e⟩ := of_cut e
  exact cut_of (h b o n e) hb
theorem Rows.ns {H H' : Hp} (s : NS H H') : ∀ {as : List Addr} {rs : List (List Int)}, Rows H as rs → Rows H' as rs
  | _, _, .nil => .nil
  | _, _, .cons h t => .cons (s _ _ (nf_lst _) h) (Rows.ns s t)
theorem RowsAt.ns {H H' : Hp} {a : Addr} {rs : List (List Int)} (h : RowsAt H a rs) (s : NS H H') : RowsAt H' a rs := by
  obtain ⟨as, h1, h2⟩ := h
  exact ⟨as, s _ _ (nf_lst _) h1, Rows.ns s h2⟩
theorem WaysFull.ns {CW : Addr} {F F' : Hp} {wa : Addr} {a b : List Uni.Row} (h : WaysFull CW F wa a b) (s : NS F F') : WaysFull CW F' wa a b := by
  obtain ⟨sa, ta, ⟨dx, h1⟩, h2, h3⟩ := h
  exact ⟨sa, ta, ⟨dx, s _ _ nf_wf h1⟩, h2.ns s, h3.ns s⟩
theorem FormsAt.ns {H H' F F' : Hp} {fa : Addr} {forms : List Uni.Row} (h : FormsAt H F fa forms) (s : NS F F') (t : NS H H') : FormsAt H' F' fa forms := by
  obtain ⟨as, h1, h2⟩ := h
  exact ⟨as, t _ _ (nf_lst _) h1, Rows.ns s h2⟩
theorem SheetAt.ns {CS CW : Addr} {H H' : Hp} {sh : Addr} {d : SD} (S : SheetAt CS CW H sh d) (s : NS H H') : SheetAt CS CW H' sh d := by
  have sc : NS (Ug.cut H (d.M sh)) (Ug.cut H' (d.M sh)) := s.cut
  obtain ⟨dx, e⟩ := S.ins
  exact ⟨S.nd, ⟨dx, s _ _ nf_sf e⟩, S.hf.ns sc s, S.hw.ns sc, s _ _ (nf_lst _) S.hk, fun k hk => ⟨sc _ _ (nf_tup _) (S.hks k hk).1, (S.hks k hk).2.1.ns sc s, (S.hks k hk).2.2.ns sc⟩⟩
theorem ReadAt.ns {K : PySem.W.Frag} {CR : Addr} {H0 H H' : Hp} {rd a : Addr} {calls : List Int} {p : Nat} (R : ReadAt K CR H0 H rd a calls p) (f : Fr [rd] H H') : NS H H' := fun b o n e => f b o e fun hb => by
  simp only [List.mem_cons, List.not_mem_nil, or_false] at hb
  subst hb
  obtain ⟨dx, q⟩ := R.ins
  rw [q] at e
  cases e
  exact n.2 _ _ _ _ rfl

abbrev sWhole : Stmt := top 58
abbrev sAUnit : Stmt := top 59
abbrev sNone : Stmt := top 60
abbrev sTwo : Stmt := top 61
abbrev sNextA : Stmt := top 62
abbrev sAns : Stmt := top 63
section
variable {P : Program} {w : World} {K : PySem.W.Frag} {mg : Str → Option Value} {base : Heap} {CW CS CR : Addr}
/-- whole_answer(number, exponents) -/
def spWhole : Sp := fun vs H Q _ => ∃ (z : Int) (a : Addr) (r : List Int), vs = [.int z, .ref a] ∧ RowAt H a r ∧ r.length ≤ 100 ∧ ∀ D H', H D = none → Same H H' → RowAt H' D (z :: 0 :: (r.length : Int) :: r) → Q (.ref D) H'
theorem scWhole : FnScope ["number", "exponents"] ["number", "exponents"] (defScope sWhole) := sc_of (by decide +kernel)
theorem ok_whole {f : Addr} {fd : FuncData} (F : Fun K "whole_answer" "whole_answer" sWhole f fd) (T : Txt mg) : FnOk P w K mg base CX0 1 f fd ["number", "exponents"] spWhole := by
  refine F.ok scWhole (fun vs H Q E h => ?_) (fun cdv A outer s H vs Q E hr h => ?_)
  · obtain ⟨z, a, r, rfl, _⟩ := h
    rfl
  · obtain ⟨z, a, r, rfl, ha, hl, k⟩ := h
    refine ⟨_, pss_one (ps_ret (pe_op op_cat (pe_lst (pa_cons (pv 0) (pa_cons pe_int (pa_cons (pe_callB call_len_seq rfl T.nLen boot_len (pa_cons (pv 1) pa_nil)) pa_nil)))) (pv 1))), ?_⟩
    refine ⟨_, rfl, _, rfl, a, _, rfl, .inl ha.sq, (by show 3 ≤ sizeLine; decide), fun l hl' => ?_⟩
    rw [List.length_map]
    have s1 : Same H (upd H l (.lst [.int z, .int 0, .int (r.length : Int)])) := Same.new hl'
    refine ⟨_, rfl, l, a, _, _, rfl, rfl, upd_same, s1 _ _ ha, ?_, fun D hD => ?_⟩
    · show 3 + (r.map V.int).length ≤ sizeLine
      rw [List.length_map]
      exact Nat.le_trans (Nat.add_le_add_left hl 3) (by decide)
    · have s2 : Same (upd H l (.lst [.int z, .int 0, .int (r.length : Int)])) (upd (upd H l (.lst [.int z, .int 0, .int (r.length : Int)])) D (.lst ([.int z, .int 0, .int (r.length : Int)] ++ iV r))) := Same.new hD
      exact k D _ (s1.free hD) (s1.trans s2) upd_same
abbrev DWhole (P : Program) (w : World) (K : PySem.W.Frag) (mg : Str → Option Value) (base : Heap) : Prop := Def P w K mg base 1 "whole_answer" ["number", "exponents"] spWhole
/-- a call's whole answer -/
def DoneL (CS CW sh : Addr) (H : Hp) (d : SD) (s : Uni.State) (x : Uni.Call) (Q : VK) : Prop := ∀ H' d' s' ans D, SheetAt CS CW H' sh d' → Fr (d.M sh) H H' → Grow (d.M sh) (d'.M sh) H → Uni.step s x = (s', ans) → d'.Rel s' → H D = none → RowAt H' D (UniNeutral.numbersOf ans) → (UniNeutral.numbersOf ans).length ≤ 10 → Q (.ref D) H'
/-- answer_unit(sheet, a) -/
def spAUnit (CS CW : Addr) : Sp := fun vs H Q _ => ∃ (sh : Addr) (d : SD) (s : Uni.State) (a : Nat), vs = [.ref sh, .int a] ∧ SheetAt CS CW H sh d ∧ d.Rel s ∧ DoneL CS CW sh H d s (.unit a) Q
theorem scAUnit : FnScope ["sheet", "a", "units"] ["sheet", "a"] (defScope sAUnit) := sc_of (by decide +kernel)
theorem ok_aunit {f : Addr} {fd : FuncData} (F : Fun K "answer_unit" "answer_unit" sAUnit f fd) (T : Txt mg) (TS : TxtS K CS) (d1 : DHas P w K mg base CS CW) (d2 : DUnits P w K mg base CW) (d3 : DWhole P w K mg base) : FnOk P w K mg base CX0 5 f fd ["sheet", "a"] (spAUnit CS CW) := by
  refine F.ok scAUnit (fun vs H Q E h => ?_) (fun cdv A outer s H vs Q E hr h => ?_)
  · obtain ⟨sh, d, s, a, rfl, _⟩ := h
    rfl
  · obtain ⟨sh, d, s, a, rfl, S, R, k⟩ := h
    have hr1 : Room 1 _ := hr.mono (by decide)
    refine ⟨_, pss_cons (ps_if (pt_not (pt_val (pe_def d1 hr1 rfl (pa_cons (pv 0) (pa_cons (pv 1) pa_nil))))) (pss_one (ps_ret (pe_def d3 hr1 rfl (pa_cons (pe_num rfl T.rNone) (pa_cons (pe_lst pa_nil) pa_nil))))) pss_nil)
      (pss_cons (ps_set (i := 2) scAUnit.nd rfl (Or.inl rfl) (pe_def d2 hr rfl (pa_cons (pe_fld (pv 0) rfl) (pa_cons (pe_ix ix_list (pe_fld (pv 0) rfl) (pv 1) (fun _ _ => rfl)) pa_nil))))
      (pss_one (ps_ret (pe_def d3 hr1 rfl (pa_cons (pe_ix ix_tup (pv 2) pe_int (fun _ _ => rfl)) (pa_cons (pe_ix ix_tup (pv 2) pe_int (fun _ _ => rfl)) pa_nil)))))), ?_⟩
    refine ⟨_, rfl, _, rfl, sh, d, a, rfl, S, _, rfl, ite2 (fun h => ?_) (fun h => ?_)⟩
    · have h1 : ¬ a < d.forms.length := by simpa using h
      refine ⟨Nat.zero_le _, fun l hl => ?_⟩
      have s1 : Same H (upd H l (.lst [])) := Same.new hl
      refine ⟨-1, l, [], rfl, upd_same, by decide, fun D H' hD s' hrow => ?_⟩
      have s2 := s1.trans s'
      exact k H' d s (Uni.says (-1)) D (S.same s2) s2.fr (Grow.refl _ _) (Uf.ofOne_no R.now (by omega)) R (s1.free hD) hrow (by decide)
    · have h1 : a < d.forms.length := by simpa using h
      obtain ⟨ra, hra⟩ := get_of h1
      obtain ⟨dx, hi⟩ := S.ins
      obtain ⟨sa, ta, hw1, hw2, hw3⟩ := S.hw
      obtain ⟨as, ea, ha, hea, hrea⟩ := S.form hra
      have r1 := R.now.row (List.mem_of_getElem? hra)
      refine ⟨_, rfl, sh, CS, dx, _, _, rfl, hi, TS.cl, TS.nW, rfl, _, rfl, sh, CS, dx, _, _, rfl, hi, TS.cl, TS.nF, rfl, _, rfl, d.fa, _, _, _, rfl, rfl, SqL.of ha, at_ref hea, ?_⟩
      refine ⟨d.wa, ea, sa, ta, d.starts, d.steps, ra, rfl, hw1.same cut_le, hw2.same cut_le, hw3.same cut_le, hrea.same cut_le, r1.1, r1.2.mono (by decide), R.now.rel.good, R.now.size, fun H2 tu U s2 htu hU => ?_⟩
      refine ⟨_, rfl, tu, _, 0, _, rfl, rfl, SqT.of htu, rfl, _, rfl, tu, _, 1, _, rfl, rfl, SqT.of htu, rfl, ?_⟩
      have l7 : (Uf.unitNums (ra.take 6) (ra.drop 6) d.starts d.steps).length = 7 := Uf.rowOf_len _ _
      refine ⟨_, U, _, rfl, hU, by rw [l7]; decide, fun D H' hD s' hrow => ?_⟩
      have s3 := s2.trans s'
      refine k H' d s _ D (S.same s3) s3.fr (Grow.refl _ _) (Uf.step_unit R.now hra) R (s2.free hD) hrow ?_
      show (_ :: _ :: _ :: Uf.unitNums (ra.take 6) (ra.drop 6) d.starts d.steps : List Int).length ≤ 10
      simp only [List.length_cons, l7]
      decide
theorem if_no {i j : Int} {A B : Prop} (hij : i ≠ j) (b : B) : if decide (V.int i = V.int j) = true then A else B := ite2 (fun h => absurd (of_decide_eq_true h) fun e => hij (V.int.inj e)) (fun _ => b)
theorem if_yes {i : Int} {A B : Prop} (a : A) : if decide (V.int i = V.int i) = true then A else B := ite2 (fun _ => a) (fun h => absurd (decide_eq_true rfl) h)
/-- answer_of_none(sheet, call) -/
def NoneX (c : Int) (x : Uni.Call) : Prop := (c = 0 ∧ x = .init) ∨ (c = 1 ∧ x = .name) ∨ (c = 11 ∧ x = .keep) ∨ (c = 12 ∧ x = .back)
theorem NoneX.x0 {c : Int} {x : Uni.Call} (h : NoneX c x) (e : c = 0) : x = .init := by
  subst e
  rcases h with ⟨_, h⟩ | ⟨h, _⟩ | ⟨h, _⟩ | ⟨h, _⟩ <;> first | exact h | exact absurd h (by decide)
theorem NoneX.x1 {c : Int} {x : Uni.Call} (h : NoneX c x) (e : c = 1) : x = .name := by
  subst e
  rcases h with ⟨h, _⟩ | ⟨_, h⟩ | ⟨h, _⟩ | ⟨h, _⟩ <;> first | exact h | exact absurd h (by decide)
theorem NoneX.x11 {c : Int} {x : Uni.Call} (h : NoneX c x) (e : c = 11) : x = .keep := by
  subst e
  rcases h with ⟨h, _⟩ | ⟨h, _⟩ | ⟨_, h⟩ | ⟨h, _⟩ <;> first | exact h | exact absurd h (by decide)
theorem NoneX.x12 {c : Int} {x : Uni.Call} (h : NoneX c x) (n0 : c ≠ 0) (n1 : c ≠ 1) (n11 : c ≠ 11) : x = .back := by
  rcases h with ⟨h, _⟩ | ⟨h, _⟩ | ⟨h, _⟩ | ⟨_, h⟩
  · exact absurd h n0
  · exact absurd h n1
  · exact absurd h n11
  · exact h
def spNone (CS CW : Addr) : Sp := fun vs H Q _ => ∃ (sh : Addr) (d : SD) (s : Uni.State) (c : Int) (x : Uni.Call), vs = [.ref sh, .int c] ∧ SheetAt CS CW H sh d ∧ d.Rel s ∧ NoneX c x ∧ Done CS CW sh H d s x Q
theorem scNone : FnScope ["sheet", "call"] ["sheet", "call"] (defScope sNone) := sc_of (by decide +kernel)
theorem ok_none {f : Addr} {fd : FuncData} (F : Fun K "answer_of_none" "answer_of_none" sNone f fd) (T : Txt mg) (d1 : Def P w K mg base 5 "answer_init" ["sheet"] (spAInit CS CW)) (d2 : Def P w K mg base 4 "answer_name" ["sheet"] (spAName CS CW)) (d3 : Def P w K mg base 2 "answer_keep" ["sheet"] (spAKeep CS CW)) (d4 : Def P w K mg base 2 "answer_back" ["sheet"] (spABack CS CW)) :
    FnOk P w K mg base CX0 6 f fd ["sheet", "call"] (spNone CS CW) := by
  refine F.ok scNone (fun vs H Q E h => ?_) (fun cdv A outer s H vs Q E hr h => ?_)
  · obtain ⟨sh, d, s, c, x, rfl, _⟩ := h
    rfl
  · obtain ⟨sh, d, s, c, x, rfl, S, R, hx, k⟩ := h
    refine ⟨_, pss_cons (ps_if (pt_cmpR op_eq (pv 1) (pe_num rfl T.p0) (nomark _)) (pss_one (ps_ret (pe_def d1 hr rfl (pa_cons (pv 0) pa_nil)))) pss_nil)
      (pss_cons (ps_if (pt_cmpR op_eq (pv 1) (pe_num rfl T.p1) (nomark _)) (pss_one (ps_ret (pe_def d2 (hr.mono (by decide)) rfl (pa_cons (pv 0) pa_nil)))) pss_nil)
      (pss_cons (ps_if (pt_cmpR op_eq (pv 1) (pe_num rfl T.p11) (nomark _)) (pss_one (ps_ret (pe_def d3 (hr.mono (by decide)) rfl (pa_cons (pv 0) pa_nil)))) pss_nil)
      (pss_one (ps_ret (pe_def d4 (hr.mono (by decide)) rfl (pa_cons (pv 0) pa_nil)))))), ?_⟩
    refine ⟨_, rfl, rfl, _, rfl, ite2 (fun h => ?_) (fun h => ?_)⟩
    · have e : x = .init := hx.x0 (V.int.inj (of_decide_eq_true h))
      subst e
      exact ⟨_, rfl, sh, d, s, rfl, S, R, k⟩
    have n0 : c ≠ 0 := fun e => h (by rw [e]; exact decide_eq_true rfl)
    refine ⟨_, rfl, rfl, _, rfl, ite2 (fun h => ?_) (fun h => ?_)⟩
    · have e : x = .name := hx.x1 (V.int.inj (of_decide_eq_true h))
      subst e
      exact ⟨_, rfl, sh, d, s, rfl, S, R, k⟩
    have n1 : c ≠ 1 := fun e => h (by rw [e]; exact decide_eq_true rfl)
    refine ⟨_, rfl, rfl, _, rfl, ite2 (fun h => ?_) (fun h => ?_)⟩
    · have e : x = .keep := hx.x11 (V.int.inj (of_decide_eq_true h))
      subst e
      exact ⟨_, rfl, sh, d, s, rfl, S, R, k⟩
    have n11 : c ≠ 11 := fun e => h (by rw [e]; exact decide_eq_true rfl)
    have e : x = .back := hx.x12 n0 n1 n11
    subst e
    exact ⟨_, rfl, sh, d, s, rfl, S, R, k⟩
/-- answer_of_two(sheet, call, a, b) -/
def TwoX (p a b : Int) (x : Uni.Call) : Prop :=
  (∃ n m : Nat, a = n ∧ b = m ∧ ((p = 3 ∧ x = .mul n m) ∨ (p = 4 ∧ x = .div n m) ∨ (p = 7 ∧ x = .add n m) ∨ (p = 8 ∧ x = .eq_ n m) ∨ (p = 9 ∧ x = .test n m))) ∨
  (∃ n : Nat, a = n ∧ (-(2 ^ 64) < b ∧ b < 2 ^ 64) ∧ ((p = 5 ∧ x = .pow n b) ∨ (p = 6 ∧ x = .root n b)))
theorem TwoX.x3 {p a b : Int} {x : Uni.Call} (h : TwoX p a b x) (e : p = 3) : ∃ n m : Nat, a = n ∧ b = m ∧ x = .mul n m := by
  subst e
  rcases h with ⟨n, m, ha, hb, h⟩ | ⟨n, ha, hb, h⟩
  · rcases h with ⟨g, h⟩ | ⟨g, h⟩ | ⟨g, h⟩ | ⟨g, h⟩ | ⟨g, h⟩ <;> first | exact ⟨n, m, ha, hb, h⟩ | exact absurd g (by decide)
  · rcases h with ⟨g, h⟩ | ⟨g, h⟩ <;> exact absurd g (by decide)
theorem TwoX.x4 {p a b : Int} {x : Uni.Call} (h : TwoX p a b x) (e : p = 4) : ∃ n m : Nat, a = n ∧ b = m ∧ x = .div n m := by
  subst e
  rcases h with ⟨n, m, ha, hb, h⟩ | ⟨n, ha, hb, h⟩
  · rcases h with ⟨g, h⟩ | ⟨g, h⟩ | ⟨g, h⟩ | ⟨g, h⟩ | ⟨g, h⟩ <;> first | exact ⟨n, m, ha, hb, h⟩ | exact absurd g (by decide)
  · rcases h with ⟨g, h⟩ | ⟨g, h⟩ <;> exact absurd g (by decide)
theorem TwoX.x7 {p a b : Int} {x : Uni.Call} (h : TwoX p a b x) (e : p = 7) : ∃ n m : Nat, a = n ∧ b = m ∧ x = .add n m := by
  subst e
  rcases h with ⟨n, m, ha, hb, h⟩ | ⟨n, ha, hb, h⟩
  · rcases h with ⟨g, h⟩ | ⟨g, h⟩ | ⟨g, h⟩ | ⟨g, h⟩ | ⟨g, h⟩ <;> first | exact ⟨n, m, ha, hb, h⟩ | exact absurd g (by decide)
  · rcases h with ⟨g, h⟩ | ⟨g, h⟩ <;> exact absurd g (by decide)
theorem TwoX.x8 {p a b : Int} {x : Uni.Call} (h : TwoX p a b x) (e : p = 8) : ∃ n m : Nat, a = n ∧ b = m ∧ x = .eq_ n m := by
  subst e
  rcases h with ⟨n, m, ha, hb, h⟩ | ⟨n, ha, hb, h⟩
  · rcases h with ⟨g, h⟩ | ⟨g, h⟩ | ⟨g, h⟩ | ⟨g, h⟩ | ⟨g, h⟩ <;> first | exact ⟨n, m, ha, hb, h⟩ | exact absurd g (by decide)
  · rcases h with ⟨g, h⟩ | ⟨g, h⟩ <;> exact absurd g (by decide)
theorem TwoX.x5 {p a b : Int} {x : Uni.Call} (h : TwoX p a b x) (e : p = 5) : ∃ n : Nat, a = n ∧ (-(2 ^ 64) < b ∧ b < 2 ^ 64) ∧ x = .pow n b := by
  subst e
  rcases h with ⟨n, m, ha, hb, h⟩ | ⟨n, ha, hb, h⟩
  · rcases h with ⟨g, h⟩ | ⟨g, h⟩ | ⟨g, h⟩ | ⟨g, h⟩ | ⟨g, h⟩ <;> exact absurd g (by decide)
  · rcases h with ⟨g, h⟩ | ⟨g, h⟩ <;> first | exact ⟨n, ha, hb, h⟩ | exact absurd g (by decide)
theorem TwoX.x6 {p a b : Int} {x : Uni.Call} (h : TwoX p a b x) (e : p = 6) : ∃ n : Nat, a = n ∧ (-(2 ^ 64) < b ∧ b < 2 ^ 64) ∧ x = .root n b := by
  subst e
  rcases h with ⟨n, m, ha, hb, h⟩ | ⟨n, ha, hb, h⟩
  · rcases h with ⟨g, h⟩ | ⟨g, h⟩ | ⟨g, h⟩ | ⟨g, h⟩ | ⟨g, h⟩ <;> exact absurd g (by decide)
  · rcases h with ⟨g, h⟩ | ⟨g, h⟩ <;> first | exact ⟨n, ha, hb, h⟩ | exact absurd g (by decide)
theorem TwoX.x9 {p a b : Int} {x : Uni.Call} (h : TwoX p a b x) (n3 : p ≠ 3) (n4 : p ≠ 4) (n5 : p ≠ 5) (n6 : p ≠ 6) (n7 : p ≠ 7) (n8 : p ≠ 8) : ∃ n m : Nat, a = n ∧ b = m ∧ x = .test n m := by
  rcases h with ⟨n, m, ha, hb, h⟩ | ⟨n, ha, hb, h⟩
  · rcases h with ⟨g, h⟩ | ⟨g, h⟩ | ⟨g, h⟩ | ⟨g, h⟩ | ⟨g, h⟩
    · exact absurd g n3
    · exact absurd g n4
    · exact absurd g n7
    · exact absurd g n8
    · exact ⟨n, m, ha, hb, h⟩
  · rcases h with ⟨g, h⟩ | ⟨g, h⟩
    · exact absurd g n5
    · exact absurd g n6
def spTwo (CS CW : Addr) : Sp := fun vs H Q _ => ∃ (sh : Addr) (d : SD) (s : Uni.State) (p a b : Int) (x : Uni.Call), vs = [.ref sh, .int p, .int a, .int b] ∧ SheetAt CS CW H sh d ∧ d.Rel s ∧ TwoX p a b x ∧ Done CS CW sh H d s x Q
theorem scTwo : FnScope ["sheet", "call", "a", "b"] ["sheet", "call", "a", "b"] (defScope sTwo) := sc_of (by decide +kernel)
theorem ok_two {f : Addr} {fd : FuncData} (F : Fun K "answer_of_two" "answer_of_two" sTwo f fd) (T : Txt mg) (d1 : Def P w K mg base 3 "answer_product" ["sheet", "a", "b", "power"] (spAProd CS CW)) (d2 : Def P w K mg base 3 "answer_pow" ["sheet", "a", "k"] (spAPow CS CW)) (d3 : Def P w K mg base 6 "answer_root" ["sheet", "a", "k"] (spARoot CS CW))
    (d4 : Def P w K mg base 6 "answer_add" ["sheet", "a", "b"] (spAAdd CS CW)) (d5 : Def P w K mg base 6 "answer_eq" ["sheet", "a", "b"] (spAEq CS CW)) (d6 : Def P w K mg base 5 "answer_test" ["sheet", "a", "b"] (spATest CS CW)) : FnOk P w K mg base CX0 7 f fd ["sheet", "call", "a", "b"] (spTwo CS CW) := by
  refine F.ok scTwo (fun vs H Q E h => ?_) (fun cdv A outer s H vs Q E hr h => ?_)
  · obtain ⟨sh, d, s, p, a, b, x, rfl, _⟩ := h
    rfl
  · obtain ⟨sh, d, s, p, a, b, x, rfl, S, R, hx, k⟩ := h
    have hr3 : Room 3 _ := hr.mono (by decide)
    have hr5 : Room 5 _ := hr.mono (by decide)
    refine ⟨_, pss_cons (ps_if (pt_cmpR op_eq (pv 1) (pe_num rfl T.p3) (nomark _)) (pss_one (ps_ret (pe_def d1 hr3 rfl (pa_cons (pv 0) (pa_cons (pv 2) (pa_cons (pv 3) (pa_cons pe_int pa_nil))))))) pss_nil)
      (pss_cons (ps_if (pt_cmpR op_eq (pv 1) (pe_num rfl T.p4) (nomark _)) (pss_one (ps_ret (pe_def d1 hr3 rfl (pa_cons (pv 0) (pa_cons (pv 2) (pa_cons (pv 3) (pa_cons (pe_un un_neg pe_int) pa_nil))))))) pss_nil)
      (pss_cons (ps_if (pt_cmpR op_eq (pv 1) (pe_num rfl T.p5) (nomark _)) (pss_one (ps_ret (pe_def d2 hr3 rfl (pa_cons (pv 0) (pa_cons (pv 2) (pa_cons (pv 3) pa_nil)))))) pss_nil)
      (pss_cons (ps_if (pt_cmpR op_eq (pv 1) (pe_num rfl T.p6) (nomark _)) (pss_one (ps_ret (pe_def d3 hr rfl (pa_cons (pv 0) (pa_cons (pv 2) (pa_cons (pv 3) pa_nil)))))) pss_nil)
      (pss_cons (ps_if (pt_cmpR op_eq (pv 1) (pe_num rfl T.p7) (nomark _)) (pss_one (ps_ret (pe_def d4 hr rfl (pa_cons (pv 0) (pa_cons (pv 2) (pa_cons (pv 3) pa_nil)))))) pss_nil)
      (pss_cons (ps_if (pt_cmpR op_eq (pv 1) (pe_num rfl T.p8) (nomark _)) (pss_one (ps_ret (pe_def d5 hr rfl (pa_cons (pv 0) (pa_cons (pv 2) (pa_cons (pv 3) pa_nil)))))) pss_nil)
      (pss_one (ps_ret (pe_def d6 hr5 rfl (pa_cons (pv 0) (pa_cons (pv 2) (pa_cons (pv 3) pa_nil))))))))))), ?_⟩
    refine ⟨_, rfl, rfl, _, rfl, ite2 (fun h => ?_) (fun h => ?_)⟩
    · obtain ⟨n, m, rfl, rfl, rfl⟩ := hx.x3 (V.int.inj (of_decide_eq_true h))
      exact ⟨_, rfl, _, rfl, _, rfl, sh, d, s, n, m, 1, _, rfl, S, R, .inl ⟨rfl, rfl⟩, k⟩
    have n3 : p ≠ 3 := fun e => h (by rw [e]; exact decide_eq_true rfl)
    refine ⟨_, rfl, rfl, _, rfl, ite2 (fun h => ?_) (fun h => ?_)⟩
    · obtain ⟨n, m, rfl, rfl, rfl⟩ := hx.x4 (V.int.inj (of_decide_eq_true h))
      exact ⟨_, rfl, _, rfl, _, rfl, 1, rfl, sh, d, s, n, m, -1, _, rfl, S, R, .inr ⟨rfl, rfl⟩, k⟩
    have n4 : p ≠ 4 := fun e => h (by rw [e]; exact decide_eq_true rfl)
    refine ⟨_, rfl, rfl, _, rfl, ite2 (fun h => ?_) (fun h => ?_)⟩
    · obtain ⟨n, rfl, hb, rfl⟩ := hx.x5 (V.int.inj (of_decide_eq_true h))
      exact ⟨_, rfl, _, rfl, _, rfl, sh, d, s, n, b, rfl, S, R, hb, k⟩
    have n5 : p ≠ 5 := fun e => h (by rw [e]; exact decide_eq_true rfl)
    refine ⟨_, rfl, rfl, _, rfl, ite2 (fun h => ?_) (fun h => ?_)⟩
    · obtain ⟨n, rfl, hb, rfl⟩ := hx.x6 (V.int.inj (of_decide_eq_true h))
      exact ⟨_, rfl, _, rfl, _, rfl, sh, d, s, n, b, rfl, S, R, k⟩
    have n6 : p ≠ 6 := fun e => h (by rw [e]; exact decide_eq_true rfl)
    refine ⟨_, rfl, rfl, _, rfl, ite2 (fun h => ?_) (fun h => ?_)⟩
    · obtain ⟨n, m, rfl, rfl, rfl⟩ := hx.x7 (V.int.inj (of_decide_eq_true h))
      exact ⟨_, rfl, _, rfl, _, rfl, sh, d, s, n, m, rfl, S, R, k⟩
    have n7 : p ≠ 7 := fun e => h (by rw [e]; exact decide_eq_true rfl)
    refine ⟨_, rfl, rfl, _, rfl, ite2 (fun h => ?_) (fun h => ?_)⟩
    · obtain ⟨n, m, rfl, rfl, rfl⟩ := hx.x8 (V.int.inj (of_decide_eq_true h))
      exact ⟨_, rfl, _, rfl, _, rfl, sh, d, s, n, m, rfl, S, R, k⟩
    have n8 : p ≠ 8 := fun e => h (by rw [e]; exact decide_eq_true rfl)
    obtain ⟨n, m, rfl, rfl, rfl⟩ := hx.x9 n3 n4 n5 n6 n7 n8
    exact ⟨_, rfl, _, rfl, _, rfl, sh, d, s, n, m, rfl, S, R, k⟩
/-! the calls, read -/
theorem drop_cons {l r : List Int} {p : Nat} {x : Int} (h : l.drop p = x :: r) : l[p]? = some x ∧ l.drop (p + 1) = r ∧ p < l.length := by
  have hp : p < l.length := by
    apply Classical.byContradiction
    intro q
    rw [List.drop_eq_nil_of_le (by omega)] at h
    cases h
  rw [List.drop_eq_getElem_cons hp] at h
  have := List.cons.inj h
  exact ⟨by rw [List.getElem?_eq_getElem hp, this.1], this.2, hp⟩
theorem nat_of {z : Int} {b : Nat} (h : UniNeutral.natural z b = true) : ∃ n : Nat, z = n ∧ z.toNat = n := by
  unfold UniNeutral.natural at h
  rw [Bool.and_eq_true] at h
  have h0 : 0 ≤ z := of_decide_eq_true h.1
  exact ⟨z.toNat, by omega, rfl⟩
theorem two_x {p a b : Int} (h1 : 3 ≤ p) (h2 : p ≤ 9) (ha : UniNeutral.asked1 [[p, a, b]] = true) : ∃ x, UniNeutral.callOf [[p, a, b]] = some x ∧ TwoX p a b x := by
  have hp : p = 3 ∨ p = 4 ∨ p = 5 ∨ p = 6 ∨ p = 7 ∨ p = 8 ∨ p = 9 := by omega
  have nn : (UniNeutral.natural a 64 && UniNeutral.natural b 64) = true → ∃ n m : Nat, a = n ∧ b = m ∧ a.toNat = n ∧ b.toNat = m := by
    intro h
    rw [Bool.and_eq_true] at h
    obtain ⟨n, e1, e2⟩ := nat_of h.1
    obtain ⟨m, e3, e4⟩ := nat_of h.2
    exact ⟨n, m, e1, e3, e2, e4⟩
  have ni : (UniNeutral.natural a 64 && decide (-(2 ^ 63) ≤ b) && decide (b < 2 ^ 63)) = true → ∃ n : Nat, a = n ∧ a.toNat = n ∧ (-(2 ^ 64) < b ∧ b < 2 ^ 64) := by
    intro h
    rw [Bool.and_eq_true, Bool.and_eq_true] at h
    obtain ⟨n, e1, e2⟩ := nat_of h.1.1
    have h3 : -(2 ^ 63) ≤ b := of_decide_eq_true h.1.2
    have h4 : b < 2 ^ 63 := of_decide_eq_true h.2
    exact ⟨n, e1, e2, by omega, by omega⟩
  rcases hp with rfl | rfl | rfl | rfl | rfl | rfl | rfl
  · obtain ⟨n, m, e1, e2, e3, e4⟩ := nn ha
    exact ⟨.mul n m, by rw [← e3, ← e4]; rfl, .inl ⟨n, m, e1, e2, .inl ⟨rfl, rfl⟩⟩⟩
  · obtain ⟨n, m, e1, e2, e3, e4⟩ := nn ha
    exact ⟨.div n m, by rw [← e3, ← e4]; rfl, .inl ⟨n, m, e1, e2, .inr (.inl ⟨rfl, rfl⟩)⟩⟩
  · obtain ⟨n, e1, e2, e3⟩ := ni ha
    exact ⟨.pow n b, by rw [← e2]; rfl, .inr ⟨n, e1, e3, .inl ⟨rfl, rfl⟩⟩⟩
  · obtain ⟨n, e1, e2, e3⟩ := ni ha
    exact ⟨.root n b, by rw [← e2]; rfl, .inr ⟨n, e1, e3, .inr ⟨rfl, rfl⟩⟩⟩
  · obtain ⟨n, m, e1, e2, e3, e4⟩ := nn ha
    exact ⟨.add n m, by rw [← e3, ← e4]; rfl, .inl ⟨n, m, e1, e2, .inr (.inr (.inl ⟨rfl, rfl⟩))⟩⟩
  · obtain ⟨n, m, e1, e2, e3, e4⟩ := nn ha
    exact ⟨.eq_ n m, by rw [← e3, ← e4]; rfl, .inl ⟨n, m, e1, e2, .inr (.inr (.inr (.inl ⟨rfl, rfl⟩)))⟩⟩
  · obtain ⟨n, m, e1, e2, e3, e4⟩ := nn ha
    exact ⟨.test n m, by rw [← e3, ← e4]; rfl, .inl ⟨n, m, e1, e2, .inr (.inr (.inr (.inr ⟨rfl, rfl⟩)))⟩⟩
theorem in_no {p : Int} (h0 : p ≠ 0) (h1 : p ≠ 1) (h11 : p ≠ 11) (h12 : p ≠ 12) : inV (.int p) [.int 0, .int 1, .int 11, .int 12] = false := by
  have ne : ∀ {k : Int}, p ≠ k → (k == p) = false := fun h => beq_eq_false_iff_ne.mpr (Ne.symm h)
  show (((0 : Int) == p) || (((1 : Int) == p) || (((11 : Int) == p) || (((12 : Int) == p) || false)))) = false
  rw [ne h0, ne h1, ne h11, ne h12]
  rfl
theorem iteTr {b : Bool} {A B : Prop} (h : b = true) (a : A) : if b = true then A else B := by subst h; exact iteT a
theorem iteFa {b : Bool} {A B : Prop} (h : b = false) (a : B) : if b = true then A else B := by subst h; exact iteF a
theorem none_in {p0 : Int} {x : Uni.Call} (h : NoneX p0 x) : inV (.int p0) [.int 0, .int 1, .int 11, .int 12] = true := by
  rcases h with ⟨rfl, _⟩ | ⟨rfl, _⟩ | ⟨rfl, _⟩ | ⟨rfl, _⟩ <;> rfl
theorem form_x {p0 : Int} {r : List Int} {c : List (List Int)} {t : List Int} (hf : Uf.Form1 p0 r c t) (ha : UniNeutral.asked1 c = true) :
    (∃ x, UniNeutral.callOf c = some x ∧ r = t ∧ NoneX p0 x) ∨ (p0 = 2 ∧ ∃ e : List Int, r = (e.length : Int) :: (e ++ t) ∧ UniNeutral.callOf c = some (.base e)) ∨ (p0 = 10 ∧ ∃ n : Nat, r = (n : Int) :: t ∧ UniNeutral.callOf c = some (.unit n)) ∨
    (3 ≤ p0 ∧ p0 ≤ 9 ∧ ∃ y z x, r = y :: z :: t ∧ UniNeutral.callOf c = some x ∧ TwoX p0 y z x) := by
  cases hf with
  | init _ => exact .inl ⟨.init, rfl, rfl, .inl ⟨rfl, rfl⟩⟩
  | name _ => exact .inl ⟨.name, rfl, rfl, .inr (.inl ⟨rfl, rfl⟩)⟩
  | keep _ => exact .inl ⟨.keep, rfl, rfl, .inr (.inr (.inl ⟨rfl, rfl⟩))⟩
  | back _ => exact .inl ⟨.back, rfl, rfl, .inr (.inr (.inr ⟨rfl, rfl⟩))⟩
  | base e _ => exact .inr (.inl ⟨rfl, e, rfl, rfl⟩)
  | unit z _ =>
    obtain ⟨n, e1, e2⟩ := nat_of (show UniNeutral.natural z 64 = true from ha)
    refine .inr (.inr (.inl ⟨rfl, n, by rw [e1], ?_⟩))
    show some (Uni.Call.unit z.toNat) = _
    rw [e2]
  | two _ y z _ h1 h2 =>
    obtain ⟨x, hx, hxx⟩ := two_x h1 h2 ha
    exact .inr (.inr (.inr ⟨h1, h2, y, z, x, rfl, hx, hxx⟩))
/-- next_answer(sheet, reader) -/
structure Asks (K : PySem.W.Frag) (CS CW CR : Addr) (H0 H : Hp) (sh rd a : Addr) (d : SD) (s : Uni.State) (calls : List Int) (p : Nat) : Prop where
  S : SheetAt CS CW H sh d
  R : d.Rel s
  r : ReadAt K CR H0 H rd a calls p
  free : ∀ b ∈ d.M sh, H0 b = none
def spNextA (K : PySem.W.Frag) (CS CW CR : Addr) : Sp := fun vs H Q _ => ∃ (H0 : Hp) (sh rd a : Addr) (d : SD) (s : Uni.State) (calls : List Int) (p : Nat) (p0 : Int) (r : List Int) (c : List (List Int)) (t : List Int), vs = [.ref sh, .ref rd] ∧ Asks K CS CW CR H0 H sh rd a d s calls p ∧ rd ∉ d.M sh ∧
  calls.drop p = p0 :: r ∧ Uf.Form1 p0 r c t ∧ UniNeutral.asked1 c = true ∧
  ∀ H' d' s' nums D p', Asks K CS CW CR H0 H' sh rd a d' s' calls p' → calls.drop p' = t → Fr (rd :: d.M sh) H H' → Grow (d.M sh) (d'.M sh) H → UniNeutral.step s c = (s', nums) → RowAt H' D nums → nums.length ≤ 10 → Q (.ref D) H'
abbrev nNextA : List Str := ["sheet", "reader", "call", "a", "b"]
theorem scNextA : FnScope nNextA ["sheet", "reader"] (defScope sNextA) := sc_of (by decide +kernel)
theorem step_of {s s' : Uni.State} {c : List (List Int)} {x : Uni.Call} {ans : Uni.Answer} (hc : UniNeutral.callOf c = some x) (h : Uni.step s x = (s', ans)) : UniNeutral.step s c = (s', UniNeutral.numbersOf ans) := by
  unfold UniNeutral.step
  rw [hc]
  show ((Uni.step s x).1, UniNeutral.numbersOf (Uni.step s x).2) = _
  rw [h]
theorem Grow.free {M M' : List Addr} {H0 H : Hp} (g : Grow M M' H) (s : Same H0 H) (h : ∀ b ∈ M, H0 b = none) : ∀ b ∈ M', H0 b = none := fun b hb => by
  rcases g b hb with q | q
  · exact h b q
  · exact s.free q
theorem Grow.out {M M' : List Addr} {H : Hp} (g : Grow M M' H) {b : Addr} {o : HO} (e : H b = some o) (h : b ∉ M) : b ∉ M' := fun q => by
  rcases g b q with q | q
  · exact h q
  · rw [q] at e; cases e
theorem Fr.none_ {M : List Addr} {H H' : Hp} (f : Fr M H H') {b : Addr} (h : H' b = none) (hb : b ∉ M) : H b = none := by
  cases e : H b with
  | none => rfl
  | some o => rw [f b o e hb] at h; cases h
theorem ReadAt.same {H0 H H' : Hp} {rd a : Addr} {calls : List Int} {p : Nat} (R : ReadAt K CR H0 H rd a calls p) (s : Same H H') : ReadAt K CR H0 H' rd a calls p := by
  obtain ⟨dx, e⟩ := R.ins
  exact ⟨R.hs.trans s, R.nr, R.sq, ⟨dx, s _ _ e⟩⟩
theorem Grow.back {M M' : List Addr} {H0 H H1 : Hp} {rd a : Addr} {calls : List Int} {p : Nat} (g : Grow M M' H1) (f : Fr (rd :: M) H H1) (R : ReadAt K CR H0 H1 rd a calls p) : Grow M M' H := fun b hb => by
  rcases g b hb with q | q
  · exact .inl q
  · by_cases hb2 : b ∈ M
    · exact .inl hb2
    · refine .inr (f.none_ q ?_)
      simp only [List.mem_cons, not_or]
      refine ⟨fun e2 => ?_, hb2⟩
      obtain ⟨dx1, hi1⟩ := R.ins
      rw [e2, hi1] at q; cases q
theorem ok_nexta {f : Addr} {fd : FuncData} (F : Fun K "next_answer" "next_answer" sNextA f fd) (T : Txt mg) (TR : TxtR K CR) (d1 : DNumber P w K mg base CR) (d2 : MethD P w K mg base 2 CR "row" ["self"] (spRow K CR)) (d3 : DWhole P w K mg base)
    (d4 : Def P w K mg base 6 "answer_of_none" ["sheet", "call"] (spNone CS CW)) (d5 : Def P w K mg base 3 "answer_base" ["sheet", "exponents"] (spABase CS CW)) (d6 : Def P w K mg base 5 "answer_unit" ["sheet", "a"] (spAUnit CS CW)) (d7 : Def P w K mg base 7 "answer_of_two" ["sheet", "call", "a", "b"] (spTwo CS CW)) :
    FnOk P w K mg base CX0 8 f fd ["sheet", "reader"] (spNextA K CS CW CR) := by
  obtain ⟨fb, fdb, Fb, mb, bb⟩ := d1
  obtain ⟨fc, fdc, Fc, mc, bc⟩ := d2
  refine F.ok scNextA (fun vs H Q E h => ?_) (fun cdv A outer s_ H vs Q E hr h => ?_)
  · obtain ⟨H0, sh, rd, a, d, s, calls, p, p0, r, c, t, rfl, _⟩ := h
    rfl
  · obtain ⟨H0, sh, rd, a, d, s, calls, p, p0, r, c, t, rfl, ⟨S, R, rd0, free⟩, hrd, hdrop, hform, hask, k⟩ := h
    have hr1 : Room 1 _ := hr.mono (by decide)
    have hr2 : Room 2 _ := hr.mono (by decide)
    have hr3 : Room 3 _ := hr.mono (by decide)
    have hr5 : Room 5 _ := hr.mono (by decide)
    have hr6 : Room 6 _ := hr.mono (by decide)
    refine ⟨_, pss_cons (ps_set (i := 2) scNextA.nd rfl (Or.inl rfl) (pe_meth0 (pv 1) TR.cl mb Fb hr1 bb .nil pass0))
      (pss_cons (ps_if (pt_cmpR op_in_seq (pv 2) (pe_tup (pa_cons (pe_num rfl T.p0) (pa_cons (pe_num rfl T.p1) (pa_cons (pe_num rfl T.p11) (pa_cons (pe_num rfl T.p12) pa_nil))))) (by with_unfolding_all rfl))
        (pss_one (ps_ret (pe_def d3 hr1 rfl (pa_cons (pe_def d4 hr6 rfl (pa_cons (pv 0) (pa_cons (pv 2) pa_nil))) (pa_cons (pe_lst pa_nil) pa_nil))))) pss_nil)
      (pss_cons (ps_if (pt_cmpR op_eq (pv 2) (pe_num rfl T.p2) (nomark _))
        (pss_one (ps_ret (pe_def d3 hr1 rfl (pa_cons (pe_def d5 hr3 rfl (pa_cons (pv 0) (pa_cons (pe_meth0 (pv 1) TR.cl mc Fc hr2 bc .nil pass0) pa_nil))) (pa_cons (pe_lst pa_nil) pa_nil))))) pss_nil)
      (pss_cons (ps_if (pt_cmpR op_eq (pv 2) (pe_num rfl T.p10) (nomark _))
        (pss_one (ps_ret (pe_def d6 hr5 rfl (pa_cons (pv 0) (pa_cons (pe_meth0 (pv 1) TR.cl mb Fb hr1 bb .nil pass0) pa_nil))))) pss_nil)
      (pss_cons (ps_set (i := 3) scNextA.nd rfl (Or.inl rfl) (pe_meth0 (pv 1) TR.cl mb Fb hr1 bb .nil pass0))
      (pss_cons (ps_set (i := 4) scNextA.nd rfl (Or.inl rfl) (pe_meth0 (pv 1) TR.cl mb Fb hr1 bb .nil pass0))
      (pss_one (ps_ret (pe_def d3 hr1 rfl (pa_cons (pe_def d7 hr rfl (pa_cons (pv 0) (pa_cons (pv 2) (pa_cons (pv 3) (pa_cons (pv 4) pa_nil))))) (pa_cons (pe_lst pa_nil) pa_nil)))))))))), ?_⟩
    obtain ⟨g0, g1, g2⟩ := drop_cons hdrop
    obtain ⟨dx, hi⟩ := rd0.ins
    -- behind a number that is answered: the whole answer
    have fin : ∀ {H1 : Hp} {p1 : Nat} {x : Uni.Call}, Fr (rd :: d.M sh) H H1 → ReadAt K CR H0 H1 rd a calls p1 → calls.drop p1 = t → UniNeutral.callOf c = some x →
        Done CS CW sh H1 d s x fun v H2 => 0 ≤ sizeLine ∧ ∀ l, H2 l = none → spWhole [v, .ref l] (upd H2 l (.lst [])) Q E0 := by
      intro H1 p1 x f1 R1 hp1 hx H2 d' s' z S2 f2 gr e R2
      refine ⟨Nat.zero_le _, fun l hl => ?_⟩
      have s3 : Same H2 (upd H2 l (.lst [])) := Same.new hl
      refine ⟨z, l, [], rfl, upd_same, by decide, fun D H4 hD s4 hrow => ?_⟩
      have s34 := s3.trans s4
      exact k H4 d' s' _ D p1 ⟨S2.same s34, R2, (R1.fr f2 free hrd).same s34, (Grow.back gr f1 R1).free rd0.hs free⟩ hp1 (f1.trans1 ((f2.mono fun b hb => List.mem_cons_of_mem _ hb).trans1 s34.fr)) (Grow.back gr f1 R1) (step_of hx e) hrow (show 3 ≤ 10 by decide)
    refine ⟨_, rfl, rd, dx, _, rfl, hi, rfl, H0, rd, a, calls, p, p0, rfl, rd0, g0, fun H1 R1 f1 => ?_⟩
    have S1 : SheetAt CS CW H1 sh d := S.ns (rd0.ns f1)
    have fr1 : Fr (rd :: d.M sh) H H1 := f1.mono (by simp)
    refine ⟨_, rfl, (by show 4 ≤ sizeLine; decide), fun tu htu => ⟨tu, _, rfl, .inr (SqT.of upd_same), rfl, rfl, _, rfl, ?_⟩⟩
    have st : Same H1 (upd H1 tu (.tup [.int 0, .int 1, .int 11, .int 12])) := Same.new htu
    have S2 := S1.same st
    have R2 := R1.same st
    have fr2 : Fr (rd :: d.M sh) H (upd H1 tu (.tup [.int 0, .int 1, .int 11, .int 12])) := fr1.trans1 st.fr
    obtain ⟨x, hcx, hx⟩ | ⟨rfl, e, rfl, hcx⟩ | ⟨rfl, n, rfl, hcx⟩ | ⟨h1, h2, y, z, x, rfl, hcx, hxx⟩ := form_x hform hask
    · obtain ⟨rfl, hx⟩ := hx
      refine iteTr (none_in hx) ?_
      exact ⟨_, rfl, _, rfl, sh, d, s, p0, x, rfl, S2, R, hx, fin fr2 R2 g1 hcx⟩
    · obtain ⟨g3, g4, g5⟩ := drop_cons g1
      have glen : calls.length - (p + 1 + 1) = e.length + t.length := by
        have := congrArg List.length g4
        rw [List.length_drop, List.length_append] at this
        exact this
      refine iteF ?_
      refine ⟨_, rfl, rfl, _, rfl, if_yes ?_⟩
      obtain ⟨dx2, hi2⟩ := R2.ins
      refine ⟨_, rfl, _, rfl, rd, dx2, _, rfl, hi2, rfl, H0, rd, a, calls, p + 1, e.length, rfl, R2, g3, by omega, fun H3 D R3 f3 hD hrow => ?_⟩
      rw [g4, List.take_left'] at hrow
      · refine ⟨sh, d, s, D, e, rfl, S2.ns (R2.ns f3), R, hrow, fin (fr2.trans1 (f3.mono (by simp))) R3 ?_ hcx⟩
        rw [← List.drop_drop, g4, List.drop_left']
        rfl
      · rfl
    · obtain ⟨g3, g4, g5⟩ := drop_cons g1
      refine iteF ?_
      refine ⟨_, rfl, rfl, _, rfl, if_no (by decide) ?_⟩
      refine ⟨_, rfl, rfl, _, rfl, if_yes ?_⟩
      obtain ⟨dx2, hi2⟩ := R2.ins
      refine ⟨_, rfl, _, rfl, rd, dx2, _, rfl, hi2, rfl, H0, rd, a, calls, p + 1, n, rfl, R2, g3, fun H3 R3 f3 => ?_⟩
      have fr3 : Fr (rd :: d.M sh) H H3 := fr2.trans1 (f3.mono (by simp))
      refine ⟨sh, d, s, n, rfl, S2.ns (R2.ns f3), R, fun H4 d' s' ans D S4 f4 gr e R4 hD hrow hlen => ?_⟩
      exact k H4 d' s' _ D (p + 1 + 1) ⟨S4, R4, R3.fr f4 free hrd, (Grow.back gr fr3 R3).free rd0.hs free⟩ g4 (fr3.trans1 (f4.mono fun b hb => List.mem_cons_of_mem _ hb)) (Grow.back gr fr3 R3) (step_of hcx e) hrow hlen
    · obtain ⟨g3, g4, g5⟩ := drop_cons g1
      obtain ⟨g6, g7, g8⟩ := drop_cons g4
      refine iteFa (in_no (by omega) (by omega) (by omega) (by omega)) ?_
      refine ⟨_, rfl, rfl, _, rfl, if_no (by omega) ?_⟩
      refine ⟨_, rfl, rfl, _, rfl, if_no (by omega) ?_⟩
      obtain ⟨dx2, hi2⟩ := R2.ins
      refine ⟨_, rfl, rd, dx2, _, rfl, hi2, rfl, H0, rd, a, calls, p + 1, y, rfl, R2, g3, fun H3 R3 f3 => ?_⟩
      obtain ⟨dx3, hi3⟩ := R3.ins
      refine ⟨_, rfl, rd, dx3, _, rfl, hi3, rfl, H0, rd, a, calls, p + 1 + 1, z, rfl, R3, g6, fun H4 R4 f4 => ?_⟩
      have S3 : SheetAt CS CW H3 sh d := S2.ns (R2.ns f3)
      have S4 : SheetAt CS CW H4 sh d := S3.ns (R3.ns f4)
      exact ⟨_, rfl, _, rfl, _, rfl, _, rfl, sh, d, s, p0, y, z, x, rfl, S4, R, hxx, fin (fr2.trans1 ((f3.mono (by simp)).trans1 (f4.mono (by simp)))) R4 g7 hcx⟩
/-- answers(calls) -/
def spAns (K : PySem.W.Frag) : Sp := fun vs H Q _ => ∃ (a : Addr) (calls : List Int), vs = [.ref a] ∧ SqL K H a (iV calls) ∧ PyWqaeah.answers_asked calls = true ∧ ∀ (H' : Hp) (p : Addr), H' p = some (.lst (iV (PyWqaeah.answers calls))) → Q (.ref p) H'
abbrev nAns : List Str := ["calls", "sheet", "reader", "told", "answer"]
theorem scAns : FnScope nAns ["calls"] (defScope sAns) := sc_of (by decide +kernel)
/-- between two calls -/
structure Turn (K : PySem.W.Frag) (CS CW CR : Addr) (H0 H : Hp) (sh rd a tl : Addr) (calls : List Int) (m : Nat) (d : SD) (s : Uni.State) (p : Nat) (cs : List (List (List Int))) (acc : List Int) : Prop where
  S : SheetAt CS CW (cut H [tl]) sh d
  R : d.Rel s
  r : ReadAt K CR H0 H rd a calls p
  free : ∀ b ∈ d.M sh, H0 b = none
  hrd : rd ∉ d.M sh
  nt : H0 tl = none
  rt : rd ≠ tl
  tl_ : H tl = some (.lst (iV acc))
  left : ∃ f, PyFlat.calls PyWqaeah.shape f (calls.drop p) = some cs
  ask : ∀ c ∈ cs, UniNeutral.asked1 c = true
  few : cs.length ≤ 400
  size : acc.length ≤ 11 * (400 - cs.length)
  eq : acc ++ Uf.due s cs = PyWqaeah.answers calls
  hm : m = cs.length
theorem due_eq {s s' : Uni.State} {c : List (List Int)} {cs : List (List (List Int))} {nums : List Int} (h : UniNeutral.step s c = (s', nums)) : Uf.due s (c :: cs) = ((nums.length : Int) :: nums) ++ Uf.due s' cs := by
  rw [Uf.due_cons, h]
theorem ok_ans {f : Addr} {fd : FuncData} (F : Fun K "answers" "answers" sAns f fd) (T : Txt mg) (TR : TxtR K CR) (d1 : Maker P w K mg base 5 "Sheet" CS ["self"] (spSInit CS CW)) (d2 : Maker P w K mg base 1 "Reader" CR ["self", "numbers"] (spRInit CR)) (d3 : MethD P w K mg base 1 CR "has_more" ["self"] (spMore K CR))
    (d4 : Def P w K mg base 8 "next_answer" ["sheet", "reader"] (spNextA K CS CW CR)) : FnOk P w K mg base CX0 9 f fd ["calls"] (spAns K) := by
  obtain ⟨fs, fds, Fs, Ms, ms, bs⟩ := d1
  obtain ⟨fm, fdm, Fm, mm, bm⟩ := d3
  refine F.ok scAns (fun vs H Q E h => ?_) (fun cdv A outer s_ H vs Q E hr h => ?_)
  · obtain ⟨a, calls, rfl, _⟩ := h
    rfl
  · obtain ⟨a, calls, rfl, hsq, hask, k⟩ := h
    have hr1 : Room 1 _ := hr.mono (by decide)
    have hr2 : Room 2 _ := hr.mono (by decide)
    have hr6 : Room 6 _ := hr.mono (by decide)
    refine ⟨_, pss_cons (ps_set (i := 1) scAns.nd rfl (Or.inl rfl) (pe_make0 Ms Fs hr6 rfl ms bs .nil pass0))
      (pss_cons (ps_set (i := 2) scAns.nd rfl (Or.inl rfl) (pe_new d2 hr2 rfl (pa_cons (pv 0) pa_nil)))
      (pss_cons (ps_set (i := 3) scAns.nd rfl (Or.inl rfl) (pe_lst pa_nil))
      (pss_cons (ps_while PassesOwn.never (pt_val (pe_meth0 (pv 2) TR.cl mm Fm hr1 bm .nil pass0))
        (pss_cons (ps_set (i := 4) scAns.nd rfl (Or.inl rfl) (pe_lock (pe_def d4 hr rfl (pa_cons (pv 1) (pa_cons (pv 2) pa_nil)))))
        (pss_cons (ps_expr (pe_bm PySem.F.plainAttrs_list PySem.F.slot_list_append PySem.F.type_list_append mt_append (pv 3) (pa_cons (pe_callB call_len_seq rfl T.nLen boot_len (pa_cons (pv 4) pa_nil)) pa_nil)))
        (pss_one (ps_expr (pe_bm PySem.F.plainAttrs_list PySem.F.slot_list_extend PySem.F.type_list_extend mt_extend (pv 3) (pa_cons (pv 4) pa_nil)))))))
      (pss_one (ps_ret (pv 3)))))), ?_⟩
    -- sheet = Sheet()
    intro sh dx hx hdx hne
    refine ⟨sh, dx, rfl, upd_same, fun H1 d B => ⟨rfl, ?_⟩⟩
    have s1 : Same H H1 := Same.made hx hdx fun b o e hb => B.fr b o e (by simpa using hb)
    have s01 : Same H (upd (upd H dx (.own sh)) sh (.ins CS dx [])) := fun b o e => by rw [upd_ne (ne_of_none e hx), upd_ne (ne_of_none e hdx)]; exact e
    -- reader = Reader(calls)
    refine ⟨_, rfl, fun rd dy hy hdy hney => ?_⟩
    refine ⟨rd, dy, a, rfl, upd_same, fun H2 h2 k2 => ⟨rfl, ?_⟩⟩
    have s2 : Same H1 H2 := Same.made hy hdy k2
    -- told = []
    refine ⟨Nat.zero_le _, fun tl htl => ?_⟩
    have s3 : Same H2 (upd H2 tl (.lst [])) := Same.new htl
    have s02 := s1.trans s2
    have nrt : rd ≠ tl := ne_of_none h2 htl
    obtain ⟨cs, c1, c2, c3, c4⟩ := Uf.asked_calls hask
    have M0 : ∀ b ∈ d.M sh, H b = none := by
      intro b hb
      simp only [SD.M, B.ks, List.map_nil, List.mem_cons, List.not_mem_nil, or_false] at hb
      rcases hb with rfl | rfl | rfl
      · exact hx
      · exact s01.free B.nk
      · exact s01.free B.nf
    refine ⟨fun m σ H' => ∃ (d : SD) (s : Uni.State) (p : Nat) (cs : List (List (List Int))) (acc : List Int) (v4 : Option V), σ = [some (.ref a), some (.ref sh), some (.ref rd), some (.ref tl), v4] ∧ Turn K CS CW CR H H' sh rd a tl calls m d s p cs acc,
      ⟨_, d, Uni.start, 0, cs, [], none, rfl, ?_, ?_, ⟨s02.trans s3, s1.free hy, hsq, ⟨dy, s3 _ _ h2⟩⟩, M0, B.at_.fresh hy, s02.free htl, nrt, upd_same, ⟨_, c1⟩, c3, c2, Nat.zero_le _, c4.symm, rfl⟩, ?_⟩
    · refine B.at_.same fun b o e => ?_
      have e2 := s2 b o e
      exact cut_of (s3 b o e2) (by simpa using ne_of_none e2 htl)
    · have := Uf.start_rel
      refine ⟨?_, ?_, ?_⟩
      · rw [B.names, B.forms, B.starts, B.steps]; exact this
      · rw [B.ks]; exact trivial
      · rw [B.ks]; decide
    rintro m σ H3 ⟨d, s, p, cs, acc, v4, rfl, I⟩
    obtain ⟨dr, hrd3⟩ := I.r.ins
    refine ⟨_, rfl, rd, dr, _, rfl, hrd3, rfl, H, rd, a, calls, p, rfl, I.r, _, rfl, ?_⟩
    obtain ⟨fu, hleft⟩ := I.left
    refine ite2 (fun h => ?_) (fun h => ?_)
    · have hp : p < calls.length := by
        have : (p : Int) < (calls.length : Int) := of_decide_eq_true h
        omega
      have hdrop := List.drop_eq_getElem_cons hp
      rw [hdrop] at hleft
      obtain ⟨f', c, t, cs', q1, q2, rfl⟩ := Uf.calls_step hleft
      have hform := Uf.call_form q1
      refine ⟨fun σ' H' => ∃ m', m' < m ∧ ∃ (d : SD) (s : Uni.State) (p : Nat) (cs : List (List (List Int))) (acc : List Int) (v4 : Option V), σ' = [some (.ref a), some (.ref sh), some (.ref rd), some (.ref tl), v4] ∧ Turn K CS CW CR H H' sh rd a tl calls m' d s p cs acc, fun σ' H' h => h, ?_⟩
      refine ⟨tl, _, I.tl_, trivial, fun od => ?_⟩
      -- told is locked
      have sl : Same (cut H3 [tl]) (upd H3 tl (.frz od (.lst (iV acc)))) := fun b o e => by
        obtain ⟨hb, e⟩ := of_cut e
        rw [upd_ne (by simpa using hb)]; exact e
      have S4 := I.S.same sl
      have R4 : ReadAt K CR H (upd H3 tl (.frz od (.lst (iV acc)))) rd a calls p := ⟨Same.updR I.nt I.r.hs, I.r.nr, I.r.sq, ⟨dr, by rw [upd_ne I.rt]; exact hrd3⟩⟩
      have tM : tl ∉ rd :: d.M sh := by
        simp only [List.mem_cons, not_or]
        refine ⟨Ne.symm I.rt, fun q => ?_⟩
        rcases S4.mok tl q with ⟨C, dx, fs, e⟩ | ⟨l, e⟩
        · rw [upd_same] at e; cases e
        · rw [upd_same] at e; cases e
      refine ⟨_, rfl, _, rfl, H, sh, rd, a, d, s, calls, p, _, _, c, t, rfl, ⟨S4, I.R, R4, I.free⟩, I.hrd, hdrop, hform, I.ask c (by simp), fun H5 d' s' nums D p' A' hp' f5 g5 hst hrow hlen => ?_⟩
      have t5 : H5 tl = some (.frz od (.lst (iV acc))) := f5 _ _ upd_same tM
      refine ⟨t5, ?_⟩
      have nD : D ≠ tl := ne_of hrow t5 (by intro e; cases e)
      have r6 : (upd H5 tl (.lst (iV acc))) D = some (.lst (iV nums)) := by rw [upd_ne nD]; exact hrow
      -- told.append(len(answer))
      have hsz := I.size
      have hfw := I.few
      simp only [List.length_cons] at hsz hfw
      refine ⟨_, rfl, .inl ⟨rfl, _, SqL.of upd_same⟩, _, rfl, D, _, rfl, .inl (SqL.of r6), tl, _, _, rfl, rfl, upd_same, ?_, ?_⟩
      · rw [List.length_map]
        exact Nat.lt_of_le_of_lt (show acc.length ≤ 4400 by omega) (by decide)
      · -- told.extend(answer)
        have r7 : (upd (upd H5 tl (.lst (iV acc))) tl (.lst (iV acc ++ [.int ((iV nums).length : Int)]))) D = some (.lst (iV nums)) := by rw [upd_ne nD]; exact r6
        refine ⟨_, rfl, .inl ⟨rfl, _, SqL.of upd_same⟩, _, rfl, tl, D, _, _, rfl, rfl, upd_same, r7, ?_, ?_⟩
        · rw [List.length_append, List.length_map, List.length_map]
          exact Nat.le_trans (show acc.length + 1 + nums.length ≤ 4500 by omega) (by decide)
        · have eacc : iV acc ++ [V.int ((iV nums).length : Int)] ++ iV nums = iV (acc ++ ((nums.length : Int) :: nums)) := by simp [iV]
          obtain ⟨dr5, hrd5⟩ := A'.r.ins
          refine ⟨cs'.length, ?_, d', s', p', cs', acc ++ ((nums.length : Int) :: nums), _, rfl, ?_⟩
          · rw [I.hm]; simp
          · refine ⟨?_, A'.R, ⟨Same.updR I.nt (Same.updR I.nt (Same.updR I.nt A'.r.hs)), A'.r.nr, A'.r.sq, ⟨dr5, by rw [upd_ne I.rt, upd_ne I.rt, upd_ne I.rt]; exact hrd5⟩⟩, A'.free, ?_, I.nt, I.rt, by rw [upd_same, eacc], ⟨f', by rw [hp']; exact q2⟩, fun c hc => I.ask c (by simp [hc]), by omega, ?_, ?_, rfl⟩
            · rw [cut_upd (by simp), cut_upd (by simp), cut_upd (by simp)]
              refine A'.S.ns fun b o n e => cut_of e ?_
              intro hb
              simp only [List.mem_cons, List.not_mem_nil, or_false] at hb
              rw [hb, t5] at e
              cases e
              exact n.1 _ _ rfl
            · obtain ⟨dr4, hrd4⟩ := R4.ins
              exact g5.out hrd4 I.hrd
            · rw [List.length_append, List.length_cons]
              omega
            · rw [List.append_assoc, ← due_eq hst]
              exact I.eq
    · have hp : ¬ p < calls.length := fun q => h (decide_eq_true (by omega))
      have hdrop : calls.drop p = [] := List.drop_eq_nil_of_le (by omega)
      rw [hdrop] at hleft
      have e := Uf.calls_nil hleft
      have eq := I.eq
      rw [e, Uf.due_nil, List.append_nil] at eq
      refine ⟨_, rfl, ?_⟩
      refine k H3 tl ?_
      rw [I.tl_, eq]
end
end Ug

set_option Elab.async false
set_option linter.all false
set_option maxRecDepth 100000
set_option maxHeartbeats 2000000
namespace Ug
open PySem PySem.Spec PyProof.Rows L2
/-! what the top has written -/
structure ClIn (K : PySem.W.Frag) (x : Str) (C : Addr) : Prop where
  a : PySem.W.nsIn K mainGlobals x = some (some (.ref C))
  pg : PySem.W.plainGet K C Str.empty = true
  hd : PySem.W.hasDictIn K C = true
  po : PySem.W.plainOver K C = true
  sa : PySem.W.findIn K (.ref C) "__setattr__" = some (some (.builtin "object.__setattr__"))
  md : PySem.W.makesIn K C = true
  kc : PySem.W.keepIn K (.ref C) = true
theorem ClIn.cl {K : PySem.W.Frag} {x : Str} {C : Addr} (h : ClIn K x C) : Cls K C := ⟨h.pg, h.hd, h.po, h.sa⟩
def IntIn (K : PySem.W.Frag) (x : Str) (i : Int) : Prop := ∃ t, PySem.W.nsIn K mainGlobals x = some (some (.int i t))
theorem int_in {K : PySem.W.Frag} {x : Str} {i : Int} {t : Tok} (a : PySem.W.nsIn K mainGlobals x = some (some (.int i t))) : IntIn K x i := ⟨t, a⟩
def FnIn (K : PySem.W.Frag) (x qual : Str) (st : Stmt) : Prop := ∃ (f : Addr) (fd : FuncData), PySem.W.nsIn K mainGlobals x = some (some (.ref f)) ∧ Fun K x qual st f fd
def MeIn (K : PySem.W.Frag) (C : Addr) (x qual : Str) (st : Stmt) : Prop := ∃ (f : Addr) (fd : FuncData), PySem.W.findIn K (.ref C) x = some (some (.ref f)) ∧ PySem.W.isFn K (.ref f) = true ∧ Fun K x qual st f fd
theorem fn_in {K : PySem.W.Frag} {x qual : Str} {st : Stmt} {f : Addr} {oc : Value} {od an : Option Addr} {osl : Array (Option Value)} {kV doc pm cdv ct : Value} (a : PySem.W.nsIn K mainGlobals x = some (some (.ref f)))
    (l : K.lookup f = some ⟨oc, od, .func (PySem.W.fnOf x qual (defArgs st) (defBody st) (defScope st) .none kV doc pm an cdv ct), osl⟩) (c : PySem.W.codeIn K cdv qual = true) (k : PySem.W.keepIn K (.ref f) = true) : FnIn K x qual st := ⟨f, _, a, fun_mk l c k⟩
theorem me_in {K : PySem.W.Frag} {C : Addr} {x qual : Str} {st : Stmt} {f : Addr} {oc : Value} {od an : Option Addr} {osl : Array (Option Value)} {kV doc pm cdv ct : Value} (a : PySem.W.findIn K (.ref C) x = some (some (.ref f))) (i : PySem.W.isFn K (.ref f) = true)
    (l : K.lookup f = some ⟨oc, od, .func (PySem.W.fnOf x qual (defArgs st) (defBody st) (defScope st) .none kV doc pm an cdv ct), osl⟩) (c : PySem.W.codeIn K cdv qual = true) (k : PySem.W.keepIn K (.ref f) = true) : MeIn K C x qual st := ⟨f, _, a, i, fun_mk l c k⟩
/-! how arguments bind -/
def HB (x qual : Str) (st : Stmt) (ps : List Str) : Prop := ∀ (kV doc pm : Value) (an : Option Addr) (cdv ct : Value) (us : List Value), us.length = ps.length → bindArgs (PySem.W.fnOf x qual (defArgs st) (defBody st) (defScope st) .none kV doc pm an cdv ct) ⟨us, []⟩ = pure (ps.zip us)
section
variable {x qual : Str} {st : Stmt}
theorem hb0 (h : ∀ (kV doc pm : Value) (an : Option Addr) (cdv ct : Value), bindArgs (PySem.W.fnOf x qual (defArgs st) (defBody st) (defScope st) .none kV doc pm an cdv ct) ⟨[], []⟩ = pure []) : HB x qual st [] := fun _ _ _ _ _ _ us hl => match us, hl with | [], _ => h _ _ _ _ _ _
theorem hb1 {a : Str} (h : ∀ (kV doc pm : Value) (an : Option Addr) (cdv ct u : Value), bindArgs (PySem.W.fnOf x qual (defArgs st) (defBody st) (defScope st) .none kV doc pm an cdv ct) ⟨[u], []⟩ = pure [(a, u)]) : HB x qual st [a] := fun _ _ _ _ _ _ us hl => match us, hl with | [_], _ => h _ _ _ _ _ _ _
theorem hb2 {a b : Str} (h : ∀ (kV doc pm : Value) (an : Option Addr) (cdv ct u v : Value), bindArgs (PySem.W.fnOf x qual (defArgs st) (defBody st) (defScope st) .none kV doc pm an cdv ct) ⟨[u, v], []⟩ = pure [(a, u), (b, v)]) : HB x qual st [a, b] := fun _ _ _ _ _ _ us hl => match us, hl with | [_, _], _ => h _ _ _ _ _ _ _ _
theorem hb3 {a b c : Str} (h : ∀ (kV doc pm : Value) (an : Option Addr) (cdv ct u v y : Value), bindArgs (PySem.W.fnOf x qual (defArgs st) (defBody st) (defScope st) .none kV doc pm an cdv ct) ⟨[u, v, y], []⟩ = pure [(a, u), (b, v), (c, y)]) : HB x qual st [a, b, c] := fun _ _ _ _ _ _ us hl => match us, hl with | [_, _, _], _ => h _ _ _ _ _ _ _ _ _
theorem hb4 {a b c d : Str} (h : ∀ (kV doc pm : Value) (an : Option Addr) (cdv ct u v y z : Value), bindArgs (PySem.W.fnOf x qual (defArgs st) (defBody st) (defScope st) .none kV doc pm an cdv ct) ⟨[u, v, y, z], []⟩ = pure [(a, u), (b, v), (c, y), (d, z)]) : HB x qual st [a, b, c, d] := fun _ _ _ _ _ _ us hl => match us, hl with | [_, _, _, _], _ => h _ _ _ _ _ _ _ _ _ _
end
section
variable {P : Program} {w : World} {K : PySem.W.Frag} {mg : Str → Option Value} {base h : Heap}
theorem IntIn.num {x : Str} {i : Int} (e : IntIn K x i) (X : K.In h) (G : h.Ns mainGlobals mg) : ∃ t, mg x = some (.int i t) := let ⟨t, e⟩ := e; ⟨t, PySem.W.mg_of X G e⟩
theorem FnIn.def_ {x qual : Str} {st : Stmt} {k : Nat} {ps : List Str} {sp : Sp} (e : FnIn K x qual st) (X : K.In h) (G : h.Ns mainGlobals mg) (ok : ∀ {f : Addr} {fd : FuncData}, Fun K x qual st f fd → FnOk P w K mg base CX0 k f fd ps sp)
    (hb : HB x qual st ps) : Def P w K mg base k x ps sp := by
  obtain ⟨f, fd, a, F⟩ := e
  exact ⟨f, fd, ok F, PySem.W.mg_of X G a, F.kp, F.binds hb⟩
theorem MeIn.def_ {C : Addr} {x qual : Str} {st : Stmt} {k : Nat} {ps : List Str} {sp : Sp} (e : MeIn K C x qual st) (ok : ∀ {f : Addr} {fd : FuncData}, Fun K x qual st f fd → FnOk P w K mg base CX0 k f fd ps sp)
    (hb : HB x qual st ps) : MethD P w K mg base k C x ps sp := by
  obtain ⟨f, fd, a, i, F⟩ := e
  exact ⟨f, fd, ok F, ⟨a, i, F.kp⟩, F.binds hb⟩
theorem MeIn.make {C : Addr} {cx qual : Str} {st : Stmt} {k : Nat} {ps : List Str} {sp : Sp} (e : MeIn K C "__init__" qual st) (c : ClIn K cx C) (X : K.In h) (G : h.Ns mainGlobals mg) (ok : ∀ {f : Addr} {fd : FuncData}, Fun K "__init__" qual st f fd → FnOk P w K mg base CX0 k f fd ps sp)
    (hb : HB "__init__" qual st ps) : Maker P w K mg base k cx C ps sp := by
  obtain ⟨f, fd, a, i, F⟩ := e
  exact ⟨f, fd, ok F, ⟨c.md, a, i, c.kc⟩, PySem.W.mg_of X G c.a, F.binds hb⟩
end
theorem all_mk {P : Program} {w : World} {K : PySem.W.Frag} {h : Heap} {mg : Str → Option Value} {fa CW CS CR : Addr} (X : K.In h) (G : h.Ns mainGlobals mg) (hfa : mg "answers" = some (.ref fa))
    (kW : ClIn K "Ways" CW) (kS : ClIn K "Sheet" CS) (kR : ClIn K "Reader" CR)
    (nS : PySem.W.findIn K (.ref CW) "starts" = some none) (nT : PySem.W.findIn K (.ref CW) "steps" = some none) (sN : PySem.W.findIn K (.ref CS) "names" = some none) (sF : PySem.W.findIn K (.ref CS) "formulas" = some none) (sW : PySem.W.findIn K (.ref CS) "ways" = some none) (sK : PySem.W.findIn K (.ref CS) "kept" = some none) (rN : PySem.W.findIn K (.ref CR) "numbers" = some none) (rP : PySem.W.findIn K (.ref CR) "place" = some none)
    (nSum : PySem.W.nsIn K mainGlobals "sum" = some none) (nZip : PySem.W.nsIn K mainGlobals "zip" = some none) (nLen : PySem.W.nsIn K mainGlobals "len" = some none) (nRange : PySem.W.nsIn K mainGlobals "range" = some none) (nAll : PySem.W.nsIn K mainGlobals "all" = some none) (nAbs : PySem.W.nsIn K mainGlobals "abs" = some none) (nList : PySem.W.nsIn K mainGlobals "list" = some none)
    (cNames : IntIn K "NAMES" 6) (cUnits : IntIn K "BASE_UNITS" 7) (cForms : IntIn K "FORMULAS" 64) (cExp : IntIn K "LARGEST_EXPONENT" 6) (cRoot : IntIn K "LARGEST_ROOT" 6) (cKept : IntIn K "MOST_KEPT" 8) (rNone : IntIn K "NONE_THERE" (-1)) (rMuch : IntIn K "TOO_MUCH" (-2)) (rCannot : IntIn K "CANNOT_BE" (-3)) (tAlways : IntIn K "ALWAYS_SAME" 0) (tSome : IntIn K "SOMETIMES_SAME" 1) (tNever : IntIn K "NEVER_SAME" 2) (p0 : IntIn K "INIT" 0) (p1 : IntIn K "NAME" 1) (p2 : IntIn K "BASE" 2) (p3 : IntIn K "MUL" 3) (p4 : IntIn K "DIV" 4) (p5 : IntIn K "POW" 5) (p6 : IntIn K "ROOT" 6) (p7 : IntIn K "ADD" 7) (p8 : IntIn K "EQ" 8) (p10 : IntIn K "UNIT" 10) (p11 : IntIn K "KEEP" 11) (p12 : IntIn K "BACK" 12)
    (mWI : MeIn K CW "__init__" "Ways.__init__" sWInit) (mSI : MeIn K CS "__init__" "Sheet.__init__" sSInit) (mSB : MeIn K CS "begin" "Sheet.begin" sBegin) (mSK : MeIn K CS "keep" "Sheet.keep" sKeep) (mSG : MeIn K CS "go_back" "Sheet.go_back" sGoBack) (mRI : MeIn K CR "__init__" "Reader.__init__" sRInit) (mRM : MeIn K CR "has_more" "Reader.has_more" sMore) (mRN : MeIn K CR "number" "Reader.number" sNumber) (mRR : MeIn K CR "row" "Reader.row" sRow)
    (f0 : FnIn K "product" "product" sProduct) (f1 : FnIn K "with_multiple" "with_multiple" sWithMultiple) (f2 : FnIn K "single" "single" sSingle) (f3 : FnIn K "every_way" "every_way" sEvery) (f4 : FnIn K "parted_pair" "parted_pair" sPair) (f5 : FnIn K "parted_steps" "parted_steps" sSteps) (f6 : FnIn K "times_needed" "times_needed" sTimes) (f7 : FnIn K "ways_with_line" "ways_with_line" sLine) (f8 : FnIn K "units_in" "units_in" sUnits) (f9 : FnIn K "has_formula" "has_formula" sHas) (f10 : FnIn K "has_formulas" "has_formulas" sHas2) (f11 : FnIn K "has_room" "has_room" sRoom) (f12 : FnIn K "has_room_for_name" "has_room_for_name" sRoomN) (f13 : FnIn K "is_small" "is_small" sSmall) (f14 : FnIn K "quotient" "quotient" sQuot) (f15 : FnIn K "accepts_line" "accepts_line" sAcc) (f16 : FnIn K "next_name" "next_name" sNext) (f17 : FnIn K "keep_formula" "keep_formula" sKeepF) (f18 : FnIn K "keep_next_name" "keep_next_name" sKeepN) (f19 : FnIn K "answer_init" "answer_init" sAInit) (f20 : FnIn K "answer_name" "answer_name" sAName) (f21 : FnIn K "answer_base" "answer_base" sABase) (f22 : FnIn K "answer_product" "answer_product" sAProd) (f23 : FnIn K "answer_pow" "answer_pow" sAPow) (f24 : FnIn K "answer_root" "answer_root" sARoot) (f25 : FnIn K "answer_add" "answer_add" sAAdd) (f26 : FnIn K "answer_eq" "answer_eq" sAEq) (f27 : FnIn K "answer_test" "answer_test" sATest) (f28 : FnIn K "answer_keep" "answer_keep" sAKeep) (f29 : FnIn K "answer_back" "answer_back" sABack) (f30 : FnIn K "whole_answer" "whole_answer" sWhole) (f31 : FnIn K "answer_unit" "answer_unit" sAUnit) (f32 : FnIn K "answer_of_none" "answer_of_none" sNone) (f33 : FnIn K "answer_of_two" "answer_of_two" sTwo) (f34 : FnIn K "next_answer" "next_answer" sNextA) (f35 : FnIn K "answers" "answers" sAns) :
    ∃ fd : FuncData, (∀ (s : Shared) (us : List Value), us.length = (["calls"] : List Str).length → BindsTo s fd ⟨us, []⟩ ((["calls"] : List Str).zip us)) ∧ ∀ base : Heap, K.In base → base.Ns mainGlobals mg → FnOk P w K mg base CX0 9 fa fd ["calls"] (spAns K) := by
  have T : Txt mg := ⟨PySem.W.mg_none_of X G nSum, PySem.W.mg_none_of X G nZip, PySem.W.mg_none_of X G nLen, PySem.W.mg_none_of X G nRange, PySem.W.mg_none_of X G nAll, PySem.W.mg_none_of X G nAbs, cNames.num X G, cUnits.num X G, PySem.W.mg_none_of X G nList, cForms.num X G, cExp.num X G, cRoot.num X G, cKept.num X G, rNone.num X G, rMuch.num X G, rCannot.num X G, tAlways.num X G, tSome.num X G, tNever.num X G, p0.num X G, p1.num X G, p2.num X G, p3.num X G, p4.num X G, p5.num X G, p6.num X G, p7.num X G, p8.num X G, p10.num X G, p11.num X G, p12.num X G⟩
  have TW : TxtW K mg CW := ⟨kW.cl, nS, nT, PySem.W.mg_of X G kW.a⟩
  have TS : TxtS K CS := ⟨kS.cl, sN, sF, sW, sK⟩
  have TR : TxtR K CR := ⟨kR.cl, rN, rP⟩
  obtain ⟨f', fd, a', F'⟩ := f35
  have e := hfa.symm.trans (PySem.W.mg_of X G a')
  cases e
  refine ⟨fd, fun s us hu => ?_, fun base _ _ => ?_⟩
  · obtain ⟨oc, od, kV, doc, pm, an, cdv, ct, osl, rfl, lk, hcd⟩ := F'.ex
    exact match us, hu with | [_], _ => .of_eq rfl
  · skip
    have dProduct : Def P w K mg base 1 "product" ["xs", "ys"] (spProduct K) := f0.def_ X G (fun F => ok_product F T) (hb2 fun _ _ _ _ _ _ _ _ => rfl)
    have dWith : Def P w K mg base 1 "with_multiple" ["xs", "times", "ys"] (spWith K) := f1.def_ X G (fun F => ok_with F T) (hb3 fun _ _ _ _ _ _ _ _ _ => rfl)
    have dSingle : Def P w K mg base 1 "single" ["place", "length"] spSingle := f2.def_ X G (fun F => ok_single F T) (hb2 fun _ _ _ _ _ _ _ _ => rfl)
    have dPair : Def P w K mg base 2 "parted_pair" ["lead", "step", "names"] spPair := f4.def_ X G (fun F => ok_pair F dProduct dWith) (hb3 fun _ _ _ _ _ _ _ _ _ => rfl)
    have dSteps : Def P w K mg base 3 "parted_steps" ["steps", "names"] spSteps := f5.def_ X G (fun F => ok_steps F T dProduct dPair) (hb2 fun _ _ _ _ _ _ _ _ => rfl)
    have dTimes : Def P w K mg base 1 "times_needed" ["change", "missing"] spTimes := f6.def_ X G (fun F => ok_times F) (hb2 fun _ _ _ _ _ _ _ _ => rfl)
    have dWays : Maker P w K mg base 1 "Ways" CW ["self", "starts", "steps"] (spWInit CW) := mWI.make kW X G (fun F => ok_winit F TW) (hb3 fun _ _ _ _ _ _ _ _ _ => rfl)
    have dLine : Def P w K mg base 4 "ways_with_line" ["ways", "line"] (spLine CW) := f7.def_ X G (fun F => ok_line F T TW dProduct dWith dSteps dTimes dWays) (hb2 fun _ _ _ _ _ _ _ _ => rfl)
    have dUnits : Def P w K mg base 4 "units_in" ["ways", "exponents"] (spUnits CW) := f8.def_ X G (fun F => ok_units F T TW dProduct dSteps) (hb2 fun _ _ _ _ _ _ _ _ => rfl)
    have dEvery : Def P w K mg base 3 "every_way" [] (spEvery CW) := f3.def_ X G (fun F => ok_every F T dSingle dWays) (hb0 fun _ _ _ _ _ _ => rfl)
    have dBegin : MethD P w K mg base 4 CS "begin" ["self"] (spBegin CS CW) := mSB.def_ (fun F => ok_begin F TS dEvery) (hb1 fun _ _ _ _ _ _ _ => rfl)
    have dSheet : Maker P w K mg base 5 "Sheet" CS ["self"] (spSInit CS CW) := mSI.make kS X G (fun F => ok_sinit F TS dBegin) (hb1 fun _ _ _ _ _ _ _ => rfl)
    have dKeep : MethD P w K mg base 1 CS "keep" ["self"] (spKeep CS CW) := mSK.def_ (fun F => ok_keep F T TS) (hb1 fun _ _ _ _ _ _ _ => rfl)
    have dGoBack : MethD P w K mg base 1 CS "go_back" ["self"] (spGoBack CS CW) := mSG.def_ (fun F => ok_goback F TS) (hb1 fun _ _ _ _ _ _ _ => rfl)
    have dReader : Maker P w K mg base 1 "Reader" CR ["self", "numbers"] (spRInit CR) := mRI.make kR X G (fun F => ok_rinit F TR) (hb2 fun _ _ _ _ _ _ _ _ => rfl)
    have dMore : MethD P w K mg base 1 CR "has_more" ["self"] (spMore K CR) := mRM.def_ (fun F => ok_more F T TR) (hb1 fun _ _ _ _ _ _ _ => rfl)
    have dNumber : MethD P w K mg base 1 CR "number" ["self"] (spNumber K CR) := mRN.def_ (fun F => ok_number F TR) (hb1 fun _ _ _ _ _ _ _ => rfl)
    have dRow : MethD P w K mg base 2 CR "row" ["self"] (spRow K CR) := mRR.def_ (fun F => ok_row F TR dNumber) (hb1 fun _ _ _ _ _ _ _ => rfl)
    have dHas : Def P w K mg base 1 "has_formula" ["sheet", "a"] (spHas CS CW) := f9.def_ X G (fun F => ok_has F T TS) (hb2 fun _ _ _ _ _ _ _ _ => rfl)
    have dHas2 : Def P w K mg base 2 "has_formulas" ["sheet", "a", "b"] (spHas2 CS CW) := f10.def_ X G (fun F => ok_has2 F dHas) (hb3 fun _ _ _ _ _ _ _ _ _ => rfl)
    have dRoom : Def P w K mg base 1 "has_room" ["sheet"] (spRoom CS CW) := f11.def_ X G (fun F => ok_room F T TS) (hb1 fun _ _ _ _ _ _ _ => rfl)
    have dRoomN : Def P w K mg base 2 "has_room_for_name" ["sheet"] (spRoomN CS CW) := f12.def_ X G (fun F => ok_roomN F T TS dRoom) (hb1 fun _ _ _ _ _ _ _ => rfl)
    have dSmall : Def P w K mg base 1 "is_small" ["exponents"] (spSmall K) := f13.def_ X G (fun F => ok_small F T) (hb1 fun _ _ _ _ _ _ _ => rfl)
    have dQuot : Def P w K mg base 2 "quotient" ["sheet", "a", "b"] (spQuot CS CW) := f14.def_ X G (fun F => ok_quot F TS dWith) (hb3 fun _ _ _ _ _ _ _ _ _ => rfl)
    have dAcc : Def P w K mg base 5 "accepts_line" ["sheet", "line"] (spAcc CS CW) := f15.def_ X G (fun F => ok_acc F TS dLine) (hb2 fun _ _ _ _ _ _ _ _ => rfl)
    have dNext : Def P w K mg base 2 "next_name" ["sheet"] (spNext CS CW) := f16.def_ X G (fun F => ok_next F T TS dSingle) (hb1 fun _ _ _ _ _ _ _ => rfl)
    have dKeepF : Def P w K mg base 2 "keep_formula" ["sheet", "exponents"] (spKeepF CS CW) := f17.def_ X G (fun F => ok_keepF F T TS dRoom dSmall) (hb2 fun _ _ _ _ _ _ _ _ => rfl)
    have dKeepN : Def P w K mg base 3 "keep_next_name" ["sheet"] (spKeepN CS CW) := f18.def_ X G (fun F => ok_keepN F TS dNext dKeepF) (hb1 fun _ _ _ _ _ _ _ => rfl)
    have aInit : Def P w K mg base 5 "answer_init" ["sheet"] (spAInit CS CW) := f19.def_ X G (fun F => ok_ainit F TS dBegin) (hb1 fun _ _ _ _ _ _ _ => rfl)
    have aName : Def P w K mg base 4 "answer_name" ["sheet"] (spAName CS CW) := f20.def_ X G (fun F => ok_aname F T dRoomN dKeepN) (hb1 fun _ _ _ _ _ _ _ => rfl)
    have aBase : Def P w K mg base 3 "answer_base" ["sheet", "exponents"] (spABase CS CW) := f21.def_ X G (fun F => ok_abase F T dKeepF) (hb2 fun _ _ _ _ _ _ _ _ => rfl)
    have aProd : Def P w K mg base 3 "answer_product" ["sheet", "a", "b", "power"] (spAProd CS CW) := f22.def_ X G (fun F => ok_aprod F T TS dHas2 dKeepF dWith) (hb4 fun _ _ _ _ _ _ _ _ _ _ => rfl)
    have aPow : Def P w K mg base 3 "answer_pow" ["sheet", "a", "k"] (spAPow CS CW) := f23.def_ X G (fun F => ok_apow F T TS dHas dKeepF) (hb3 fun _ _ _ _ _ _ _ _ _ => rfl)
    have aRoot : Def P w K mg base 6 "answer_root" ["sheet", "a", "k"] (spARoot CS CW) := f24.def_ X G (fun F => ok_aroot F T TS dHas dRoomN dWith dNext dAcc dKeepN) (hb3 fun _ _ _ _ _ _ _ _ _ => rfl)
    have aAdd : Def P w K mg base 6 "answer_add" ["sheet", "a", "b"] (spAAdd CS CW) := f25.def_ X G (fun F => ok_aadd F T TS dHas2 dRoom dQuot dAcc dKeepF) (hb3 fun _ _ _ _ _ _ _ _ _ => rfl)
    have aEq : Def P w K mg base 6 "answer_eq" ["sheet", "a", "b"] (spAEq CS CW) := f26.def_ X G (fun F => ok_aeq F T dHas2 dQuot dAcc) (hb3 fun _ _ _ _ _ _ _ _ _ => rfl)
    have aTest : Def P w K mg base 5 "answer_test" ["sheet", "a", "b"] (spATest CS CW) := f27.def_ X G (fun F => ok_atest F T TS dHas2 dQuot dUnits) (hb3 fun _ _ _ _ _ _ _ _ _ => rfl)
    have aKeep : Def P w K mg base 2 "answer_keep" ["sheet"] (spAKeep CS CW) := f28.def_ X G (fun F => ok_akeep F T TS dKeep) (hb1 fun _ _ _ _ _ _ _ => rfl)
    have aBack : Def P w K mg base 2 "answer_back" ["sheet"] (spABack CS CW) := f29.def_ X G (fun F => ok_aback F T TS dGoBack) (hb1 fun _ _ _ _ _ _ _ => rfl)
    have dWhole : Def P w K mg base 1 "whole_answer" ["number", "exponents"] spWhole := f30.def_ X G (fun F => ok_whole F T) (hb2 fun _ _ _ _ _ _ _ _ => rfl)
    have aUnit : Def P w K mg base 5 "answer_unit" ["sheet", "a"] (spAUnit CS CW) := f31.def_ X G (fun F => ok_aunit F T TS dHas dUnits dWhole) (hb2 fun _ _ _ _ _ _ _ _ => rfl)
    have dNone : Def P w K mg base 6 "answer_of_none" ["sheet", "call"] (spNone CS CW) := f32.def_ X G (fun F => ok_none F T aInit aName aKeep aBack) (hb2 fun _ _ _ _ _ _ _ _ => rfl)
    have dTwo : Def P w K mg base 7 "answer_of_two" ["sheet", "call", "a", "b"] (spTwo CS CW) := f33.def_ X G (fun F => ok_two F T aProd aPow aRoot aAdd aEq aTest) (hb4 fun _ _ _ _ _ _ _ _ _ _ => rfl)
    have dNextA : Def P w K mg base 8 "next_answer" ["sheet", "reader"] (spNextA K CS CW CR) := f34.def_ X G (fun F => ok_nexta F T TR dNumber dRow dWhole dNone aBase aUnit dTwo) (hb2 fun _ _ _ _ _ _ _ _ => rfl)
    exact ok_ans F' T TR dSheet dReader dMore dNextA
end Ug

set_option Elab.async false
set_option linter.all false
set_option maxRecDepth 100000
set_option maxHeartbeats 2000000
open PySem PySem.W PyProof.Rows
set_option maxRecDepth 100000 in
set_option maxHeartbeats 0 in
theorem PySem.Challenge.cw_unitformulas_s01_answers_holds : PySem.Challenge.rw_unitformulas_s01_answers.Holds := by
  w_on; k_headS; (case hw => exact ⟨[.list [.int 0]], by decide +kernel, by decide +kernel⟩)
  k_fillS
  refine L2.walk_specK (r := PySem.Challenge.rw_unitformulas_s01_answers) (k := 9) (CX := L2.CX0) (ps := ["calls"]) (sp := Ug.spAns) (fun a => (by show (L2.plWs (a.1.map WData.int) && true) = true; rw [L2.plWs_map (fun _ => rfl)]; rfl)) (by decide +kernel) rfl rfl ⟨rfl, by decide, by decide⟩ (fun w h Y => PySem.W.kIn_of Y) ?F ?S (fun _ _ _ _ z => z)
  case F =>
    intro w mg fa h Y KX G hmg
    refine' Ug.all_mk KX G hmg ?kW ?kS ?kR ?nS ?nT ?sN ?sF ?sW ?sK ?rN ?rP ?nSum ?nZip ?nLen ?nRange ?nAll ?nAbs ?nList ?cNames ?cUnits ?cForms ?cExp ?cRoot ?cKept ?rNone ?rMuch ?rCannot ?tAlways ?tSome ?tNever ?p0 ?p1 ?p2 ?p3 ?p4 ?p5 ?p6 ?p7 ?p8 ?p10 ?p11 ?p12 ?mWI ?mSI ?mSB ?mSK ?mSG ?mRI ?mRM ?mRN ?mRR ?f0 ?f1 ?f2 ?f3 ?f4 ?f5 ?f6 ?f7 ?f8 ?f9 ?f10 ?f11 ?f12 ?f13 ?f14 ?f15 ?f16 ?f17 ?f18 ?f19 ?f20 ?f21 ?f22 ?f23 ?f24 ?f25 ?f26 ?f27 ?f28 ?f29 ?f30 ?f31 ?f32 ?f33 ?f34 ?f35
    (case kW => refine' ⟨?a, ?pg, ?hd, ?po, ?sa, ?mk, ?kc⟩; (case a => k_is); (case pg => k_is); (case hd => k_is); (case po => k_is); (case sa => k_is); (case mk => k_is); (case kc => k_is))
    (case kS => refine' ⟨?a, ?pg, ?hd, ?po, ?sa, ?mk, ?kc⟩; (case a => k_is); (case pg => k_is); (case hd => k_is); (case po => k_is); (case sa => k_is); (case mk => k_is); (case kc => k_is))
    (case kR => refine' ⟨?a, ?pg, ?hd, ?po, ?sa, ?mk, ?kc⟩; (case a => k_is); (case pg => k_is); (case hd => k_is); (case po => k_is); (case sa => k_is); (case mk => k_is); (case kc => k_is))
    (case nS => k_is); (case nT => k_is); (case sN => k_is); (case sF => k_is); (case sW => k_is); (case sK => k_is); (case rN => k_is); (case rP => k_is)
    (case nSum => k_is); (case nZip => k_is); (case nLen => k_is); (case nRange => k_is); (case nAll => k_is); (case nAbs => k_is); (case nList => k_is)
    (case cNames => refine' Ug.int_in ?a; (case a => k_is))
    (case cUnits => refine' Ug.int_in ?a; (case a => k_is))
    (case cForms => refine' Ug.int_in ?a; (case a => k_is))
    (case cExp => refine' Ug.int_in ?a; (case a => k_is))
    (case cRoot => refine' Ug.int_in ?a; (case a => k_is))
    (case cKept => refine' Ug.int_in ?a; (case a => k_is))
    (case rNone => refine' Ug.int_in ?a; (case a => k_is))
    (case rMuch => refine' Ug.int_in ?a; (case a => k_is))
    (case rCannot => refine' Ug.int_in ?a; (case a => k_is))
    (case tAlways => refine' Ug.int_in ?a; (case a => k_is))
    (case tSome => refine' Ug.int_in ?a; (case a => k_is))
    (case tNever => refine' Ug.int_in ?a; (case a => k_is))
    (case p0 => refine' Ug.int_in ?a; (case a => k_is))
    (case p1 => refine' Ug.int_in ?a; (case a => k_is))
    (case p2 => refine' Ug.int_in ?a; (case a => k_is))
    (case p3 => refine' Ug.int_in ?a; (case a => k_is))
    (case p4 => refine' Ug.int_in ?a; (case a => k_is))
    (case p5 => refine' Ug.int_in ?a; (case a => k_is))
    (case p6 => refine' Ug.int_in ?a; (case a => k_is))
    (case p7 => refine' Ug.int_in ?a; (case a => k_is))
    (case p8 => refine' Ug.int_in ?a; (case a => k_is))
    (case p10 => refine' Ug.int_in ?a; (case a => k_is))
    (case p11 => refine' Ug.int_in ?a; (case a => k_is))
    (case p12 => refine' Ug.int_in ?a; (case a => k_is))
    (case mWI => refine' Ug.me_in ?a ?i ?l ?c ?k; (case a => k_is); (case i => k_is); (case l => k_is); (case c => k_is); (case k => k_is))
    (case mSI => refine' Ug.me_in ?a ?i ?l ?c ?k; (case a => k_is); (case i => k_is); (case l => k_is); (case c => k_is); (case k => k_is))
    (case mSB => refine' Ug.me_in ?a ?i ?l ?c ?k; (case a => k_is); (case i => k_is); (case l => k_is); (case c => k_is); (case k => k_is))
    (case mSK => refine' Ug.me_in ?a ?i ?l ?c ?k; (case a => k_is); (case i => k_is); (case l => k_is); (case c => k_is); (case k => k_is))
    (case mSG => refine' Ug.me_in ?a ?i ?l ?c ?k; (case a => k_is); (case i => k_is); (case l => k_is); (case c => k_is); (case k => k_is))
    (case mRI => refine' Ug.me_in ?a ?i ?l ?c ?k; (case a => k_is); (case i => k_is); (case l => k_is); (case c => k_is); (case k => k_is))
    (case mRM => refine' Ug.me_in ?a ?i ?l ?c ?k; (case a => k_is); (case i => k_is); (case l => k_is); (case c => k_is); (case k => k_is))
    (case mRN => refine' Ug.me_in ?a ?i ?l ?c ?k; (case a => k_is); (case i => k_is); (case l => k_is); (case c => k_is); (case k => k_is))
    (case mRR => refine' Ug.me_in ?a ?i ?l ?c ?k; (case a => k_is); (case i => k_is); (case l => k_is); (case c => k_is); (case k => k_is))
    (case f0 => refine' Ug.fn_in ?a ?l ?c ?k; (case a => k_is); (case l => k_is); (case c => k_is); (case k => k_is))
    (case f1 => refine' Ug.fn_in ?a ?l ?c ?k; (case a => k_is); (case l => k_is); (case c => k_is); (case k => k_is))
    (case f2 => refine' Ug.fn_in ?a ?l ?c ?k; (case a => k_is); (case l => k_is); (case c => k_is); (case k => k_is))
    (case f3 => refine' Ug.fn_in ?a ?l ?c ?k; (case a => k_is); (case l => k_is); (case c => k_is); (case k => k_is))
    (case f4 => refine' Ug.fn_in ?a ?l ?c ?k; (case a => k_is); (case l => k_is); (case c => k_is); (case k => k_is))
    (case f5 => refine' Ug.fn_in ?a ?l ?c ?k; (case a => k_is); (case l => k_is); (case c => k_is); (case k => k_is))
    (case f6 => refine' Ug.fn_in ?a ?l ?c ?k; (case a => k_is); (case l => k_is); (case c => k_is); (case k => k_is))
    (case f7 => refine' Ug.fn_in ?a ?l ?c ?k; (case a => k_is); (case l => k_is); (case c => k_is); (case k => k_is))
    (case f8 => refine' Ug.fn_in ?a ?l ?c ?k; (case a => k_is); (case l => k_is); (case c => k_is); (case k => k_is))
    (case f9 => refine' Ug.fn_in ?a ?l ?c ?k; (case a => k_is); (case l => k_is); (case c => k_is); (case k => k_is))
    (case f10 => refine' Ug.fn_in ?a ?l ?c ?k; (case a => k_is); (case l => k_is); (case c => k_is); (case k => k_is))
    (case f11 => refine' Ug.fn_in ?a ?l ?c ?k; (case a => k_is); (case l => k_is); (case c => k_is); (case k => k_is))
    (case f12 => refine' Ug.fn_in ?a ?l ?c ?k; (case a => k_is); (case l => k_is); (case c => k_is); (case k => k_is))
    (case f13 => refine' Ug.fn_in ?a ?l ?c ?k; (case a => k_is); (case l => k_is); (case c => k_is); (case k => k_is))
    (case f14 => refine' Ug.fn_in ?a ?l ?c ?k; (case a => k_is); (case l => k_is); (case c => k_is); (case k => k_is))
    (case f15 => refine' Ug.fn_in ?a ?l ?c ?k; (case a => k_is); (case l => k_is); (case c => k_is); (case k => k_is))
    (case f16 => refine' Ug.fn_in ?a ?l ?c ?k; (case a => k_is); (case l => k_is); (case c => k_is); (case k => k_is))
    (case f17 => refine' Ug.fn_in ?a ?l ?c ?k; (case a => k_is); (case l => k_is); (case c => k_is); (case k => k_is))
    (case f18 => refine' Ug.fn_in ?a ?l ?c ?k; (case a => k_is); (case l => k_is); (case c => k_is); (case k => k_is))
    (case f19 => refine' Ug.fn_in ?a ?l ?c ?k; (case a => k_is); (case l => k_is); (case c => k_is); (case k => k_is))
    (case f20 => refine' Ug.fn_in ?a ?l ?c ?k; (case a => k_is); (case l => k_is); (case c => k_is); (case k => k_is))
    (case f21 => refine' Ug.fn_in ?a ?l ?c ?k; (case a => k_is); (case l => k_is); (case c => k_is); (case k => k_is))
    (case f22 => refine' Ug.fn_in ?a ?l ?c ?k; (case a => k_is); (case l => k_is); (case c => k_is); (case k => k_is))
    (case f23 => refine' Ug.fn_in ?a ?l ?c ?k; (case a => k_is); (case l => k_is); (case c => k_is); (case k => k_is))
    (case f24 => refine' Ug.fn_in ?a ?l ?c ?k; (case a => k_is); (case l => k_is); (case c => k_is); (case k => k_is))
    (case f25 => refine' Ug.fn_in ?a ?l ?c ?k; (case a => k_is); (case l => k_is); (case c => k_is); (case k => k_is))
    (case f26 => refine' Ug.fn_in ?a ?l ?c ?k; (case a => k_is); (case l => k_is); (case c => k_is); (case k => k_is))
    (case f27 => refine' Ug.fn_in ?a ?l ?c ?k; (case a => k_is); (case l => k_is); (case c => k_is); (case k => k_is))
    (case f28 => refine' Ug.fn_in ?a ?l ?c ?k; (case a => k_is); (case l => k_is); (case c => k_is); (case k => k_is))
    (case f29 => refine' Ug.fn_in ?a ?l ?c ?k; (case a => k_is); (case l => k_is); (case c => k_is); (case k => k_is))
    (case f30 => refine' Ug.fn_in ?a ?l ?c ?k; (case a => k_is); (case l => k_is); (case c => k_is); (case k => k_is))
    (case f31 => refine' Ug.fn_in ?a ?l ?c ?k; (case a => k_is); (case l => k_is); (case c => k_is); (case k => k_is))
    (case f32 => refine' Ug.fn_in ?a ?l ?c ?k; (case a => k_is); (case l => k_is); (case c => k_is); (case k => k_is))
    (case f33 => refine' Ug.fn_in ?a ?l ?c ?k; (case a => k_is); (case l => k_is); (case c => k_is); (case k => k_is))
    (case f34 => refine' Ug.fn_in ?a ?l ?c ?k; (case a => k_is); (case l => k_is); (case c => k_is); (case k => k_is))
    (case f35 => refine' Ug.fn_in ?a ?l ?c ?k; (case a => k_is); (case l => k_is); (case c => k_is); (case k => k_is))
  case S =>
    intro K H xs a hO hwi hask hx
    cases hx with
    | cons h1 h2 =>
      cases h2
      cases h1 with
      | lst hs ha =>
        have e := L2.ints_dw a.1 _ ha
        subst e
        exact ⟨_, a.1, rfl, hs, hask, fun H' p hp => .lst (L2.SqL.of hp) (L2.dw_ints _)⟩
#print axioms PySem.Challenge.cw_unitformulas_s01_answers_holds
