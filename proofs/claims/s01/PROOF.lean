import PyProof.Rows.All
import Wide.All
import OpenK.AllK
import Wide.FinOn
import PyProof.EqAt
import PyProof.EqKinds
import PyProof.TupleCall
import KE.BitLaws
import PyProof.ListRange
import Open.SpecLaws
import KE.OsHead
import KE.OsGo
import PySem.Challenge.RW_twostores_s01_answers
section
set_option Elab.async false
set_option Elab.async false
set_option linter.all false
set_option maxRecDepth 100000
namespace L2
open PySem PySem.Spec PyProof.Rows
abbrev Key := Sum Int Str
def keyIs : Key → Value → Bool
  | .inl k, v => Value.isInt k v
  | .inr x, v => Value.isStrOf x v
def keyH (w : World) : Key → Int
  | .inl k => hashInt k
  | .inr x => hashStr w x
theorem keyIs_shape : ∀ {k : Key} {v : Value}, keyIs k v = true → (∃ i t, k = Sum.inl i ∧ v = Value.int i t) ∨ (∃ x t, k = Sum.inr x ∧ v = Value.str x t)
  | .inl i, v, h => by
    obtain ⟨t, e⟩ := Value.isInt_shape (k := i) (v := v) h
    exact .inl ⟨i, t, rfl, e⟩
  | .inr x, v, h => by
    obtain ⟨t, e⟩ := Value.isStrOf_shape (x := x) (v := v) h
    exact .inr ⟨x, t, rfl, e⟩
theorem keyIs_int (i : Int) (t : Tok) : keyIs (.inl i) (.int i t) = true := by simp [keyIs, Value.isInt]
theorem keyIs_str (x : Str) (t : Tok) : keyIs (.inr x) (.str x t) = true := by simp [keyIs, Value.isStrOf]
theorem key_ll (a b : Int) : decide ((Sum.inl a : Key) = Sum.inl b) = (a == b) := by
  by_cases e : a = b
  · subst e; simp
  · have h : ¬ (Sum.inl a : Key) = Sum.inl b := fun q => e (Sum.inl.inj q)
    rw [decide_eq_false h]
    exact (beq_eq_false_iff_ne.mpr e).symm
theorem key_rr (a b : Str) : decide ((Sum.inr a : Key) = Sum.inr b) = decide (a = b) := by
  by_cases e : a = b
  · subst e; simp
  · have h : ¬ (Sum.inr a : Key) = Sum.inr b := fun q => e (Sum.inr.inj q)
    rw [decide_eq_false h, decide_eq_false e]
theorem key_lr (a : Int) (b : Str) : decide ((Sum.inl a : Key) = Sum.inr b) = false := decide_eq_false (fun q => nomatch q)
theorem key_rl (a : Str) (b : Int) : decide ((Sum.inr a : Key) = Sum.inl b) = false := decide_eq_false (fun q => nomatch q)
def mixKind (prog : Program) (w : World) : PySem.KeyKind prog w Key where
  is := keyIs
  hash := keyH w
  inj := fun v a b ha hb => by
    rcases keyIs_shape ha with ⟨i, t, rfl, rfl⟩ | ⟨x, t, rfl, rfl⟩
    · rcases keyIs_shape hb with ⟨j, u, rfl, e⟩ | ⟨y, u, rfl, e⟩
      · injection e with e1 _; rw [e1]
      · exact nomatch e
    · rcases keyIs_shape hb with ⟨j, u, rfl, e⟩ | ⟨y, u, rfl, e⟩
      · exact nomatch e
      · injection e with e1 _; rw [e1]
  byValue := fun k v h => by
    rcases keyIs_shape h with ⟨i, t, rfl, rfl⟩ | ⟨x, t, rfl, rfl⟩ <;> rfl
  pyHash := fun hv h => by
    rcases keyIs_shape hv with ⟨i, t, rfl, rfl⟩ | ⟨x, t, rfl, rfl⟩
    · exact wpAny_pyHash_int h
    · exact wpAny_pyHash_str h
  eqBool := fun hu hv h => by
    rcases keyIs_shape hu with ⟨i, t, rfl, rfl⟩ | ⟨x, t, rfl, rfl⟩
    · rcases keyIs_shape hv with ⟨j, u, rfl, rfl⟩ | ⟨y, u, rfl, rfl⟩
      · rw [key_ll] at h; exact wpAny_eqBool_int h
      · rw [key_lr] at h; exact SeqAt.EqAt.int_str i t y u _ _ _ _ h
    · rcases keyIs_shape hv with ⟨j, u, rfl, rfl⟩ | ⟨y, u, rfl, rfl⟩
      · rw [key_rl] at h; exact SeqAt.EqAt.str_int x t j u _ _ _ _ h
      · rw [key_rr] at h; exact wpAny_eqBool_str h
  «strs» := fun k x t v h => by
    rcases keyIs_shape h with ⟨i, u, rfl, e⟩ | ⟨y, u, rfl, e⟩
    · exact nomatch e
    · injection e with e1 _
      subst e1
      cases v <;> rfl
theorem mixKind_int (prog : Program) (w : World) (i : Int) (t : Tok) : (mixKind prog w).is (.inl i) (.int i t) = true := keyIs_int i t
theorem mixKind_str (prog : Program) (w : World) (x : Str) (t : Tok) : (mixKind prog w).is (.inr x) (.str x t) = true := keyIs_str x t
end L2
namespace L2
open PySem PySem.Spec PyProof.Rows
inductive V where
  | non | bl (b : Bool) | int (i : Int) | str (x : Str) | byt (b : Array UInt8) | flt (b : UInt64) | ref (a : Addr) | ty (n : String)
  deriving DecidableEq
def RelV : V → Value → Prop
  | .non, u => u = Value.none
  | .bl b, u => u = Value.bool b
  | .int i, u => ∃ t, u = Value.int i t
  | .str x, u => ∃ t, u = Value.str x t
  | .byt b, u => ∃ t, u = Value.bytes b t
  | .flt b, u => ∃ t, u = Value.float b t
  | .ref a, u => u = Value.ref a
  | .ty n, u => u = Value.type n
abbrev Vals : List V → List Value → Prop := Paired RelV
theorem Vals.length {xs : List V} {us : List Value} (r : Vals xs us) : xs.length = us.length := Paired.length r
theorem Vals.get : ∀ {xs : List V} {us : List Value} {i : Nat} {x : V}, Vals xs us → xs[i]? = some x → ∃ u, us[i]? = some u ∧ RelV x u
  | _, _, _, _, .nil, e => by simp at e
  | _, _, 0, _, .cons r _, e => by simp at e; subst e; exact ⟨_, rfl, r⟩
  | _, _, i + 1, x, .cons _ t, e => by
    obtain ⟨u, h1, h2⟩ := Vals.get (i := i) (x := x) t (by simpa using e)
    exact ⟨u, by simpa using h1, h2⟩
theorem Vals.set {x : V} {u : Value} (r : RelV x u) : ∀ {xs : List V} {us : List Value} (i : Nat), Vals xs us → Vals (xs.set i x) (us.set i u)
  | _, _, _, .nil => .nil
  | _, _, 0, .cons _ t => .cons r t
  | _, _, i + 1, .cons q t => .cons q (Vals.set r i t)
theorem Vals.append : ∀ {xs ys : List V} {us ws : List Value}, Vals xs us → Vals ys ws → Vals (xs ++ ys) (us ++ ws)
  | _, _, _, _, .nil, s => s
  | _, _, _, _, .cons r t, s => .cons r (Vals.append t s)
theorem Vals.take : ∀ {xs : List V} {us : List Value} (n : Nat), Vals xs us → Vals (xs.take n) (us.take n)
  | _, _, 0, _ => .nil
  | _, _, _ + 1, .nil => .nil
  | _, _, n + 1, .cons r t => .cons r (Vals.take n t)
theorem Vals.drop : ∀ {xs : List V} {us : List Value} (n : Nat), Vals xs us → Vals (xs.drop n) (us.drop n)
  | _, _, 0, r => r
  | _, _, _ + 1, .nil => .nil
  | _, _, n + 1, .cons _ t => Vals.drop n t
def RelO : Option V → Option Value → Prop
  | some v, some u => RelV v u
  | none, none => True
  | _, _ => False
def KV {κ : Type} : List (κ × V) → List (κ × Value) → Prop := Paired fun (p : κ × V) (q : κ × Value) => p.1 = q.1 ∧ RelV p.2 q.2
def kV : Key → V
  | .inl i => .int i
  | .inr x => .str x
inductive HO where
  /-- a list -/
  | lst (xs : List V)
  /-- a tuple (never changes) -/
  | tup (xs : List V)
  /-- a dict whose keys are ints and texts; one whose keys are tuples of ints and texts (the empty one is both) -/
  | dK (kvs : List (Key × V)) | dT (kvs : List (List Key × V))
  /-- a set of ints: its members, its size -/
  | set (S : Int → Bool) (n : Nat)
  /-- an instance of the class at C, its dict at dx, its attributes -/
  | ins (C dx : Addr) (fs : List (Str × V))
  /-- the dict of the instance at x -/
  | own (x : Addr)
  /-- the dict of an exception -/
  | xd (fs : List (Str × V))
  /-- a bound method, f of x -/
  | met (f x : Addr)
  /-- a range object lo, lo + 1, .. below hi -/
  | rng (lo hi : Int)
  /-- a thing that is known to the object (the script; a dict while a loop walks it): read, never written while it is so -/
  | frz (o : Obj) (u : HO)
  /-- a code object's table -/
  | tbl (ps : Array Value)
  /-- any other thing, by what is true of its one object (a def of one's own: SetO a S n := HO.ext fun h => ..) -/
  | ext (φ : Heap → Prop)
abbrev Hp := Addr → Option HO
def upd (H : Hp) (a : Addr) (o : HO) : Hp := fun b => if b = a then some o else H b
theorem upd_same {H : Hp} {a : Addr} {o : HO} : upd H a o a = some o := by unfold upd; rw [if_pos rfl]
theorem upd_ne {H : Hp} {a b : Addr} {o : HO} (h : b ≠ a) : upd H a o b = H b := by unfold upd; rw [if_neg h]
theorem upd_upd {H : Hp} {a : Addr} {o u : HO} : upd (upd H a o) a u = upd H a u := by
  funext b; unfold upd; split <;> rfl
theorem ne_of {H : Hp} {a b : Addr} {o u : HO} (h : H a = some o) (h' : H b = some u) (d : o ≠ u) : a ≠ b := by
  intro e; subst e; rw [h] at h'; exact d (Option.some.inj h')
theorem ne_of_none {H : Hp} {a b : Addr} {o : HO} (h : H a = some o) (h' : H b = none) : a ≠ b := by
  intro e; subst e; rw [h] at h'; cases h'
section
variable (P : Program) (w : World)
def ObjOk (H : Hp) (h : Heap) (a : Addr) : HO → Prop
  | .lst xs => xs.length ≤ sizeLine ∧ ∃ (its : List Value) (n : Nat), Vals xs its ∧ h.get? a = some { cls := .type "list", data := .seq its.toArray n }
  | .tup xs => xs.length ≤ sizeLine ∧ ∃ its : List Value, Vals xs its ∧ IsTup h a its.toArray
  | .dK kvs => kvs.length ≤ sizeLine ∧ (a == sysModules) = false ∧ ∃ vs, KV kvs vs ∧ h.DictOf (mixKind P w) a vs
  | .dT kvs => kvs.length ≤ sizeLine ∧ (a == sysModules) = false ∧ ∃ xs : List (List Key × Addr × Value),
      Paired (fun (p : List Key × V) (q : List Key × Addr × Value) => p.1 = q.1 ∧ H q.2.1 = some (.tup (p.1.map kV)) ∧ RelV p.2 q.2.2) kvs xs ∧
      ∃ o es ep, h.get? a = some o ∧ o.ExactDict ∧ o.data = .dict es ep ∧ es.toList = xs.map (entryOfKey (tupleKind (mixKind P w))) ∧ (xs.map (·.1)).Nodup
  | .set S n => h.SetOf (intKind P w) a S n
  | .ins C dx fs => H dx = some (.own a) ∧ fs.length ≤ 1000 ∧ dx ≠ a ∧ h.get? a = some (PySem.W.instObj C dx) ∧
      ∃ mA, h.Ns1 dx mA ∧ (∀ f, RelO (fs.lookup f) (mA f)) ∧ PySem.Within mA (fs.map (·.1))
  | .own _ => ∃ o, h.get? a = some o
  | .xd fs => ∃ mA, h.Ns1 a mA ∧ ∀ f, RelO (fs.lookup f) (mA f)
  | .rng lo hi => ∃ t u v, h.get? a = some { cls := .type "range", data := .fields #[.int lo t, .int hi u, .int 1 v] }
  | .frz o u => h.get? a = some o ∧ ObjOk H h a u
  | .tbl ps => h.get? a = some { cls := .none, data := .fields ps }
  | .met f x => h.get? a = some (PySem.W.methodObj (.ref f) (.ref x))
  | .ext φ => φ h ∧ (∃ o, h.get? a = some o) ∧ ∀ h1 h2 : Heap, φ h1 → (∀ o, h1.get? a = some o → h2.get? a = some o) → φ h2
def HOk (H : Hp) (h : Heap) : Prop := ∀ a o, H a = some o → ObjOk P w H h a o
end
section
variable {P : Program} {w : World} {H H' : Hp} {h h' : Heap} {a : Addr} {o : HO}
theorem ObjOk.lt (x : ObjOk P w H h a o) : a < h.objs.size := by
  cases o with
  | lst xs => obtain ⟨_, _, _, _, e⟩ := x; exact Heap.lt_size e
  | tup xs => obtain ⟨_, _, _, p⟩ := x; exact p.lt
  | dK kvs => obtain ⟨_, _, _, _, o, _, _, e, _⟩ := x; exact Heap.lt_size e
  | dT kvs => obtain ⟨_, _, _, _, o, _, _, e, _⟩ := x; exact Heap.lt_size e
  | set S n => obtain ⟨o, _, _, _, e, _⟩ := x; exact Heap.lt_size e
  | ins C dx fs => obtain ⟨_, _, _, e, _⟩ := x; exact Heap.lt_size e
  | own y => obtain ⟨_, e⟩ := x; exact Heap.lt_size e
  | xd fs => obtain ⟨_, ⟨_, _, _, e, _⟩, _⟩ := x; exact Heap.lt_size e
  | rng lo hi => obtain ⟨_, _, _, e⟩ := x; exact Heap.lt_size e
  | frz ob u => obtain ⟨e, _⟩ := x; exact Heap.lt_size e
  | tbl ps => exact Heap.lt_size (show h.get? a = some _ from x)
  | met f y => exact Heap.lt_size (show h.get? a = some _ from x)
  | ext φ => obtain ⟨_, ⟨_, e⟩, _⟩ := x; exact Heap.lt_size e
theorem Paired.mapP {α β : Type} {F G : α → β → Prop} : ∀ {l₁ : List α} {l₂ : List β}, Paired F l₁ l₂ → (∀ a b, F a b → G a b) → Paired G l₁ l₂
  | _, _, .nil, _ => .nil
  | _, _, .cons r t, f => .cons (f _ _ r) (Paired.mapP t f)
theorem ObjOk.stay (x : ObjOk P w H h a o) (k : ∀ b u, (b = a ∨ H b = some (.own a)) → h.get? b = some u → h'.get? b = some u)
    (ho : ∀ b, H b = some (.own a) → H' b = some (.own a)) (ht : ∀ b xs, H b = some (.tup xs) → H' b = some (.tup xs)) : ObjOk P w H' h' a o := by
  induction o with
  | lst xs => obtain ⟨z, its, n, r, e⟩ := x; exact ⟨z, its, n, r, k _ _ (.inl rfl) e⟩
  | tup xs => obtain ⟨z, its, r, ob, e, c⟩ := x; exact ⟨z, its, r, ob, k _ _ (.inl rfl) e, c⟩
  | dK kvs => obtain ⟨z, y, vs, r, ob, es, ep, e, c⟩ := x; exact ⟨z, y, vs, r, ob, es, ep, k _ _ (.inl rfl) e, c⟩
  | dT kvs =>
    obtain ⟨z, y, xs, r, ob, es, ep, e, c⟩ := x
    exact ⟨z, y, xs, Paired.mapP r fun p q z => ⟨z.1, ht _ _ z.2.1, z.2.2⟩, ob, es, ep, k _ _ (.inl rfl) e, c⟩
  | set S n => obtain ⟨ob, es, ep, t, e, c⟩ := x; exact ⟨ob, es, ep, t, k _ _ (.inl rfl) e, c⟩
  | ins C dx fs =>
    obtain ⟨d, z, ne, e, mA, ⟨od, es, ep, e2, c⟩, r⟩ := x
    exact ⟨ho _ d, z, ne, k _ _ (.inl rfl) e, mA, ⟨od, es, ep, k _ _ (.inr d) e2, c⟩, r⟩
  | own y => obtain ⟨ob, e⟩ := x; exact ⟨ob, k _ _ (.inl rfl) e⟩
  | xd fs => obtain ⟨mA, ⟨od, es, ep, e, c⟩, r⟩ := x; exact ⟨mA, ⟨od, es, ep, k _ _ (.inl rfl) e, c⟩, r⟩
  | rng lo hi => obtain ⟨t, u, v, e⟩ := x; exact ⟨t, u, v, k _ _ (.inl rfl) e⟩
  | frz ob u ih => obtain ⟨e, q⟩ := x; exact ⟨k _ _ (.inl rfl) e, ih q⟩
  | tbl ps =>
    have e : h.get? a = some { cls := .none, data := .fields ps } := x
    show h'.get? a = some { cls := .none, data := .fields ps }
    exact k a _ (.inl rfl) e
  | met f y =>
    have e : h.get? a = some (PySem.W.methodObj (.ref f) (.ref y)) := x
    show h'.get? a = some (PySem.W.methodObj (.ref f) (.ref y))
    exact k a _ (.inl rfl) e
  | ext φ => obtain ⟨p, ⟨o, e⟩, st⟩ := x; exact ⟨st _ _ p fun o q => k _ _ (.inl rfl) q, ⟨o, k _ _ (.inl rfl) e⟩, st⟩
theorem HOk.lt (x : HOk P w H h) (e : H a = some o) : a < h.objs.size := (x a o e).lt
theorem HOk.fresh (x : HOk P w H h) (e : h.objs.size ≤ a) : H a = none := by
  cases q : H a with
  | none => rfl
  | some u => exact absurd (Nat.lt_of_lt_of_le (x.lt q) e) (Nat.lt_irrefl _)
theorem HOk.kept (x : HOk P w H h) (k : ∀ b u, h.get? b = some u → h'.get? b = some u) : HOk P w H h' := fun a o e =>
  (x a o e).stay (fun b u _ q => k b u q) (fun _ q => q) fun _ _ q => q
theorem HOk.laid (x : HOk P w H h) (k : ∀ b u, h.get? b = some u → h'.get? b = some u) (hp : h.objs.size ≤ a) (new : ObjOk P w (upd H a o) h' a o) : HOk P w (upd H a o) h' := fun b u e => by
  have hn := x.fresh hp
  by_cases hb : b = a
  · subst hb; rw [upd_same] at e; cases e; exact new
  · rw [upd_ne hb] at e
    exact (x b u e).stay (fun c v _ q => k c v q) (fun c q => by rw [upd_ne (ne_of_none q hn)]; exact q) fun c xs q => by rw [upd_ne (ne_of_none q hn)]; exact q
end
def Rd (H : Hp) (a : Addr) (u : HO) : Prop := H a = some u ∨ ∃ o, H a = some (.frz o u)
theorem Rd.ok {P : Program} {w : World} {H : Hp} {h : Heap} {a : Addr} {u : HO} (r : Rd H a u) (x : HOk P w H h) : ObjOk P w H h a u := by
  rcases r with r | ⟨o, r⟩
  · exact x a u r
  · obtain ⟨_, q⟩ := x a _ r
    exact q
def Mut : Option HO → Prop
  | some (.lst _) => True
  | some (.dK _) => True
  | some (.dT _) => True
  | some (.set _ _) => True
  | some (.ins _ _ _) => True
  | some (.ext _) => True
  | _ => False
section
variable {P : Program} {w : World} {H : Hp} {h h' : Heap} {x e : Addr} {o' : HO}
theorem HOk.write (ok : HOk P w H h) (mu : Mut (H x)) (he : e = x ∨ H e = some (.own x)) (k : ∀ b u, b ≠ e → h.get? b = some u → h'.get? b = some u) (heo : ∃ u, h'.get? e = some u)
    (new : ObjOk P w (upd H x o') h' x o') : HOk P w (upd H x o') h' := fun b u q => by
  have nown : ∀ c y, H c = some (.own y) → c ≠ x := fun c y r z => by subst z; rw [r] at mu; exact mu
  have ntup : ∀ c xs, H c = some (.tup xs) → c ≠ x := fun c xs r z => by subst z; rw [r] at mu; exact mu
  by_cases hb : b = x
  · subst hb; rw [upd_same] at q; cases q; exact new
  · rw [upd_ne hb] at q
    by_cases hbe : b = e
    · have q' : H b = some (.own x) := by
        rcases he with z | z
        · exact absurd (hbe.trans z) hb
        · rw [hbe]; exact z
      rw [q] at q'; cases q'
      obtain ⟨v, hv⟩ := heo
      exact ⟨v, by rw [hbe]; exact hv⟩
    · refine (ok b u q).stay (fun c v hc r => k c v ?_ r) (fun c r => by rw [upd_ne (nown c b r)]; exact r) fun c xs r => by rw [upd_ne (ntup c xs r)]; exact r
      rcases hc with rfl | hc
      · exact hbe
      · rintro rfl
        rcases he with z | z
        · exact nown c b hc z
        · rw [hc] at z; cases z; exact hb rfl
end
structure Un (fs ex : List Addr) (H H' : Hp) (h h' : Heap) : Prop where
  keep : ∀ b o, h.get? b = some o → H b = none → b ∉ fs → b ∉ ex → h'.get? b = some o
  slot : ∀ b o, h.get? b = some o → H b = none → b ∈ fs → b ∉ ex → ∃ sl, h'.get? b = some { o with slots := sl }
  free : ∀ b o, h.get? b = some o → H b = none → b ∉ ex → H' b = none
  there : ∀ b o, h.get? b = some o → b ∉ ex → ∃ o', h'.get? b = some o'
  tups : ∀ b xs, H b = some (.tup xs) → H' b = some (.tup xs)
  frzs : ∀ b o u, H b = some (.frz o u) → H' b = some (.frz o u)
  tbls : ∀ b ps, H b = some (.tbl ps) → ∃ more, H' b = some (.tbl (ps ++ more))
section
variable {fs fs' ex ex' : List Addr} {H H1 H2 : Hp} {h h1 h2 h' : Heap} {a x e : Addr} {o : HO}
theorem Un.any (u : Un fs ex H H1 h h1) {b : Addr} {ob : Obj} (q : h.get? b = some ob) (n : H b = none) (hx : b ∉ ex) : ∃ sl, h1.get? b = some { ob with slots := sl } := by
  by_cases hb : b ∈ fs
  · exact u.slot b ob q n hb hx
  · exact ⟨ob.slots, u.keep b ob q n hb hx⟩
theorem Un.kept (k : ∀ b u, h.get? b = some u → h'.get? b = some u) : Un fs ex H H h h' :=
  ⟨fun b ob q _ _ _ => k b ob q, fun b ob q _ _ _ => ⟨ob.slots, k b ob q⟩, fun _ _ _ n _ => n, fun b ob q _ => ⟨ob, k b ob q⟩, fun _ _ q => q, fun _ _ _ q => q, fun _ ps q => ⟨#[], by rw [q]; simp⟩⟩
theorem Un.refl : Un fs ex H H h h := Un.kept fun _ _ q => q
theorem Un.laid (k : ∀ b u, h.get? b = some u → h'.get? b = some u) (hp : h.objs.size ≤ a) (hn : H a = none) : Un fs ex H (upd H a o) h h' where
  keep := fun b u q _ _ _ => k b u q
  slot := fun b u q _ _ _ => ⟨u.slots, k b u q⟩
  free := fun b u q n _ => by rw [upd_ne (Nat.ne_of_lt (Nat.lt_of_lt_of_le (Heap.lt_size q) hp))]; exact n
  there := fun b u q _ => ⟨u, k b u q⟩
  tups := fun b xs q => by rw [upd_ne (ne_of_none q hn)]; exact q
  frzs := fun b u xs q => by rw [upd_ne (ne_of_none q hn)]; exact q
  tbls := fun b ps q => ⟨#[], by rw [upd_ne (ne_of_none q hn), q]; simp⟩
theorem Un.write (mu : Mut (H x)) (he : e = x ∨ H e = some (.own x)) (k : ∀ b u, b ≠ e → h.get? b = some u → h'.get? b = some u) (heo : ∃ u, h'.get? e = some u) : Un fs ex H (upd H x o) h h' := by
  have hx : ∀ b, H b = none → b ≠ x := fun b n z => by subst z; rw [n] at mu; exact mu
  have hb : ∀ b, H b = none → b ≠ e := fun b n z => by
    subst z
    rcases he with r | r
    · exact hx b n r
    · rw [n] at r; cases r
  have hm : ∀ b u, H b = some u → ¬ Mut (some u) → b ≠ x := fun b u q nm z => by subst z; rw [q] at mu; exact nm mu
  refine ⟨fun b u q n _ _ => k b u (hb b n) q, fun b u q n _ _ => ⟨u.slots, k b u (hb b n) q⟩, fun b u q n _ => by rw [upd_ne (hx b n)]; exact n, fun b u q _ => ?_,
    fun b xs q => by rw [upd_ne (hm b _ q fun z => z)]; exact q, fun b u xs q => by rw [upd_ne (hm b _ q fun z => z)]; exact q, fun b ps q => ⟨#[], by rw [upd_ne (hm b _ q fun z => z), q]; simp⟩⟩
  by_cases hbe : b = e
  · subst hbe; exact heo
  · exact ⟨u, k b u hbe q⟩
end
def trk (h : Heap) (H : Hp) : List Addr := (List.range h.objs.size).filter fun a => (H a).isSome
def hidT (h : Heap) (H : Hp) : Heap := PySem.W.hideAll h (trk h H)
theorem hidT_size (h : Heap) (H : Hp) : (hidT h H).objs.size = h.objs.size := PySem.W.hideAll_size _ _
theorem hidT_get {h : Heap} {H : Hp} {b : Addr} {o : Obj} (e : h.get? b = some o) (n : H b = none) : (hidT h H).get? b = some o :=
  PySem.W.hideAll_get _ e fun hm => by
    have q : (H b).isSome = true := (List.mem_filter.mp hm).2
    rw [n] at q; simp at q
theorem of_hidT {h : Heap} {H : Hp} {b : Addr} {o : Obj} (e : (hidT h H).get? b = some o) : h.get? b = some o ∧ H b = none := by
  have e' : h.get? b = some o := PySem.W.of_hideAll (trk h H) e
  refine ⟨e', ?_⟩
  cases q : H b with
  | none => rfl
  | some x =>
    have hm : b ∈ trk h H := List.mem_filter.mpr ⟨List.mem_range.mpr (Heap.lt_size e'), by simp [q]⟩
    have z : (hidT h H).get? b = none := PySem.W.hideAll_none (trk h H) hm
    rw [z] at e; cases e
end L2
namespace L2
open PySem PySem.Spec PyProof.Rows
structure Mod (K : PySem.W.Frag) (mg : Str → Option Value) (base : Heap) : Prop where
  kin : K.In base
  glob : base.Ns mainGlobals mg
  blt : ∃ mb, base.Ns builtinsNs mb ∧ ∀ x : Str, x ≠ "__name__" → mb x = bootBuiltins x
  nolimit : base.NoLimit
structure Cx where
  prog : Program
  w : World
  K : PySem.W.Frag
  mg : Str → Option Value
  base : Heap
  A : Around
  N : List Str
  s_0 : Shared
  H_0 : Hp
  env : Env
  outer : List Env
  stack : List Env
  ex : List Addr
  fn : Str → Bool
  calm : Bool
  pn : List (Addr × Obj)
  xe : Value → Shared → Prop
def frs (l : List Env) : List Addr := l.filterMap (·.frame)
abbrev Cx.fs (X : Cx) : List Addr := frs X.outer
def Vis (sc : Scope) (x : Str) : Prop := sc.names.lookup x = some .local ∨ sc.names.lookup x = some .cell ∨ sc.names.lookup x = some .free
def Loc (sc : Scope) (x : Str) : Prop := sc.names.lookup x = some .local ∨ sc.names.lookup x = some .cell
def Look (env : Env) (h : Heap) (m : Str → Option Value) (x : Str) (u : Value) : Prop :=
  (env.kindOf x = some .local ∧ m x = some u) ∨ ((env.kindOf x = some .cell ∨ env.kindOf x = some .free) ∧ ∃ c, env.cells.lookup x = some c ∧ h.IsCell c (some u))
structure Cx.Ok (X : Cx) : Prop where
  mod : Mod X.K X.mg X.base
  kind : X.env.scope.kind = .function
  glob : X.env.globals = mainGlobals
  blt : X.env.builtins = builtinsNs
  above : X.s_0.heap.objs.size ≤ X.env.locals
  inj : ∀ x y c, X.env.cells.lookup x = some c → X.env.cells.lookup y = some c → x = y
  has : ∀ x, (X.env.kindOf x = some .cell ∨ X.env.kindOf x = some .free) → ∃ c, X.env.cells.lookup x = some c
  cab : ∀ x c, X.fn x = true → X.env.cells.lookup x = some c → X.s_0.heap.objs.size ≤ c
  hd : X.calm = true → X.A.handled = none
  frames : X.A.frames = some X.stack
  stk : X.stack = X.outer ∨ (X.stack = X.env :: X.outer ∧ X.env.frame = some X.env.locals)
  exf : ∀ b ∈ X.ex, b ≠ X.env.locals ∧ ∀ x c, X.env.cells.lookup x = some c → c ≠ b
  bs : ∀ b o, X.base.get? b = some o → X.s_0.heap.get? b = some o ∧ X.H_0 b = none
  bsz : X.base.objs.size ≤ X.s_0.heap.objs.size
  noex : ∀ b o, X.base.get? b = some o → b ∉ X.ex
  exfs : ∀ b ∈ X.ex, b ∉ X.fs
  funs : X.s_0.heap.FunFrames X.base X.outer
  frf : ∀ b ∈ X.fs, X.H_0 b = none
structure Inv (X : Cx) (pins : List (Addr × Obj)) (σ : List (Option V)) (H : Hp) (s : Shared) : Prop where
  ok : X.Ok
  os : s.os = X.s_0.os
  bare : AllBare s.gens
  base : Un X.fs X.ex X.H_0 H X.s_0.heap s.heap
  loc : ∃ m, s.heap.Ns X.env.locals m ∧ ∀ (i : Nat) (x : Str) (v : V), X.N[i]? = some x → σ[i]? = some (some v) → Vis X.env.scope x → ∃ u, RelV v u ∧ Look X.env s.heap m x u
  cell : ∀ x c, X.env.cells.lookup x = some c → ∃ v, s.heap.IsCell c v
  free : H X.env.locals = none
  freeC : ∀ x c, X.env.cells.lookup x = some c → H c = none
  pin : ∀ p ∈ X.pn ++ pins, s.heap.get? p.1 = some p.2 ∧ H p.1 = none ∧ p.1 ≠ X.env.locals ∧ p.1 ∉ X.fs ∧ ∀ v, p.2.data ≠ .cell v
  hok : HOk X.prog X.w H s.heap
  len : σ.length = X.N.length
section
variable {X : Cx} {pins : List (Addr × Obj)} {σ : List (Option V)} {H H' : Hp} {s : Shared} {h' : Heap}
theorem Cx.Ok.nofr (ok : X.Ok) {b : Addr} {o : Obj} (e : X.base.get? b = some o) : b ∉ X.fs := fun hb => by
  have := (ok.funs.mem hb).1
  rw [e] at this; cases this
theorem Inv.bs (I : Inv X pins σ H s) : ∀ b o, X.base.get? b = some o → s.heap.get? b = some o ∧ H b = none := fun b o e =>
  ⟨I.base.keep b o (I.ok.bs b o e).1 (I.ok.bs b o e).2 (I.ok.nofr e) (I.ok.noex b o e), I.base.free b o (I.ok.bs b o e).1 (I.ok.bs b o e).2 (I.ok.noex b o e)⟩
theorem Inv.bk (I : Inv X pins σ H s) : ∀ b o, X.base.get? b = some o → s.heap.get? b = some o := fun b o e => (I.bs b o e).1
theorem Inv.mod (I : Inv X pins σ H s) : Mod X.K X.mg X.base := I.ok.mod
theorem Inv.kIn (I : Inv X pins σ H s) : X.K.In s.heap := I.ok.mod.kin.keeps I.bk
theorem Inv.fr (I : Inv X pins σ H s) : ∃ m, Fr X.base X.env.locals s.heap m :=
  let ⟨m, hn, _⟩ := I.loc
  ⟨m, hn, I.bk, Nat.le_trans I.ok.bsz I.ok.above⟩
theorem Inv.lt (I : Inv X pins σ H s) : X.env.locals < s.heap.objs.size := let ⟨_, hn, _⟩ := I.loc; hn.lt
theorem Inv.sz (I : Inv X pins σ H s) : X.s_0.heap.objs.size ≤ s.heap.objs.size := Nat.le_trans I.ok.above (Nat.le_of_lt I.lt)
theorem Inv.nofs (I : Inv X pins σ H s) {a : Addr} (h : s.heap.objs.size ≤ a) : a ∉ X.fs := fun hb => by
  obtain ⟨_, o, ho, _⟩ := I.ok.funs.mem hb
  exact absurd (Nat.lt_of_lt_of_le (Heap.lt_size ho) (Nat.le_trans I.sz h)) (Nat.lt_irrefl _)
theorem Inv.cne (I : Inv X pins σ H s) : ∀ x c, X.env.cells.lookup x = some c → c ≠ X.env.locals := fun x c e z => by
  obtain ⟨v, o, ho, hd⟩ := I.cell x c e
  obtain ⟨m, ⟨o', es, ep, ho', hd', _⟩, _⟩ := I.loc
  rw [z, ho'] at ho; cases ho; rw [hd'] at hd; cases hd
theorem Inv.funs (I : Inv X pins σ H s) : s.heap.FunFrames X.base X.outer := by
  have all : ∀ (l : List Env), (∀ b ∈ frs l, b ∈ X.fs) → X.s_0.heap.FunFrames X.base l → s.heap.FunFrames X.base l := by
    intro l
    induction l with
    | nil => intro _ _; trivial
    | cons env r ih =>
      intro hs hl
      obtain ⟨hk, ⟨L, o, hf, hn, ho, hd⟩, hr⟩ := hl
      have hL : L ∈ X.fs := hs L (by unfold frs; rw [List.filterMap_cons, hf]; exact List.mem_cons_self)
      obtain ⟨sl, e⟩ := I.base.slot L o ho (I.ok.frf L hL) hL fun z => I.ok.exfs L z hL
      exact ⟨hk, ⟨L, _, hf, hn, e, hd⟩, ih (fun b hb => hs b (by unfold frs; rw [List.filterMap_cons, hf]; exact List.mem_cons_of_mem _ hb)) hr⟩
  exact all X.outer (fun _ hb => hb) I.ok.funs
theorem Inv.stack (I : Inv X pins σ H s) : s.heap.FunFrames X.base X.stack := by
  rcases I.ok.stk with e | ⟨e, hf⟩
  · rw [e]; exact I.funs
  · rw [e]
    obtain ⟨m, hn, _⟩ := I.loc
    refine .cons (by rw [I.ok.kind]; decide) hf hn ?_ I.funs
    exact Heap.get?_none_of_le (Nat.le_trans I.ok.bsz I.ok.above)
theorem Inv.stkSub (I : Inv X pins σ H s) : ∀ b ∈ frs X.stack, b ∈ X.env.locals :: X.fs := fun b hb => by
  rcases I.ok.stk with e | ⟨e, hf⟩
  · rw [e] at hb; exact List.mem_cons_of_mem _ hb
  · rw [e] at hb
    unfold frs at hb
    rw [List.filterMap_cons, hf] at hb
    exact hb
theorem Inv.stkFree (I : Inv X pins σ H s) : ∀ b ∈ frs X.stack, H b = none := fun b hb => by
  rcases List.mem_cons.mp (I.stkSub b hb) with e | hb
  · rw [e]; exact I.free
  · obtain ⟨_, o, ho, _⟩ := I.ok.funs.mem hb
    exact I.base.free b o ho (I.ok.frf b hb) fun z => I.ok.exfs b z hb
theorem Inv.step {g' : Array GenState} {t' : Nat} {d' : Drawn} {ch : List Addr} (I : Inv X pins σ H s)
    (hch : ∀ b ∈ ch, (b ∈ X.ex ∨ X.s_0.heap.objs.size ≤ b) ∧ b ≠ X.env.locals ∧ (∀ x c, X.env.cells.lookup x = some c → c ≠ b) ∧ ∀ p ∈ X.pn ++ pins, p.1 ≠ b)
    (keep : ∀ b o, b ≠ X.env.locals → b ∉ X.fs → b ∉ ch → s.heap.get? b = some o → H b = none → h'.get? b = some o)
    (slot : ∀ b o, b ≠ X.env.locals → b ∈ X.fs → b ∉ ch → s.heap.get? b = some o → H b = none → ∃ sl, h'.get? b = some { o with slots := sl }) (free : ∀ b o, b ∉ ch → s.heap.get? b = some o → H b = none → H' b = none)
    (there : ∀ b o, b ∉ ch → s.heap.get? b = some o → ∃ o', h'.get? b = some o')
    (tups : ∀ b xs, H b = some (.tup xs) → H' b = some (.tup xs)) (frzs : ∀ b o u, H b = some (.frz o u) → H' b = some (.frz o u)) (tbls : ∀ b ps, H b = some (.tbl ps) → ∃ more, H' b = some (.tbl (ps ++ more)))
    (ns : ∀ m, s.heap.Ns X.env.locals m → h'.Ns X.env.locals m) (hok : HOk X.prog X.w H' h') (hg : AllBare g') :
    Inv X pins σ H' { s with heap := h', gens := g', drawn := d', toks := t' } := by
  have neL : ∀ b o, X.s_0.heap.get? b = some o → b ≠ X.env.locals := fun b o e => Nat.ne_of_lt (Nat.lt_of_lt_of_le (Heap.lt_size e) I.ok.above)
  have neC : ∀ b o, X.s_0.heap.get? b = some o → b ∉ X.ex → b ∉ ch := fun b o e hx hb => by
    rcases (hch b hb).1 with z | z
    · exact hx z
    · exact absurd (Nat.lt_of_lt_of_le (Heap.lt_size e) z) (Nat.lt_irrefl _)
  have cellK : ∀ x c, X.env.cells.lookup x = some c → ∀ v, s.heap.IsCell c v → h'.IsCell c v := fun x c e v ⟨o, ho, hd⟩ => by
    have nch : c ∉ ch := fun z => (hch c z).2.2.1 x c e rfl
    by_cases hc : c ∈ X.fs
    · obtain ⟨sl, q⟩ := slot c o (I.cne x c e) hc nch ho (I.freeC x c e)
      exact ⟨_, q, hd⟩
    · exact ⟨o, keep c o (I.cne x c e) hc nch ho (I.freeC x c e), hd⟩
  refine ⟨I.ok, I.os, hg, ⟨fun b o e n hb hx => ?_, fun b o e n hb hx => ?_, fun b o e n hx => ?_, fun b o e hx => ?_, fun b xs e => tups b xs (I.base.tups b xs e), fun b o xs e => frzs b o xs (I.base.frzs b o xs e), fun b ps e => ?_⟩, ?_, fun x c e => ?_, ?_, fun x c e => ?_, fun p hp => ?_, hok, I.len⟩
  · exact keep b o (neL b o e) hb (neC b o e hx) (I.base.keep b o e n hb hx) (I.base.free b o e n hx)
  · obtain ⟨sl, e1⟩ := I.base.slot b o e n hb hx
    obtain ⟨sl', e2⟩ := slot b _ (neL b o e) hb (neC b o e hx) e1 (I.base.free b o e n hx)
    exact ⟨sl', e2⟩
  · obtain ⟨o', e1⟩ := I.base.there b o e hx
    exact free b o' (neC b o e hx) e1 (I.base.free b o e n hx)
  · obtain ⟨o', e1⟩ := I.base.there b o e hx
    exact there b o' (neC b o e hx) e1
  · obtain ⟨m1, e1⟩ := I.base.tbls b ps e
    obtain ⟨m2, e2⟩ := tbls b _ e1
    exact ⟨m1 ++ m2, by rw [e2, Array.append_assoc]⟩
  · obtain ⟨m, hn, hl⟩ := I.loc
    refine ⟨m, ns m hn, fun i x v e1 e2 e3 => ?_⟩
    obtain ⟨u, r, l⟩ := hl i x v e1 e2 e3
    refine ⟨u, r, ?_⟩
    rcases l with l | ⟨k, c, e, z⟩
    · exact .inl l
    · exact .inr ⟨k, c, e, cellK x c e _ z⟩
  · obtain ⟨v, z⟩ := I.cell x c e
    exact ⟨v, cellK x c e v z⟩
  · obtain ⟨m, ⟨o, _, _, ho, _⟩, _⟩ := I.loc
    exact free _ o (fun z => (hch _ z).2.1 rfl) ho I.free
  · obtain ⟨v, o, ho, hd⟩ := I.cell x c e
    exact free c o (fun z => (hch c z).2.2.1 x c e rfl) ho (I.freeC x c e)
  · obtain ⟨e, n, ne, nf, d⟩ := I.pin p hp
    have nch : p.1 ∉ ch := fun z => (hch p.1 z).2.2.2 p hp rfl
    exact ⟨keep p.1 p.2 ne nf nch e n, free p.1 p.2 nch e n, ne, nf, d⟩
theorem Inv.un {t' : Nat} (I : Inv X pins σ H s) (u : Un X.fs [] H H' s.heap h') (hok : HOk X.prog X.w H' h') : Inv X pins σ H' { s with heap := h', toks := t' } := by
  obtain ⟨m, ⟨o, es, ep, ho, r⟩, _⟩ := id I.loc
  obtain ⟨sl, hL⟩ := u.any ho I.free (by simp)
  exact I.step (g' := s.gens) (d' := s.drawn) (ch := []) (fun _ z => nomatch z) (fun b o _ hb _ e n => u.keep b o e n hb (by simp)) (fun b o _ hb _ e n => u.slot b o e n hb (by simp)) (fun b o _ e n => u.free b o e n (by simp)) (fun b o _ e => u.there b o e (by simp)) u.tups u.frzs u.tbls (fun m' hm => by
    obtain ⟨o', es', ep', ho', r'⟩ := hm
    rw [ho] at ho'; cases ho'
    exact ⟨_, es', ep', hL, r'⟩) hok I.bare
theorem Inv.call {g' : Array GenState} {t' : Nat} {d' : Drawn} {ch : List Addr} (I : Inv X pins σ H s) (u : Un (frs X.stack) ch H H' s.heap h') (hok : HOk X.prog X.w H' h') (hg : AllBare g')
    (hch : ∀ b ∈ ch, (b ∈ X.ex ∨ X.s_0.heap.objs.size ≤ b) ∧ b ≠ X.env.locals ∧ (∀ x c, X.env.cells.lookup x = some c → c ≠ b) ∧ ∀ p ∈ X.pn ++ pins, p.1 ≠ b) :
    Inv X pins σ H' { s with heap := h', gens := g', drawn := d', toks := t' } := by
  obtain ⟨m, ⟨o, es, ep, ho, r⟩, _⟩ := id I.loc
  obtain ⟨sl, hL⟩ := u.any ho I.free fun z => (hch _ z).2.1 rfl
  exact I.step (ch := ch) hch (fun b o hL hb hc e n => u.keep b o e n (fun z => (List.mem_cons.mp (I.stkSub b z)).elim hL hb) hc) (fun b o _ _ hc e n => u.any e n hc) (fun b o hc e n => u.free b o e n hc) (fun b o hc e => u.there b o e hc) u.tups u.frzs u.tbls (fun m' hm => by
    obtain ⟨o', es', ep', ho', r'⟩ := hm
    rw [ho] at ho'; cases ho'
    exact ⟨_, es', ep', hL, r'⟩) hok hg
theorem Inv.turned {t' : Nat} {it : Addr} (I : Inv X pins σ H s) (k : ∀ b o, b ≠ it → s.heap.get? b = some o → h'.get? b = some o) (hn : H it = none) (hL : it ≠ X.env.locals)
    (h1 : it ∈ X.ex ∨ X.s_0.heap.objs.size ≤ it) (h2 : ∀ x c, X.env.cells.lookup x = some c → c ≠ it) (h3 : ∀ p ∈ X.pn ++ pins, p.1 ≠ it) : Inv X pins σ H { s with heap := h', toks := t' } := by
  have nit : ∀ b u, H b = some u → b ≠ it := fun b u e z => by rw [z, hn] at e; cases e
  refine I.step (g' := s.gens) (d' := s.drawn) (ch := [it]) (fun b hb => ?_) (fun b o _ _ hc e _ => k b o (fun z => hc (by simp [z])) e) (fun b o _ _ hc e _ => ⟨o.slots, k b o (fun z => hc (by simp [z])) e⟩) (fun _ _ _ _ n => n)
    (fun b o hc e => ⟨o, k b o (fun z => hc (by simp [z])) e⟩) (fun _ _ e => e) (fun _ _ _ e => e) (fun b ps e => ⟨#[], by rw [e]; simp⟩) (fun m hm => ?_) (fun b u e => ?_) I.bare
  · have e : b = it := by simpa using hb
    subst e
    exact ⟨h1, hL, h2, h3⟩
  · obtain ⟨o, es, ep, ho, r⟩ := hm
    exact ⟨o, es, ep, k _ o (Ne.symm hL) ho, r⟩
  · refine (I.hok b u e).stay (fun c v hc q => k c v ?_ q) (fun _ q => q) fun _ _ q => q
    rcases hc with z | z
    · rw [z]; exact nit b u e
    · exact nit c _ z
theorem Inv.tok (I : Inv X pins σ H s) (t : Nat) : Inv X pins σ H { s with toks := t } := I.un (h' := s.heap) (t' := t) Un.refl I.hok
theorem Inv.kept {t' : Nat} (I : Inv X pins σ H s) (k : ∀ b u, s.heap.get? b = some u → h'.get? b = some u) : Inv X pins σ H { s with heap := h', toks := t' } := I.un (Un.kept k) (I.hok.kept k)
theorem Inv.laid {a : Addr} {o : HO} {t' : Nat} (I : Inv X pins σ H s) (k : ∀ b u, s.heap.get? b = some u → h'.get? b = some u) (hp : s.heap.objs.size ≤ a) (new : ObjOk X.prog X.w (upd H a o) h' a o) :
    Inv X pins σ (upd H a o) { s with heap := h', toks := t' } := I.un (Un.laid k hp (I.hok.fresh hp)) (I.hok.laid k hp new)
theorem Inv.write {x e : Addr} {o : HO} {t' : Nat} (I : Inv X pins σ H s) (mu : Mut (H x)) (he : e = x ∨ H e = some (.own x)) (k : ∀ b u, b ≠ e → s.heap.get? b = some u → h'.get? b = some u) (heo : ∃ u, h'.get? e = some u)
    (new : ObjOk X.prog X.w (upd H x o) h' x o) : Inv X pins σ (upd H x o) { s with heap := h', toks := t' } := I.un (Un.write mu he k heo) (I.hok.write mu he k heo new)
theorem Inv.weak {σ' : List (Option V)} (I : Inv X pins σ H s) (hl : σ'.length = σ.length) (w : ∀ (i : Nat) v, σ'[i]? = some (some v) → σ[i]? = some (some v)) : Inv X pins σ' H s :=
  ⟨I.ok, I.os, I.bare, I.base, let ⟨m, hn, hl'⟩ := I.loc; ⟨m, hn, fun i x v e1 e2 e3 => hl' i x v e1 (w i v e2) e3⟩, I.cell, I.free, I.freeC, I.pin, I.hok, hl.trans I.len⟩
theorem Inv.pins_of {pins' : List (Addr × Obj)} (I : Inv X pins σ H s) (h : ∀ p ∈ pins', s.heap.get? p.1 = some p.2 ∧ H p.1 = none ∧ p.1 ≠ X.env.locals ∧ p.1 ∉ X.fs ∧ ∀ v, p.2.data ≠ .cell v) : Inv X pins' σ H s :=
  ⟨I.ok, I.os, I.bare, I.base, I.loc, I.cell, I.free, I.freeC, fun p hp => (List.mem_append.mp hp).elim (fun z => I.pin p (List.mem_append_left _ z)) (h p), I.hok, I.len⟩
theorem nodup_ix {N : List Str} (hN : N.Nodup) {i j : Nat} {x : Str} (a : N[i]? = some x) (b : N[j]? = some x) : i = j := by
  obtain ⟨h1, e1⟩ := List.getElem?_eq_some_iff.mp a
  obtain ⟨h2, e2⟩ := List.getElem?_eq_some_iff.mp b
  exact (List.getElem_inj hN).mp (e1.trans e2.symm)
theorem store_ok2 {M : Model} {A : Around} {E : Value → Shared → Prop} {i : Nat} {x : Str} {v : V} {u : Value} {Q : Unit → Shared → Prop} (I : Inv X pins σ H s) (hN : X.N.Nodup) (hi : X.N[i]? = some x) (hx : Loc X.env.scope x) (r : RelV v u)
    (h : ∀ s', Inv X pins (σ.set i (some v)) H s' → (∃ a, Heap.SameBut a s.heap s'.heap ∧ (a = X.env.locals ∨ X.env.cells.lookup x = some a)) → Q () s') (hf : X.fn x = true ∨ X.env.scope.names.lookup x = some .local := by first | exact .inl rfl | exact .inr rfl | assumption) : wpAny M A (storeName X.env x u) Q E s := by
  obtain ⟨m, hn, hl⟩ := id I.loc
  have hcls : (X.env.scope.kind == .class || (X.env.scope.kind == .module && X.env.locals != X.env.globals)) = false := by rw [I.ok.kind]; rfl
  have hiσ : i < σ.length := by rw [I.len]; exact (List.getElem?_eq_some_iff.mp hi).1
  have cne := I.cne
  have tracked : ∀ {a : Addr} {h' : Heap}, (∃ o, s.heap.get? a = some o ∧ H a = none) → Heap.SameBut a s.heap h' → HOk X.prog X.w H h' := fun {a h'} ha hs b ob e => by
    obtain ⟨_, _, hfree⟩ := ha
    refine (I.hok b ob e).stay (fun c w' hc q => (hs.2 c ?_).trans q) (fun _ q => q) fun _ _ q => q
    rintro rfl
    rcases hc with rfl | hc
    · rw [hfree] at e; cases e
    · rw [hfree] at hc; cases hc
  rcases hx with hk | hk
  · refine wpAny_storeName_local hk hn (fun h' hn' hs => ?_) hcls
    obtain ⟨oL, _, _, hoL, _⟩ := id hn
    refine h _ ⟨I.ok, I.os, I.bare, ⟨fun b o e n hb hx => ?_, fun b o e n hb hx => ?_, I.base.free, fun b o e hx => ?_, I.base.tups, I.base.frzs, I.base.tbls⟩, ⟨_, hn', fun j y v' e1 e2 e3 => ?_⟩, fun y c e => ?_, I.free, I.freeC, fun p hp => ?_, tracked ⟨oL, hoL, I.free⟩ hs, by simpa using I.len⟩ ⟨_, hs, .inl rfl⟩
    · exact (hs.2 b (Nat.ne_of_lt (Nat.lt_of_lt_of_le (Heap.lt_size e) I.ok.above))).trans (I.base.keep b o e n hb hx)
    · obtain ⟨sl, e1⟩ := I.base.slot b o e n hb hx
      exact ⟨sl, (hs.2 b (Nat.ne_of_lt (Nat.lt_of_lt_of_le (Heap.lt_size e) I.ok.above))).trans e1⟩
    · obtain ⟨o', e1⟩ := I.base.there b o e hx
      exact ⟨o', (hs.2 b (Nat.ne_of_lt (Nat.lt_of_lt_of_le (Heap.lt_size e) I.ok.above))).trans e1⟩
    · by_cases hj : j = i
      · subst hj
        rw [hi] at e1; cases e1
        rw [List.getElem?_set_self hiσ] at e2
        cases e2
        exact ⟨u, r, .inl ⟨hk, by simp⟩⟩
      · rw [List.getElem?_set_ne (Ne.symm hj)] at e2
        obtain ⟨u', r', q⟩ := hl j y v' e1 e2 e3
        refine ⟨u', r', ?_⟩
        rcases q with ⟨k, e⟩ | ⟨k, c, e, z⟩
        · refine .inl ⟨k, ?_⟩
          have : y ≠ x := fun e => hj (nodup_ix hN e1 (e ▸ hi))
          simp [this, e]
        · exact .inr ⟨k, c, e, z.sameBut hs (cne y c e)⟩
    · obtain ⟨w', z⟩ := I.cell y c e
      exact ⟨w', z.sameBut hs (cne y c e)⟩
    · obtain ⟨e, n, ne, nf, d⟩ := I.pin p hp
      exact ⟨(hs.2 p.1 ne).trans e, n, ne, nf, d⟩
  · have hfn : X.fn x = true := by
      rcases hf with z | z
      · exact z
      · rw [z] at hk; cases hk
    obtain ⟨c, hc⟩ := I.ok.has x (.inl hk)
    obtain ⟨w', z⟩ := I.cell x c hc
    refine wpAny_storeName_cell I.ok.kind hk hc z (fun h' hc' hs => ?_)
    obtain ⟨oc, hoc, hocd⟩ := id z
    refine h { s with heap := h' } ⟨I.ok, I.os, I.bare, ⟨fun b o e n hb hx => ?_, fun b o e n hb hx => ?_, I.base.free, fun b o e hx => ?_, I.base.tups, I.base.frzs, I.base.tbls⟩, ⟨m, hn.sameBut hs (Ne.symm (cne x c hc)), fun j y v' e1 e2 e3 => ?_⟩, fun y c' e => ?_, I.free, I.freeC, fun p hp => ?_, tracked ⟨oc, hoc, I.freeC x c hc⟩ hs, by simpa using I.len⟩ ⟨c, hs, .inr hc⟩
    · exact (hs.2 b (Nat.ne_of_lt (Nat.lt_of_lt_of_le (Heap.lt_size e) (I.ok.cab x c hfn hc)))).trans (I.base.keep b o e n hb hx)
    · obtain ⟨sl, e1⟩ := I.base.slot b o e n hb hx
      exact ⟨sl, (hs.2 b (Nat.ne_of_lt (Nat.lt_of_lt_of_le (Heap.lt_size e) (I.ok.cab x c hfn hc)))).trans e1⟩
    · obtain ⟨o', e1⟩ := I.base.there b o e hx
      exact ⟨o', (hs.2 b (Nat.ne_of_lt (Nat.lt_of_lt_of_le (Heap.lt_size e) (I.ok.cab x c hfn hc)))).trans e1⟩
    · by_cases hj : j = i
      · subst hj
        rw [hi] at e1; cases e1
        rw [List.getElem?_set_self hiσ] at e2
        cases e2
        exact ⟨u, r, .inr ⟨.inl hk, c, hc, hc'⟩⟩
      · rw [List.getElem?_set_ne (Ne.symm hj)] at e2
        obtain ⟨u', r', q⟩ := hl j y v' e1 e2 e3
        refine ⟨u', r', ?_⟩
        rcases q with q | ⟨k, c', e, z'⟩
        · exact .inl q
        · refine .inr ⟨k, c', e, z'.sameBut hs ?_⟩
          rintro rfl
          exact hj (nodup_ix hN e1 (I.ok.inj _ _ _ e hc ▸ hi))
    · by_cases hcc : c' = c
      · subst hcc; exact ⟨_, hc'⟩
      · obtain ⟨w2, z2⟩ := I.cell y c' e
        exact ⟨w2, z2.sameBut hs hcc⟩
    · obtain ⟨e, n, ne, nf, d⟩ := I.pin p hp
      refine ⟨(hs.2 p.1 ?_).trans e, n, ne, nf, d⟩
      intro q
      rw [q, hoc] at e
      have q' : oc = p.2 := Option.some.inj e
      exact d w' (by rw [← q']; exact hocd)
theorem store_ok {M : Model} {A : Around} {E : Value → Shared → Prop} {i : Nat} {x : Str} {v : V} {u : Value} {Q : Unit → Shared → Prop} (I : Inv X pins σ H s) (hN : X.N.Nodup) (hi : X.N[i]? = some x) (hx : Loc X.env.scope x) (r : RelV v u)
    (h : ∀ s', Inv X pins (σ.set i (some v)) H s' → Q () s') (hf : X.fn x = true ∨ X.env.scope.names.lookup x = some .local := by first | exact .inl rfl | exact .inr rfl | assumption) : wpAny M A (storeName X.env x u) Q E s :=
  store_ok2 I hN hi hx r (fun s' I' _ => h s' I') hf
theorem Inv.call' {s' : Shared} {ch : List Addr} (I : Inv X pins σ H s) (ho : s'.os = s.os) (u : Un (frs X.stack) ch H H' s.heap s'.heap) (hok : HOk X.prog X.w H' s'.heap) (hg : AllBare s'.gens)
    (hch : ∀ b ∈ ch, (b ∈ X.ex ∨ X.s_0.heap.objs.size ≤ b) ∧ b ≠ X.env.locals ∧ (∀ x c, X.env.cells.lookup x = some c → c ≠ b) ∧ ∀ p ∈ X.pn ++ pins, p.1 ≠ b) : Inv X pins σ H' s' := by
  obtain ⟨h', g', d', t', o'⟩ := s'
  have e : o' = s.os := ho
  subst e
  exact I.call (g' := g') (t' := t') (d' := d') u hok hg hch
end
abbrev XK := Value → Option Addr → Hp → Prop
abbrev St := List (Option V)
abbrev VK := V → Hp → Prop
abbrev TE := St → Hp → VK → Prop
abbrev TT := St → Hp → (Bool → Hp → Prop) → Prop
abbrev TA := St → Hp → (List V → Hp → Prop) → Prop
structure Ends where
  nx : St → Hp → Prop
  rt : VK
  bk : St → Hp → Prop := fun _ _ => False
  ct : St → Hp → Prop := fun _ _ => False
abbrev TS := Ends → St → Hp → Prop
def EP (X : Cx) (pins : List (Addr × Obj)) (σ : St) (Q : VK) (u : Value) (s' : Shared) : Prop := ∃ v H', Inv X pins σ H' s' ∧ RelV v u ∧ Q v H'
def TP (X : Cx) (pins : List (Addr × Obj)) (σ : St) (Q : Bool → Hp → Prop) (b : Bool) (s' : Shared) : Prop := ∃ H', Inv X pins σ H' s' ∧ Q b H'
def AP (X : Cx) (pins : List (Addr × Obj)) (σ : St) (Q : List V → Hp → Prop) (us : List Value) (s' : Shared) : Prop := ∃ vs H', Inv X pins σ H' s' ∧ Vals vs us ∧ Q vs H'
def SP (X : Cx) (pins : List (Addr × Obj)) (D : Ends) (f : Flow) (s' : Shared) : Prop :=
  match f with
  | .next => ∃ σ' H', Inv X pins σ' H' s' ∧ D.nx σ' H'
  | .brk => ∃ σ' H', Inv X pins σ' H' s' ∧ D.bk σ' H'
  | .cont => ∃ σ' H', Inv X pins σ' H' s' ∧ D.ct σ' H'
  | .ret u => ∃ v σ' H', Inv X pins σ' H' s' ∧ RelV v u ∧ D.rt v H'
def PE (X : Cx) (e : Expr) (t : TE) : Prop :=
  ∀ (pins : List (Addr × Obj)) (s : Shared) (σ : St) (H : Hp) (Q : VK), Inv X pins σ H s → t σ H Q → wpAny (model X.prog X.w) X.A (eval e X.env) (EP X pins σ Q) X.xe s
def PT (X : Cx) (e : Expr) (t : TT) : Prop :=
  ∀ (pins : List (Addr × Obj)) (s : Shared) (σ : St) (H : Hp) (Q : Bool → Hp → Prop), Inv X pins σ H s → t σ H Q → wpAny (model X.prog X.w) X.A (isTrue e X.env (eval e X.env)) (TP X pins σ Q) X.xe s
def PW (X : Cx) (e : Expr) (t : TT) : Prop :=
  ∀ (whole : Sem Value) (pins : List (Addr × Obj)) (s : Shared) (σ : St) (H : Hp) (Q : Bool → Hp → Prop), Inv X pins σ H s → t σ H Q → wpAny (model X.prog X.w) X.A (isTrue e X.env whole) (TP X pins σ Q) X.xe s
theorem PW.pt {X : Cx} {e : Expr} {t : TT} (h : PW X e t) : PT X e t := h _
def PA (X : Cx) (es : List Expr) (t : TA) : Prop :=
  ∀ (pos : Pos) (pins : List (Addr × Obj)) (s : Shared) (σ : St) (H : Hp) (Q : List V → Hp → Prop), Inv X pins σ H s → t σ H Q → wpAny (model X.prog X.w) X.A (spliced (backTo pos (starEach es X.env))) (AP X pins σ Q) X.xe s
def PS (X : Cx) (st : Stmt) (t : TS) : Prop :=
  ∀ (pins : List (Addr × Obj)) (s : Shared) (σ : St) (H : Hp) (D : Ends), Inv X pins σ H s → t D σ H → wpAny (model X.prog X.w) X.A (exec st X.env) (SP X pins D) X.xe s
def PSs (X : Cx) (st : List Stmt) (t : TS) : Prop :=
  ∀ (pins : List (Addr × Obj)) (s : Shared) (σ : St) (H : Hp) (D : Ends), Inv X pins σ H s → t D σ H → wpAny (model X.prog X.w) X.A (execs st X.env) (SP X pins D) X.xe s
theorem thn {α : Type} {t : Sem α} {Q Q' : α → Shared → Prop} {M : Model} {A : Around} {E : Value → Shared → Prop} {s : Shared} (h : wpAny M A t Q E s) (hQ : ∀ a s, Q a s → Q' a s) : wpAny M A t Q' E s := wpAny_mono h hQ fun _ _ x => x
end L2
namespace L2
open PySem PySem.Spec PyProof.Rows
section
variable {X : Cx}
theorem bin {a b : Expr} {ta tb : TE} (ha : PE X a ta) (hb : PE X b tb) {pins : List (Addr × Obj)} {s : Shared} {σ : St} {H : Hp} {R : V → V → Hp → Prop} (I : Inv X pins σ H s) (h : ta σ H fun x H1 => tb σ H1 fun y H2 => R x y H2)
    {α : Type} {Q : α → Shared → Prop} {f : Value → Value → Sem α}
    (hf : ∀ v u s2 x y H2, Inv X pins σ H2 s2 → RelV x v → RelV y u → R x y H2 → wpAny (model X.prog X.w) X.A (f v u) Q X.xe s2) :
    wpAny (model X.prog X.w) X.A (eval a X.env) (fun v s₁ => wpAny (model X.prog X.w) X.A (eval b X.env) (fun u s₂ => wpAny (model X.prog X.w) X.A (f v u) Q X.xe s₂) X.xe s₁) X.xe s := by
  refine thn (ha pins s σ H _ I h) fun v s1 ⟨x, H1, I1, r1, q1⟩ => ?_
  refine thn (hb pins s1 σ H1 _ I1 q1) fun u s2 ⟨y, H2, I2, r2, q2⟩ => ?_
  exact hf v u s2 x y H2 I2 r1 r2 q2
def tVar (i : Nat) : TE := fun σ H Q => ∃ v, σ[i]? = some (some v) ∧ Q v H
def tC (v : V) : TE := fun _ H Q => Q v H
theorem pe_var {i : Nat} {x : Str} {pos : Pos} (hN : X.N[i]? = some x) (hv : Vis X.env.scope x) (hd : (x == ("__debug__" : Str)) = false := by decide) (hcd : (x == ("__classdict__" : Str)) = false := by decide) : PE X (.Name x pos) (tVar i) := by
  intro pins s σ H Q I h
  obtain ⟨v, e, h⟩ := h
  obtain ⟨m, hn, hl⟩ := I.loc
  obtain ⟨u, r, l⟩ := hl i x v hN e hv
  have fin : EP X pins σ Q u s := ⟨v, H, I, r, h⟩
  rcases l with ⟨hk, hm⟩ | ⟨hk, c, hc, hcell⟩
  · exact wpAny_Name (wpAny_loadName_local I.ok.kind hk hn hm fin) hd
  · rcases hk with hk | hk
    · exact wpAny_Name (wpAny_loadName_cell I.ok.kind hk hc hcell fin) hd
    · exact wpAny_Name (wpAny_loadName_free I.ok.kind hk hc hcell fin hcd) hd
theorem pe_int {i j pos} : PE X (.Constant (.int i) j pos) (tC (.int i)) := fun _ _ _ H _ I h => wpAny_Constant_int ⟨.int i, H, I.tok _, ⟨_, rfl⟩, h⟩
theorem pe_non {j pos} : PE X (.Constant .none j pos) (tC .non) := fun _ _ _ H _ I h => Constant_none ⟨.non, H, I, rfl, h⟩
def Gl (X : Cx) (x : Str) : Prop := X.env.kindOf x = some .globalImplicit
theorem ld_glob {E : Value → Shared → Prop} {pins : List (Addr × Obj)} {s : Shared} {σ : St} {H : Hp} {x : Str} {u : Value} {pos : Pos} {Q : Value → Shared → Prop} (I : Inv X pins σ H s) (hg : Gl X x) (hm : X.mg x = some u) (h : Q u s)
    (hd : (x == ("__debug__" : Str)) = false := by decide) : wpAny (model X.prog X.w) X.A (eval (.Name x pos) X.env) Q E s :=
  Calls.Name_function_global I.ok.kind hg (Calls.loadGlobal_global (by rw [I.ok.glob]; exact I.mod.glob.keeps I.bk) hm h) hd
theorem ld_blt {E : Value → Shared → Prop} {pins : List (Addr × Obj)} {s : Shared} {σ : St} {H : Hp} {x : Str} {u : Value} {pos : Pos} {Q : Value → Shared → Prop} (I : Inv X pins σ H s) (hg : Gl X x) (hm : X.mg x = none) (hv : bootBuiltins x = some u) (h : Q u s)
    (hn : x ≠ "__name__" := by decide) (hd : (x == ("__debug__" : Str)) = false := by decide) : wpAny (model X.prog X.w) X.A (eval (.Name x pos) X.env) Q E s := by
  obtain ⟨mb, h1, h2⟩ := I.mod.blt
  exact Calls.Name_function_global I.ok.kind hg (Calls.loadGlobal_builtin (by rw [I.ok.glob]; exact I.mod.glob.keeps I.bk) hm (by rw [I.ok.blt]; exact h1.keeps I.bk) ((h2 x hn).trans hv) h) hd
theorem pe_glob {x : Str} {v : V} {u : Value} {pos : Pos} (hg : Gl X x) (hm : X.mg x = some u) (r : RelV v u) (hd : (x == ("__debug__" : Str)) = false := by decide) : PE X (.Name x pos) (tC v) :=
  fun _ _ _ H _ I h => ld_glob I hg hm ⟨v, H, I, r, h⟩ hd
variable {a b : Expr} {ta tb : TE} {pos : Pos}
def PC (X : Cx) (op : CmpOp) (a b : Expr) (t : TE) : Prop :=
  ∀ (pins : List (Addr × Obj)) (s : Shared) (σ : St) (H : Hp) (Q : VK), Inv X pins σ H s → t σ H Q →
    wpAny (model X.prog X.w) X.A (eval a X.env) (fun v s₁ => wpAny (model X.prog X.w) X.A (eval b X.env) (fun u s₂ => wpAny (model X.prog X.w) X.A (compareOp op v u) (EP X pins σ Q) X.xe s₂) X.xe s₁) X.xe s
theorem nobehind (b : Expr) {op : CmpOp} (h : op ≠ .In) (h2 : op ≠ .NotIn) : behindInMarks op b = false := by
  have e1 : (op == CmpOp.In) = false := by cases op <;> first | rfl | exact absurd rfl h
  have e2 : (op == CmpOp.NotIn) = false := by cases op <;> first | rfl | exact absurd rfl h2
  cases b <;> simp [behindInMarks, e1, e2]
def tIsN (ta : TE) : TE := fun σ H Q => ta σ H fun x H1 => Q (.bl (decide (x = .non))) H1
theorem RelV.none_iff {x : V} {v : Value} (r : RelV x v) : (v == Value.none) = decide (x = .non) := by
  cases x with
  | non => cases r; rfl
  | bl _ => cases r; rfl
  | int _ => obtain ⟨t, rfl⟩ := r; rfl
  | str _ => obtain ⟨t, rfl⟩ := r; rfl
  | byt _ => obtain ⟨t, rfl⟩ := r; rfl
  | flt _ => obtain ⟨t, rfl⟩ := r; rfl
  | ref _ => cases r; rfl
  | ty _ => cases r; rfl
theorem pc_isN {j pos'} (ha : PE X a ta) : PC X .Is a (.Constant .none j pos') (tIsN ta) := by
  intro pins s σ H Q I h
  refine thn (ha pins s σ H _ I h) fun v s1 ⟨x, H1, I1, r1, q1⟩ => ?_
  exact Constant_none (is_none_gen ⟨.bl _, H1, I1, by rw [r1.none_iff]; rfl, q1⟩)
def tB (t : TE) : TT := fun σ H Q => t σ H fun x H1 => ∃ c, x = .bl c ∧ Q c H1
theorem pt_cmp {op : CmpOp} {t : TE} (h : PC X op a b t) (h1 : behindInMarks op b = false := by first | exact nobehind _ (by decide) (by decide) | rfl) : PT X (.Compare a [op] [b] pos) (tB t) := by
  intro pins s σ H Q I hw
  refine wpAny_isTrue_Compare1 (thn (h pins s σ H _ I hw) fun v s1 h1 => thn h1 fun u s2 h2 => thn h2 fun c s3 ⟨x, H1, I1, r1, q1⟩ => ?_) h1
  obtain ⟨d, rfl, q⟩ := q1
  cases r1
  exact wpAny_truthy_bool ⟨H1, I1, q⟩
theorem pt_val {e : Expr} {t : TE} (h : PE X e t) (he : ∀ whole, isTrue e X.env whole = (do let v ← whole; standAt e.pos; holding [v] (truthy v)) := by intro _; rfl) : PT X e (tB t) := by
  intro pins s σ H Q I hw
  refine isTrue_plain (thn (h pins s σ H _ I hw) fun v s1 ⟨x, H1, I1, r1, q1⟩ => ?_) (he _)
  obtain ⟨d, rfl, q⟩ := q1
  cases r1
  exact wpAny_truthy_bool ⟨H1, I1, q⟩
variable {tA tB' : TT} {rest : List Expr}
def tAnd (t u : TT) : TT := fun σ H Q => t σ H fun c H1 => if c = true then u σ H1 Q else Q false H1
def tOr (t u : TT) : TT := fun σ H Q => t σ H fun c H1 => if c = true then Q true H1 else u σ H1 Q
def tNot (t : TT) : TT := fun σ H Q => t σ H fun c H1 => Q (!c) H1
theorem pw_and1 (ha : PT X a tA) : PW X (.BoolOp .And [a] pos) tA := by
  intro wh pins s σ H Q I h
  refine isTrue_and (thn (ha pins s σ H Q I h) fun c s1 e => ?_)
  cases c with
  | true => exact isTrue_and_nil e
  | false => exact e
theorem pw_or1 (ha : PT X a tA) : PW X (.BoolOp .Or [a] pos) tA := by
  intro wh pins s σ H Q I h
  refine isTrue_or (thn (ha pins s σ H Q I h) fun c s1 e => ?_)
  cases c with
  | false => exact isTrue_or_nil e
  | true => exact e
theorem pw_and (ha : PT X a tA) (hb : PW X (.BoolOp .And (b :: rest) pos) tB') : PW X (.BoolOp .And (a :: b :: rest) pos) (tAnd tA tB') := by
  intro wh pins s σ H Q I h
  refine isTrue_and (thn (ha pins s σ H _ I h) fun c s1 ⟨H1, I1, q1⟩ => ?_)
  cases c with
  | true => exact hb wh pins s1 σ H1 Q I1 q1
  | false => exact ⟨H1, I1, q1⟩
theorem pw_or (ha : PT X a tA) (hb : PW X (.BoolOp .Or (b :: rest) pos) tB') : PW X (.BoolOp .Or (a :: b :: rest) pos) (tOr tA tB') := by
  intro wh pins s σ H Q I h
  refine isTrue_or (thn (ha pins s σ H _ I h) fun c s1 ⟨H1, I1, q1⟩ => ?_)
  cases c with
  | true => exact ⟨H1, I1, q1⟩
  | false => exact hb wh pins s1 σ H1 Q I1 q1
theorem pt_not (ha : PT X a tA) : PT X (.UnaryOp .Not a pos) (tNot tA) := by
  intro pins s σ H Q I h
  exact isTrue_not (ha pins s σ H (fun c H1 => Q (!c) H1) I h)
def tAndV (ta tb : TE) : TE := fun σ H Q => ta σ H fun x H1 => ∃ c, x = .bl c ∧ if c = true then tb σ H1 Q else Q (.bl false) H1
theorem pe_one {op} {t : TE} (h : PE X a t) : PE X (.BoolOp op [a] pos) t := fun pins s σ H Q I hw => BoolOp_one (h pins s σ H Q I hw)
theorem pe_and (ha : PE X a ta) (hb : PE X (.BoolOp .And (b :: rest) pos) tb) : PE X (.BoolOp .And (a :: b :: rest) pos) (tAndV ta tb) := by
  intro pins s σ H Q I h
  refine BoolOp_and (thn (ha pins s σ H _ I h) fun v s1 ⟨x, H1, I1, r1, q1⟩ => ?_)
  obtain ⟨c, rfl, q1⟩ := q1
  cases r1
  refine wpAny_truthy_bool ?_
  cases c with
  | true => exact hb pins s1 σ H1 Q I1 q1
  | false => exact ⟨.bl false, H1, I1, rfl, q1⟩
end
end L2
namespace L2
open PySem PySem.Spec PyProof.Rows
def SqL (K : PySem.W.Frag) (H : Hp) (a : Addr) (xs : List V) : Prop :=
  Rd H a (.lst xs) ∨
    ∃ (o : Obj) (its : Array Value) (n : Nat), K.lookup a = some o ∧ o.cls = .type "list" ∧ o.dict = none ∧ o.data = .seq its n ∧ its.size ≤ sizeLine ∧ Vals xs its.toList
def SqT (K : PySem.W.Frag) (H : Hp) (a : Addr) (xs : List V) : Prop :=
  Rd H a (.tup xs) ∨
    ∃ (o : Obj) (its : Array Value) (n : Nat), K.lookup a = some o ∧ o.cls = .type "tuple" ∧ o.data = .seq its n ∧ its.size ≤ sizeLine ∧ Vals xs its.toList
def absV : Value → Option V
  | .none => some .non
  | .bool b => some (.bl b)
  | .int i _ => some (.int i)
  | .str x _ => some (.str x)
  | .bytes b _ => some (.byt b)
  | .float b _ => some (.flt b)
  | .ref a => some (.ref a)
  | .type n => some (.ty n)
  | _ => none
theorem RelV.abs {x : V} {u : Value} (r : RelV x u) : absV u = some x := by
  cases x with
  | non => cases r; rfl
  | bl _ => cases r; rfl
  | int _ => obtain ⟨t, rfl⟩ := r; rfl
  | str _ => obtain ⟨t, rfl⟩ := r; rfl
  | byt _ => obtain ⟨t, rfl⟩ := r; rfl
  | flt _ => obtain ⟨t, rfl⟩ := r; rfl
  | ref _ => cases r; rfl
  | ty _ => cases r; rfl
theorem RelV.inj {x y : V} {u : Value} (r : RelV x u) (q : RelV y u) : x = y := Option.some.inj (r.abs.symm.trans q.abs)
theorem Vals.inj : ∀ {xs ys : List V} {us : List Value}, Vals xs us → Vals ys us → xs = ys
  | _, _, _, .nil, .nil => rfl
  | _, _, _, .cons r t, .cons r' t' => by rw [r.inj r', Vals.inj t t']
section
variable {X : Cx} {pins : List (Addr × Obj)} {σ : St} {H : Hp} {s : Shared} {a : Addr} {xs ys : List V}
theorem SqL.of {K : PySem.W.Frag} (h : H a = some (.lst xs)) : SqL K H a xs := .inl (.inl h)
theorem SqT.of {K : PySem.W.Frag} (h : H a = some (.tup xs)) : SqT K H a xs := .inl (.inl h)
theorem Inv.list (I : Inv X pins σ H s) (h : SqL X.K H a xs) : ∃ its : List Value, Vals xs its ∧ PlainL s.heap a its.toArray ∧ xs.length ≤ sizeLine := by
  rcases h with h | ⟨o, its, n, hk, hc, hd, hs, hz, r⟩
  · obtain ⟨z, its, n, r, e⟩ := h.ok I.hok
    exact ⟨its, r, ⟨_, n, e, rfl, rfl, rfl⟩, z⟩
  · refine ⟨its.toList, r, ⟨o, n, I.kIn a o hk, hc, hd, by simpa using hs⟩, ?_⟩
    have e := r.length
    simp only [Array.length_toList] at e
    omega
theorem Inv.tuple (I : Inv X pins σ H s) (h : SqT X.K H a xs) : ∃ its : List Value, Vals xs its ∧ IsTup s.heap a its.toArray ∧ xs.length ≤ sizeLine := by
  rcases h with h | ⟨o, its, n, hk, hc, hs, hz, r⟩
  · obtain ⟨z, its, r, p⟩ := h.ok I.hok
    exact ⟨its, r, p, z⟩
  · refine ⟨its.toList, r, ⟨o, I.kIn a o hk, hc, n, by simpa using hs⟩, ?_⟩
    have e := r.length
    simp only [Array.length_toList] at e
    omega
theorem Inv.list_inj (I : Inv X pins σ H s) (h : SqL X.K H a xs) (h' : SqL X.K H a ys) : xs = ys := by
  obtain ⟨its, r, ⟨o, n, e, _, _, d⟩, _⟩ := I.list h
  obtain ⟨its', r', ⟨o', n', e', _, _, d'⟩, _⟩ := I.list h'
  rw [e] at e'; cases e'
  rw [d] at d'
  injection d' with d1 _
  have : its = its' := by simpa using congrArg Array.toList d1
  subst this
  exact r.inj r'
end
abbrev Cx.wish (X : Cx) (E : Value → Shared → Prop) : Cx := { X with xe := E }
abbrev Cx.nox (X : Cx) : Cx := X.wish fun _ _ => False
theorem Cx.Ok.wish {X : Cx} (ok : X.Ok) (E : Value → Shared → Prop) : (X.wish E).Ok :=
  ⟨ok.mod, ok.kind, ok.glob, ok.blt, ok.above, ok.inj, ok.has, ok.cab, ok.hd, ok.frames, ok.stk, ok.exf, ok.bs, ok.bsz, ok.noex, ok.exfs, ok.funs, ok.frf⟩
theorem Cx.Ok.unwish {X : Cx} {E : Value → Shared → Prop} (ok : (X.wish E).Ok) : X.Ok :=
  ⟨ok.mod, ok.kind, ok.glob, ok.blt, ok.above, ok.inj, ok.has, ok.cab, ok.hd, ok.frames, ok.stk, ok.exf, ok.bs, ok.bsz, ok.noex, ok.exfs, ok.funs, ok.frf⟩
section
variable {X : Cx} {pins : List (Addr × Obj)} {σ : St} {H : Hp} {s : Shared} {E : Value → Shared → Prop}
theorem Inv.wish (I : Inv X pins σ H s) (E : Value → Shared → Prop) : Inv (X.wish E) pins σ H s := ⟨I.ok.wish E, I.os, I.bare, I.base, I.loc, I.cell, I.free, I.freeC, I.pin, I.hok, I.len⟩
theorem Inv.unwish (I : Inv (X.wish E) pins σ H s) : Inv X pins σ H s := ⟨I.ok.unwish, I.os, I.bare, I.base, I.loc, I.cell, I.free, I.freeC, I.pin, I.hok, I.len⟩
theorem SP.unwish {D : Ends} {f : Flow} {s' : Shared} (h : SP (X.wish E) pins D f s') : SP X pins D f s' := by
  cases f with
  | next => obtain ⟨σ', H', I, q⟩ := h; exact ⟨σ', H', I.unwish, q⟩
  | brk => obtain ⟨σ', H', I, q⟩ := h; exact ⟨σ', H', I.unwish, q⟩
  | cont => obtain ⟨σ', H', I, q⟩ := h; exact ⟨σ', H', I.unwish, q⟩
  | ret u => obtain ⟨v, σ', H', I, r, q⟩ := h; exact ⟨v, σ', H', I.unwish, r, q⟩
theorem PSs.nox {st : List Stmt} {t : TS} (h : PSs X.nox st t) : PSs X st t := fun pins s σ H D I hw =>
  wpAny_mono (h pins s σ H D (I.wish _) hw) (fun _ _ q => q.unwish) fun _ _ z => False.elim z
end
section
variable {X : Cx} {st : Stmt} {rest : List Stmt} {t u : TS} {e : Expr} {te : TE} {pos : Pos}
def tNext : TS := fun D σ H => D.nx σ H
def tSeq (t u : TS) : TS := fun D σ H => t { D with nx := u D } σ H
theorem pss_nil : PSs X [] tNext := fun _ _ σ H _ I h => wpAny_execs_nil ⟨σ, H, I, h⟩
theorem pss_cons (h1 : PS X st t) (h2 : PSs X rest u) : PSs X (st :: rest) (tSeq t u) := by
  intro pins s σ H D I h
  refine wpAny_execs_cons (thn (h1 pins s σ H { D with nx := u D } I h) fun f s1 q => ?_)
  cases f with
  | next =>
    obtain ⟨σ', H', I', q⟩ := q
    exact h2 pins s1 σ' H' D I' q
  | ret v => exact q
  | brk => exact q
  | cont => exact q
theorem pss_one (h1 : PS X st t) : PSs X [st] t := by
  intro pins s σ H D I h
  refine wpAny_execs_cons (thn (h1 pins s σ H D I h) fun f s1 q => ?_)
  cases f with
  | next => exact wpAny_execs_nil q
  | ret v => exact q
  | brk => exact q
  | cont => exact q
def tCont : TS := fun D σ H => D.ct σ H
theorem ps_continue : PS X (.Continue pos) tCont := fun _ _ σ H _ I h => wpAny_Continue ⟨σ, H, I, h⟩
theorem Inv.quiet {pins : List (Addr × Obj)} {σ : St} {H : Hp} {s : Shared} (I : Inv X pins σ H s) : interactive X.env = false := by simp [interactive, I.ok.kind]
def tDrop (te : TE) : TS := fun D σ H => te σ H fun _ H1 => D.nx σ H1
theorem ps_expr (he : PE X e te) (hs : swapsWith e none pos.line X.env = pure false := by rfl) : PS X (.Expr e pos) (tDrop te) := by
  intro pins s σ H D I h
  exact wpAny_Expr_any (thn (he pins s σ H _ I h) fun v s1 ⟨x, H1, I1, r1, q1⟩ => ⟨σ, H1, I1, q1⟩) I.quiet hs
def tRet (te : TE) : TS := fun D σ H => te σ H D.rt
theorem ps_ret (he : PE X e te) : PS X (.Return (some e) pos) (tRet te) := by
  intro pins s σ H D I h
  exact wpAny_Return_some (thn (he pins s σ H _ I h) fun v s1 ⟨x, H1, I1, r1, q1⟩ => ⟨x, σ, H1, I1, r1, q1⟩)
def tIfS (c : TT) (t u : TS) : TS := fun D σ H => c σ H fun b H1 => if b = true then t D σ H1 else u D σ H1
theorem ps_if {c : Expr} {a b : List Stmt} {tc : TT} (hc : PT X c tc) (ha : PSs X a t) (hb : PSs X b u) : PS X (.If c a b pos) (tIfS tc t u) := by
  intro pins s σ H D I h
  refine wpAny_If (thn (hc pins s σ H _ I h) fun d s1 ⟨H1, I1, q1⟩ => ?_)
  cases d with
  | true => exact ha pins s1 σ H1 D I1 q1
  | false => exact hb pins s1 σ H1 D I1 q1
end
abbrev TG := V → St → Hp → (St → Hp → Prop) → Prop
abbrev TGs := List V → St → Hp → (St → Hp → Prop) → Prop
def PG (X : Cx) (target : Expr) (t : TG) : Prop :=
  ∀ (pins : List (Addr × Obj)) (s : Shared) (σ : St) (H : Hp) (v : V) (u : Value) (Q : St → Hp → Prop), Inv X pins σ H s → RelV v u → t v σ H Q →
    wpAny (model X.prog X.w) X.A (assign target X.env u) (fun _ s' => ∃ σ' H', Inv X pins σ' H' s' ∧ Q σ' H') X.xe s
def PGs (X : Cx) (ts : List Expr) (t : TGs) : Prop :=
  ∀ (pins : List (Addr × Obj)) (s : Shared) (σ : St) (H : Hp) (vs : List V) (us : List Value) (Q : St → Hp → Prop), Inv X pins σ H s → Vals vs us → t vs σ H Q →
    wpAny (model X.prog X.w) X.A (assignInOrder ((assignEach ts X.env).map (·.2)) us) (fun _ s' => ∃ σ' H', Inv X pins σ' H' s' ∧ Q σ' H') X.xe s
abbrev TSet := V → V → V → Hp → (Hp → Prop) → Prop
def PSet (X : Cx) (t : TSet) : Prop :=
  ∀ (pins : List (Addr × Obj)) (s : Shared) (σ : St) (H : Hp) (o i v : V) (ov iv u : Value) (Q : Hp → Prop), Inv X pins σ H s → RelV o ov → RelV i iv → RelV v u → t o i v H Q →
    wpAny (model X.prog X.w) X.A (setItem ov iv u) (fun _ s' => ∃ H', Inv X pins σ H' s' ∧ Q H') X.xe s
section
variable {X : Cx} {pos : Pos}
def gName (i : Nat) : TG := fun v σ H Q => Q (σ.set i (some v)) H
theorem pg_name {i : Nat} {x : Str} (hN : X.N.Nodup) (hi : X.N[i]? = some x) (hx : Loc X.env.scope x) (hf : X.fn x = true ∨ X.env.scope.names.lookup x = some .local := by first | exact .inl rfl | exact .inr rfl | assumption) : PG X (.Name x pos) (gName i) := by
  intro pins s σ H v u Q I r h
  exact wpAny_assign_Name (store_ok I hN hi hx r (fun s' I' => ⟨_, H, I', h⟩) hf)
def gNil : TGs := fun vs σ H Q => vs = [] ∧ Q σ H
def gCons (t : TG) (u : TGs) : TGs := fun vs σ H Q => ∃ v r, vs = v :: r ∧ t v σ H fun σ' H' => u r σ' H' Q
theorem pgs_nil : PGs X [] gNil := by
  intro pins s σ H vs us Q I r h
  obtain ⟨e, h⟩ := h
  subst e
  cases r
  exact assignInOrder_nil ⟨σ, H, I, h⟩
theorem pgs_cons {e : Expr} {es : List Expr} {t : TG} {u : TGs} (h1 : PG X e t) (h2 : PGs X es u)
    (hs : (assignEach (e :: es) X.env).map (·.2) = assign e X.env :: (assignEach es X.env).map (·.2) := by rfl) : PGs X (e :: es) (gCons t u) := by
  intro pins s σ H vs us Q I r h
  obtain ⟨v, vr, e1, h⟩ := h
  subst e1
  cases r with
  | cons r rr =>
    rw [hs]
    refine assignInOrder_cons (thn (h1 pins s σ H _ _ _ I r h) fun _ s1 ⟨σ1, H1, I1, q1⟩ => ?_)
    exact h2 pins s1 σ1 H1 _ _ Q I1 rr q1
def gTup (K : PySem.W.Frag) (n : Nat) (t : TGs) : TG := fun v σ H Q => ∃ a xs, v = .ref a ∧ SqT K H a xs ∧ xs.length = n ∧ t xs σ H Q
theorem pg_tup {es : List Expr} {k : Nat} {t : TGs} {n : Nat} (hc : X.calm = true) (h : PGs X es t)
    (hn : (assignEach es X.env).length = n := by rfl) (hst : (assignEach es X.env).findIdx? (·.1) = none := by rfl) : PG X (.Tuple es k pos) (gTup X.K n t) := by
  intro pins s σ H v u Q I r hw
  obtain ⟨a, xs, e1, hq, hl, hw⟩ := hw
  subst e1
  cases r
  obtain ⟨its, rv, ht, hz⟩ := I.tuple hq
  refine assign_Tuple_tuple (I.ok.hd hc) ht (by simp [hn, ← hl, rv.length]) hst fun h' hx => ?_
  have I1 : Inv X pins σ H { s with heap := h' } := I.kept (t' := s.toks) fun b o e => hx b o (Nat.ne_of_lt (Heap.lt_size e)) e
  exact h pins _ σ H xs _ Q I1 (by simpa using rv) hw
def gSub (to ti : TE) (t : TSet) : TG := fun v σ H Q => to σ H fun o H1 => ti σ H1 fun i H2 => t o i v H2 fun H3 => Q σ H3
theorem pg_sub {o i : Expr} {to ti : TE} {t : TSet} (ho : PE X o to) (hi : PE X i ti) (hs : PSet X t)
    (ha : ∀ v, assign (.Subscript o i pos) X.env v = (do
      let ov ← holding [v] (eval o X.env)
      let iv ← holding [v, ov] (eval i X.env)
      standAt pos
      holding [v, ov, iv] (setItem ov iv v)
      release [v, ov, iv] []) := by intro _; rfl) : PG X (.Subscript o i pos) (gSub to ti t) := by
  intro pins s σ H v u Q I r h
  rw [ha]
  refine wpAny_bind (wpAny_holding (thn (ho pins s σ H _ I h) fun ov s1 ⟨x, H1, I1, r1, q1⟩ => ?_))
  refine wpAny_bind (wpAny_holding (thn (hi pins s1 σ H1 _ I1 q1) fun iv s2 ⟨y, H2, I2, r2, q2⟩ => ?_))
  refine wpAny_bind (wpAny_standAt (wpAny_bind (wpAny_holding (thn (hs pins s2 σ H2 x y v ov iv u _ I2 r1 r2 r q2) fun _ s3 ⟨H3, I3, q3⟩ => ?_))))
  exact wpAny_release ⟨σ, H3, I3, q3⟩
def tAsg (te : TE) (g : TG) : TS := fun D σ H => te σ H fun x H1 => g x σ H1 D.nx
theorem ps_asg {tg e : Expr} {te : TE} {g : TG} (he : PE X e te) (hg : PG X tg g) (hs : swapsWithSole [tg] e pos.line X.env = pure false := by rfl) (hw : swappedStores [tg] e X.env = pure none := by rfl)
    (h1 : (assignEach [tg] X.env).map (·.2) = [assign tg X.env] := by rfl) : PS X (.Assign [tg] e pos) (tAsg te g) := by
  intro pins s σ H D I h
  refine wpAny_Assign_stores (thn (he pins s σ H _ I h) fun v s1 ⟨x, H1, I1, r1, q1⟩ => ?_) hs hw
  rw [h1]
  exact thn (hg pins s1 σ H1 x v _ I1 r1 q1) fun _ s2 q => q
theorem ps_set {i : Nat} {x : Str} {e : Expr} {te : TE} {pos' : Pos} (hN : X.N.Nodup) (hi : X.N[i]? = some x) (hx : Loc X.env.scope x) (he : PE X e te) (hs : swapsWith e (some (.Name x pos')) pos.line X.env = pure false := by rfl) (hf : X.fn x = true ∨ X.env.scope.names.lookup x = some .local := by first | exact .inl rfl | exact .inr rfl | assumption) :
    PS X (.Assign [.Name x pos'] e pos) (tAsg te (gName i)) := by
  intro pins s σ H D I h
  refine wpAny_Assign_Name (thn (he pins s σ H _ I h) fun v s1 ⟨y, H1, I1, r1, q1⟩ => ?_) hs
  exact store_ok I1 hN hi hx r1 (fun s2 I2 => ⟨_, H1, I2, q1⟩) hf
end
section
variable {X : Cx} {pos : Pos}
def tWhile (c : TT) (tb : TS) : TS := fun D σ H => ∃ W : Nat → St → Hp → Prop, (∃ m, W m σ H) ∧ ∀ m σ H, W m σ H →
  c σ H fun b H1 => if b = true then ∃ N : St → Hp → Prop, (∀ σ' H', N σ' H' → ∃ m', m' < m ∧ W m' σ' H') ∧ tb { D with nx := N, ct := N, bk := D.nx } σ H1 else D.nx σ H1
theorem ps_while {c : Expr} {body : List Stmt} {tc : TT} {tb : TS} (hp : PassesOwn (model X.prog X.w) X.A X.env X.xe) (hc : PT X c tc) (hb : PSs X body tb) : PS X (.While c body [] pos) (tWhile tc tb) := by
  intro pins s σ H D I h
  obtain ⟨W, ⟨m0, w0⟩, turn⟩ := h
  refine wpAny_While (codeAny_whileLoop (fun n s' => ∃ σ' H', Inv X pins σ' H' s' ∧ W n σ' H') ?_ m0 ⟨σ, H, I, w0⟩)
  rintro n s1 ⟨σ1, H1, I1, w1⟩
  refine wpAny_passesOwn hp (thn (hc pins s1 σ1 H1 _ I1 (turn n σ1 H1 w1)) fun b s2 ⟨H2, I2, q2⟩ => ?_)
  cases b with
  | true =>
    obtain ⟨N, hN, q2⟩ := q2
    rw [if_pos rfl]
    refine wpAny_passesOwn hp (thn (hb pins s2 σ1 H2 _ I2 q2) fun f s3 q3 => ?_)
    cases f with
    | next =>
      obtain ⟨σ3, H3, I3, n3⟩ := q3
      obtain ⟨m', hm, w3⟩ := hN σ3 H3 n3
      exact ⟨m', hm, σ3, H3, I3, w3⟩
    | cont =>
      obtain ⟨σ3, H3, I3, n3⟩ := q3
      obtain ⟨m', hm, w3⟩ := hN σ3 H3 n3
      exact ⟨m', hm, σ3, H3, I3, w3⟩
    | brk => exact q3
    | ret v => exact q3
  | false =>
    rw [if_neg Bool.false_ne_true]
    exact wpAny_execs_nil ⟨σ1, H2, I2, q2⟩
end
structure It where
  go : Nat → Hp → Prop
  yld : Nat → Hp → V → Hp → Prop
  stop : Nat → Hp → Prop
def FpOk (X : Cx) (pins : List (Addr × Obj)) (H : Hp) (b : Addr) : Prop :=
  H b = none ∧ b ≠ X.env.locals ∧ b ∉ X.fs ∧ (b ∈ X.ex ∨ X.s_0.heap.objs.size ≤ b) ∧ (∀ x c, X.env.cells.lookup x = some c → c ≠ b) ∧ ∀ p ∈ X.pn ++ pins, p.1 ≠ b
theorem Inv.fpOk {X : Cx} {pins : List (Addr × Obj)} {σ : St} {H H' : Hp} {s : Shared} {b : Addr} (I : Inv X pins σ H s) (hb : s.heap.objs.size ≤ b) (hn : H' b = none) : FpOk X pins H' b := by
  refine ⟨hn, Nat.ne_of_gt (Nat.lt_of_lt_of_le I.lt hb), I.nofs hb, .inr (Nat.le_trans I.sz hb), fun x c e z => ?_, fun p hp z => ?_⟩
  · obtain ⟨v, q⟩ := I.cell x c e
    exact absurd (Nat.lt_of_lt_of_le q.lt (by rw [z]; exact hb)) (Nat.lt_irrefl _)
  · exact absurd (Nat.lt_of_lt_of_le (Heap.lt_size (I.pin p hp).1) (by rw [z]; exact hb)) (Nat.lt_irrefl _)
structure Turn (P : Program) (w : World) (K : PySem.W.Frag) (tg : Expr) (J : It) (fp : List Addr) (it : Addr) (tn : Nat → Heap → Prop) : Prop where
  mem : it ∈ fp
  obj : ∀ i h, tn i h → ∀ b ∈ fp, ∃ o, h.get? b = some o ∧ ∀ v, o.data ≠ .cell v
  keep : ∀ i h h', tn i h → (∀ b ∈ fp, ∀ o, h.get? b = some o → h'.get? b = some o) → tn i h'
  item : ∀ (X : Cx), X.prog = P → X.w = w → X.K = K → X.calm = true → ∀ (i : Nat) (pins : List (Addr × Obj)) (s : Shared) (σ : St) (H : Hp) (E : Value → Shared → Prop), Inv X pins σ H s → (∀ b ∈ fp, FpOk X pins H b) → tn i s.heap → J.go i H →
    wpAny (model P w) X.A (pyNext (.ref it)) (fun r s1 => ∃ u, r = some u ∧
      wpAny (model P w) X.A (letOwnedTupleGo tg (.ref it) u) (fun _ s2 => ∃ x H', Inv X pins σ H' s2 ∧ RelV x u ∧ J.yld i H x H' ∧ tn (i + 1) s2.heap ∧ ∀ b ∈ fp, H' b = none) E s1) E s
  done : ∀ (X : Cx), X.prog = P → X.w = w → X.K = K → X.calm = true → ∀ (i : Nat) (pins : List (Addr × Obj)) (s : Shared) (σ : St) (H : Hp) (E : Value → Shared → Prop), Inv X pins σ H s → (∀ b ∈ fp, FpOk X pins H b) → tn i s.heap → J.stop i H →
    wpAny (model P w) X.A (pyNext (.ref it)) (fun r s1 => r = none ∧ Inv X pins σ H s1) E s
  self : ∀ (A : Around) (i : Nat) (s : Shared) (Q : Value → Shared → Prop) (E : Value → Shared → Prop), tn i s.heap → Q (.ref it) s → wpAny (model P w) A (pyIter (.ref it)) Q E s
abbrev TI := St → Hp → (It → Hp → Prop) → Prop
def PIE (X : Cx) (pins : List (Addr × Obj)) (σ : St) (tg : Expr) (R : It → Hp → Prop) (itv : Value) (s2 : Shared) : Prop :=
  ∃ (it : Addr) (fp : List Addr) (tn : Nat → Heap → Prop) (J : It) (H' : Hp), itv = .ref it ∧ Inv X pins σ H' s2 ∧ Turn X.prog X.w X.K tg J fp it tn ∧ tn 0 s2.heap ∧ (∀ b ∈ fp, FpOk X pins H' b) ∧ R J H'
def PI (X : Cx) (tg iter : Expr) (wi : TI) : Prop :=
  ∀ (pins : List (Addr × Obj)) (s : Shared) (σ : St) (H : Hp) (R : It → Hp → Prop), Inv X pins σ H s → wi σ H R →
    wpAny (model X.prog X.w) X.A (eval iter X.env) (fun v s1 => wpAny (model X.prog X.w) X.A (pyIter v) (PIE X pins σ tg R) X.xe s1) X.xe s
theorem go_of {M : Model} {A : Around} {E : Value → Shared → Prop} {s : Shared} {tg : Expr} {it : Addr} {u : Value} {o : Obj} {n : String} {vs : Array Value} {Q : Unit → Shared → Prop} (ho : s.heap.get? it = some o) (hc : o.cls = .type n) (hd : o.data = .fields vs)
    (hn : ["enumerate", "zip", "dict_itemiterator", "dict_reverseitemiterator", "odict_iterator", "itertools.zip_longest", "itertools.pairwise"].contains n = false) (hQ : Q () s) : wpAny M A (letOwnedTupleGo tg (.ref it) u) Q E s := by
  unfold letOwnedTupleGo
  cases tg <;> first
    | exact wpAny_pure hQ
    | (cases u <;> first
        | exact wpAny_pure hQ
        | (refine wpAny_bind (wpAny_load ho ?_)
           rw [hc, hd]
           show wpAny M A (if (["enumerate", "zip", "dict_itemiterator", "dict_reverseitemiterator", "odict_iterator", "itertools.zip_longest", "itertools.pairwise"].contains n && vs[0]? == some (rawInt _)) = true then _ else _) Q E s
           rw [if_neg (by intro h; rw [hn, Bool.false_and] at h; cases h)]
           exact wpAny_pure hQ))
def Itl (K : PySem.W.Frag) (a : Addr) : It :=
  ⟨fun i H => ∃ xs x, SqL K H a xs ∧ xs[i]? = some x, fun i H x H' => H' = H ∧ ∀ xs, SqL K H a xs → xs[i]? = some x, fun i H => ∃ xs, SqL K H a xs ∧ xs.length ≤ i⟩
def Itr (lo : Int) (n : Nat) : It := ⟨fun i _ => i < n, fun i H x H' => H' = H ∧ x = .int (lo + i), fun i _ => n ≤ i⟩
theorem turn_list {P : Program} {w : World} {K : PySem.W.Frag} {tg : Expr} (a it : Addr) : Turn P w K tg (Itl K a) [it] it (fun i h => h.IsListIter it a i) where
  mem := by simp
  obj := fun i h st b hb => by
    have e : b = it := by simpa using hb
    subst e
    obtain ⟨o, e, c, d⟩ := st
    exact ⟨o, e, fun v z => by rw [d] at z; cases z⟩
  keep := fun i h h' st k => st.at fun o e => k it (by simp) o e
  item := by
    intro X hP hw hK hc i pins s σ H E I hf st hg
    subst hP hw hK
    obtain ⟨xs, x, hq, hx⟩ := hg
    obtain ⟨its, rv, p, hz⟩ := I.list hq
    obtain ⟨u, hu, ru⟩ := rv.get hx
    obtain ⟨f0, f1, f2, f3, f4, f5⟩ := hf it (by simp)
    refine wpAny_pyNext_list_item st p.isList (x := u) (by simpa using hu) fun h' st' sb => ?_
    have I1 : Inv X pins σ H { s with heap := h' } := I.turned (t' := s.toks) (fun b o hb e => (sb.2 b hb).trans e) f0 f1 f3 f4 f5
    obtain ⟨o, e, c, d⟩ := id st'
    exact ⟨u, rfl, go_of (s := { s with heap := h' }) e c d (by decide) ⟨x, H, I1, ru, ⟨rfl, fun ys hy => by rw [I.list_inj hy hq]; exact hx⟩, st', fun b hb => (hf b hb).1⟩⟩
  done := by
    intro X hP hw hK hc i pins s σ H E I hf st hg
    subst hP hw hK
    obtain ⟨xs, hq, hx⟩ := hg
    obtain ⟨its, rv, p, hz⟩ := I.list hq
    obtain ⟨f0, f1, f2, f3, f4, f5⟩ := hf it (by simp)
    have hl := rv.length
    exact wpAny_pyNext_list_end (I.ok.hd hc) st p.isList (by simp; omega) fun h' eb => ⟨rfl, I.turned (t' := s.toks) (fun b o hb e => eb b o hb e) f0 f1 f3 f4 f5⟩
  self := fun _ _ _ _ _ st h => wpAny_pyIter_listiter st h
theorem turn_range {P : Program} {w : World} {K : PySem.W.Frag} {tg : Expr} (it : Addr) (lo : Int) (n : Nat) : Turn P w K tg (Itr lo n) [it] it (fun i h => IsRangeIter h it (lo + (i : Nat) * 1) ((n : Int) - (i : Nat)) 1) where
  mem := by simp
  obj := fun i h st b hb => by
    have e : b = it := by simpa using hb
    subst e
    exact ⟨_, st, fun v z => by
      have z' : Data.fields _ = Data.cell v := z
      cases z'⟩
  keep := fun i h h' st k => k it (by simp) _ st
  item := by
    intro X hP hw hK hc i pins s σ H E I hf st hg
    subst hP hw hK
    obtain ⟨f0, f1, f2, f3, f4, f5⟩ := hf it (by simp)
    have W := Walks.range (prog := X.prog) (w := X.w) (I.ok.hd hc) it lo 1 n
    refine W.item i s _ _ hg st fun v h' tk hv st' kk => ?_
    obtain ⟨t, rfl⟩ := hv
    have I1 : Inv X pins σ H { s with heap := h', toks := tk } := I.turned (fun b o hb e => kk b o (by simpa using hb) e) f0 f1 f3 f4 f5
    refine ⟨_, rfl, go_of (s := { s with heap := h', toks := tk }) (n := "range_iterator") st' rfl rfl (by decide) ⟨.int (lo + i), H, I1, ⟨t, ?_⟩, ⟨rfl, rfl⟩, st', fun b hb => (hf b hb).1⟩⟩
    rw [Int.mul_one]
  done := by
    intro X hP hw hK hc i pins s σ H E I hf st hg
    subst hP hw hK
    obtain ⟨f0, f1, f2, f3, f4, f5⟩ := hf it (by simp)
    exact wpAny_pyNext_range_end (I.ok.hd hc) st (by have : n ≤ i := hg; omega) fun h' eb => ⟨rfl, I.turned (t' := s.toks) (fun b o hb e => eb b o hb e) f0 f1 f3 f4 f5⟩
  self := fun _ _ _ _ _ st h => wpAny_pyIter_rangeiter st h
end L2
namespace L2
open PySem PySem.Spec PyProof.Rows
section
variable {X : Cx} {tg : Expr}
def iList (K : PySem.W.Frag) (tl : TE) : TI := fun σ H R => tl σ H fun x H1 => ∃ a, x = .ref a ∧ (∃ xs, SqL K H1 a xs) ∧ R (Itl K a) H1
theorem pi_list {l : Expr} {tl : TE} (hl : PE X l tl) : PI X tg l (iList X.K tl) := by
  intro pins s σ H R I h
  refine thn (hl pins s σ H _ I h) fun v s1 ⟨x, H1, I1, r1, q1⟩ => ?_
  obtain ⟨a, e, ⟨xs, hq⟩, q⟩ := q1
  subst e
  cases r1
  obtain ⟨its, rv, p, hz⟩ := I1.list hq
  refine wpAny_pyIter_list p.isList ?_
  refine ⟨s1.heap.objs.size, [s1.heap.objs.size], _, _, H1, rfl, I1.kept (t' := s1.toks) fun b o e => Heap.get?_push_of_some _ e, turn_list a _, ⟨_, Heap.get?_push_size _ rfl, rfl, rfl⟩, fun b hb => ?_, q⟩
  have e : b = s1.heap.objs.size := by simpa using hb
  subst e
  exact I1.fpOk (Nat.le_refl _) (I1.hok.fresh (Nat.le_refl _))
theorem range_it {pins : List (Addr × Obj)} {σ : St} {H : Hp} {s : Shared} {R : It → Hp → Prop} {E : Value → Shared → Prop} {lo hi : Int} {t u v : Tok} {tk : Nat} (I : Inv X pins σ H s) (h1 : -(2 ^ 62) ≤ lo) (h2 : lo < 2 ^ 62) (h3 : -(2 ^ 62) ≤ hi) (h4 : hi < 2 ^ 62)
    (q : R (Itr lo (hi - lo).toNat) H) : wpAny (model X.prog X.w) X.A (pyIter (.ref s.heap.objs.size)) (PIE X pins σ tg R) E { s with heap := s.heap.push { cls := .type "range", data := .fields #[.int lo t, .int hi u, .int 1 v] }, toks := tk } := by
  refine wpAny_pyIter_range (IsRange.new ..) (small_one h1 h2 h3 h4) ?_
  have I1 : Inv X pins σ H { s with heap := s.heap.push { cls := .type "range", data := .fields #[.int lo t, .int hi u, .int 1 v] }, toks := tk } := I.kept fun b o e => Heap.get?_push_of_some _ e
  refine ⟨(s.heap.push { cls := .type "range", data := .fields #[.int lo t, .int hi u, .int 1 v] }).objs.size, [(s.heap.push { cls := .type "range", data := .fields #[.int lo t, .int hi u, .int 1 v] }).objs.size], _, _, H, rfl,
    I1.kept (t' := tk) fun b o e => Heap.get?_push_of_some _ e, turn_range _ lo (hi - lo).toNat, ?_, fun b hb => ?_, q⟩
  · have e1 : lo + ((0 : Nat) : Int) * 1 = lo := by simp
    have e2 : (((hi - lo).toNat : Nat) : Int) - ((0 : Nat) : Int) = Builtin.Range.rangeSize lo hi 1 := by rw [rangeSize_one]; split <;> omega
    show IsRangeIter _ _ (lo + ((0 : Nat) : Int) * 1) ((((hi - lo).toNat : Nat) : Int) - ((0 : Nat) : Int)) 1
    rw [e1, e2]
    exact Heap.get?_push_size _ rfl
  · have e : b = (s.heap.push { cls := .type "range", data := .fields #[.int lo t, .int hi u, .int 1 v] }).objs.size := by simpa using hb
    subst e
    exact I1.fpOk (Nat.le_refl _) (I1.hok.fresh (Nat.le_refl _))
def iRng1 (ta : TA) : TI := fun σ H R => ta σ H fun vs H1 => ∃ j : Int, vs = [.int j] ∧ -(2 ^ 62) ≤ j ∧ j < 2 ^ 62 ∧ R (Itr 0 j.toNat) H1
def iRng2 (ta : TA) : TI := fun σ H R => ta σ H fun vs H1 => ∃ i j : Int, vs = [.int i, .int j] ∧ (-(2 ^ 62) ≤ i ∧ i < 2 ^ 62 ∧ -(2 ^ 62) ≤ j ∧ j < 2 ^ 62) ∧ R (Itr i (j - i).toNat) H1
theorem pi_range1 {a : Expr} {ta : TA} {p pos : Pos} (hg : Gl X "range") (hm : X.mg "range" = none) (ha : PA X [a] ta) (hs : starEach [a] X.env = [(false, eval a X.env)] := by rfl) : PI X tg (.Call (.Name "range" p) [a] [] pos) (iRng1 ta) := by
  intro pins s σ H R I h
  refine Call_ (ld_blt I hg hm boot_range (PyProof.Rows.callWith_type1 (thn (ha pos pins s σ H _ I h) fun us s1 ⟨vs, H1, I1, r1, q1⟩ => ?_) hs rfl))
  obtain ⟨j, e, q1, q2, q⟩ := q1
  subst e
  cases r1 with
  | cons r rr =>
    cases rr
    obtain ⟨t, rfl⟩ := r
    exact call_range_1 (range_it I1 (by omega) (by omega) q1 q2 (by simpa using q))
theorem pi_range2 {a b : Expr} {ta : TA} {p pos : Pos} (hg : Gl X "range") (hm : X.mg "range" = none) (ha : PA X [a, b] ta) (hs : starEach [a, b] X.env = [(false, eval a X.env), (false, eval b X.env)] := by rfl) (hs2 : starEach [b] X.env = [(false, eval b X.env)] := by rfl) :
    PI X tg (.Call (.Name "range" p) [a, b] [] pos) (iRng2 ta) := by
  intro pins s σ H R I h
  refine Call_ (ld_blt I hg hm boot_range (PyProof.Rows.callWith_type1 (thn (ha pos pins s σ H _ I h) fun us s1 ⟨vs, H1, I1, r1, q1⟩ => ?_) (by rw [hs, hs2]) (by rw [hs2]; rfl)))
  obtain ⟨i, j, e, ⟨q1, q2, q3, q4⟩, q⟩ := q1
  subst e
  cases r1 with
  | cons r rr =>
    cases rr with
    | cons r' rr =>
      cases rr
      obtain ⟨t, rfl⟩ := r
      obtain ⟨t', rfl⟩ := r'
      exact call_range_2 (range_it I1 q1 q2 q3 q4 q)
def tFor (wi : TI) (g : TG) (tb : TS) : TS := fun D σ H => wi σ H fun J H1 => ∃ W : Nat → Nat → St → Hp → Prop, (∃ m, W 0 m σ H1) ∧ ∀ i m σ H, W i m σ H →
  (J.stop i H ∧ D.nx σ H) ∨ (J.go i H ∧ ∃ N : St → Hp → Prop, (∀ σ' H', N σ' H' → ∃ m', m' < m ∧ W (i + 1) m' σ' H') ∧ ∀ x H', J.yld i H x H' → g x σ H' fun σ2 H2 => tb { D with nx := N, ct := N, bk := D.nx } σ2 H2)
def pinsAt (fp : List Addr) (h : Heap) : List (Addr × Obj) := fp.filterMap fun b => (h.get? b).map fun o => (b, o)
theorem mem_pinsAt {fp : List Addr} {h : Heap} {b : Addr} {o : Obj} (hb : b ∈ fp) (e : h.get? b = some o) : (b, o) ∈ pinsAt fp h := List.mem_filterMap.mpr ⟨b, hb, by rw [e]; rfl⟩
theorem of_pinsAt {fp : List Addr} {h : Heap} {p : Addr × Obj} (hp : p ∈ pinsAt fp h) : p.1 ∈ fp ∧ h.get? p.1 = some p.2 := by
  obtain ⟨b, hb, e⟩ := List.mem_filterMap.mp hp
  cases q : h.get? b with
  | none => rw [q] at e; cases e
  | some o =>
    rw [q] at e
    have e' : (b, o) = p := Option.some.inj e
    subst e'
    exact ⟨hb, q⟩
theorem Inv.pinned {pins : List (Addr × Obj)} {σ : St} {H : Hp} {s : Shared} {fp : List Addr} (I : Inv X pins σ H s) (hf : ∀ b ∈ fp, FpOk X pins H b) (ho : ∀ b ∈ fp, ∃ o, s.heap.get? b = some o ∧ ∀ v, o.data ≠ .cell v) : Inv X (pins ++ pinsAt fp s.heap) σ H s :=
  I.pins_of fun p hp => (List.mem_append.mp hp).elim (fun z => I.pin p (List.mem_append_right _ z)) fun z => by
    obtain ⟨hb, e⟩ := of_pinsAt z
    obtain ⟨f0, f1, f2, _⟩ := hf p.1 hb
    obtain ⟨o, e', d⟩ := ho p.1 hb
    rw [e] at e'; cases e'
    exact ⟨e, f0, f1, f2, d⟩
theorem Inv.unpinned {pins pl : List (Addr × Obj)} {σ : St} {H : Hp} {s : Shared} (I : Inv X (pins ++ pl) σ H s) : Inv X pins σ H s := I.pins_of fun p hp => I.pin p (List.mem_append_right _ (List.mem_append_left _ hp))
theorem ps_for {iter : Expr} {body : List Stmt} {wi : TI} {g : TG} {tb : TS} {pos : Pos} (hp : PassesOwn (model X.prog X.w) X.A X.env X.xe) (hc : X.calm = true) (hi : PI X tg iter wi) (hg : PG X tg g) (hb : PSs X body tb)
    (hs : ∀ x, foldedSetIterable iter X.env x = pure x := by intro _; rfl) : PS X (.For tg iter body [] pos) (tFor wi g tb) := by
  intro pins s σ H D I h
  refine wpAny_For (thn (hi pins s σ H _ I h) fun v s1 h1 => thn h1 fun itv s2 h2 => ?_) hs
  obtain ⟨it, fp, tn, J, H2, e, I2, T, st2, f2, W, ⟨m0, w0⟩, turn⟩ := h2
  subst e
  -- what stays true of the iterator's objects through the loop
  have stat : ∀ {H' : Hp}, (∀ b ∈ fp, H' b = none) → ∀ b ∈ fp, FpOk X pins H' b := fun hn b hb => ⟨hn b hb, (f2 b hb).2⟩
  refine codeAny_forLoop_any (fun n s' => ∃ i σ' H', Inv X pins σ' H' s' ∧ tn i s'.heap ∧ (∀ b ∈ fp, H' b = none) ∧ W i n σ' H') ?_ m0 ⟨0, σ, H2, I2, st2, fun b hb => (f2 b hb).1, w0⟩
  rintro n s3 ⟨i, σ3, H3, I3, st3, fr3, w3⟩
  rcases turn i n σ3 H3 w3 with ⟨stop, qn⟩ | ⟨go, N, hN, step⟩
  · refine wpAny_passesOwn hp (thn (T.done X rfl rfl rfl hc i pins s3 σ3 H3 X.xe I3 (stat fr3) st3 stop) fun r s4 ⟨hr, I4⟩ => ?_)
    subst hr
    exact wpAny_execs_nil ⟨σ3, H3, I4, qn⟩
  · refine wpAny_passesOwn hp (thn (T.item X rfl rfl rfl hc i pins s3 σ3 H3 X.xe I3 (stat fr3) st3 go) fun r s4 ⟨u, hr, h4⟩ => ?_)
    subst hr
    refine wpAny_passesOwn hp (thn h4 fun _ s5 ⟨x, H5, I5, r5, y5, st5, fr5⟩ => ?_)
    have I5' := I5.pinned (stat fr5) (T.obj _ _ st5)
    refine wpAny_passesOwn hp (thn (hg _ s5 σ3 H5 x u _ I5' r5 (step x H5 y5)) fun _ s6 ⟨σ6, H6, I6, q6⟩ => ?_)
    refine wpAny_passesOwn hp (thn (hb _ s6 σ6 H6 _ I6 q6) fun f s7 q7 => ?_)
    have again : ∀ {σ7 : St} {H7 : Hp}, Inv X (pins ++ pinsAt fp s5.heap) σ7 H7 s7 → N σ7 H7 → ∃ m, m < n ∧ ∃ i σ' H', Inv X pins σ' H' s7 ∧ tn i s7.heap ∧ (∀ b ∈ fp, H' b = none) ∧ W i m σ' H' := fun {σ7 H7} I7 n7 => by
      obtain ⟨m', hm, w7⟩ := hN σ7 H7 n7
      refine ⟨m', hm, i + 1, σ7, H7, I7.unpinned, T.keep _ _ _ st5 fun b hb o e => (I7.pin (b, o) (List.mem_append_right _ (List.mem_append_right _ (mem_pinsAt hb e)))).1, fun b hb => ?_, w7⟩
      obtain ⟨o, e, d⟩ := T.obj _ _ st5 b hb
      exact (I7.pin (b, o) (List.mem_append_right _ (List.mem_append_right _ (mem_pinsAt hb e)))).2.1
    cases f with
    | next => obtain ⟨σ7, H7, I7, n7⟩ := q7; exact again I7 n7
    | cont => obtain ⟨σ7, H7, I7, n7⟩ := q7; exact again I7 n7
    | brk => obtain ⟨σ7, H7, I7, q7⟩ := q7; exact ⟨σ7, H7, I7.unpinned, q7⟩
    | ret v => obtain ⟨x7, σ7, H7, I7, r7, q7⟩ := q7; exact ⟨x7, σ7, H7, I7.unpinned, r7, q7⟩
end
theorem for_list {K : PySem.W.Frag} {a : Addr} {xs : List V} {g : TG} {tb : TS} {D : Ends} {σ : St} {H : Hp} (Pv : Nat → St → Hp → Prop) (h0 : Pv 0 σ H) (hl : ∀ i σ H, i ≤ xs.length → Pv i σ H → SqL K H a xs)
    (hs : ∀ i x σ H, xs[i]? = some x → Pv i σ H → g x σ H fun σ2 H2 => tb { D with nx := Pv (i + 1), ct := Pv (i + 1), bk := D.nx } σ2 H2) (hd : ∀ σ H, Pv xs.length σ H → D.nx σ H) :
    ∃ W : Nat → Nat → St → Hp → Prop, (∃ m, W 0 m σ H) ∧ ∀ i m σ H, W i m σ H →
      ((Itl K a).stop i H ∧ D.nx σ H) ∨ ((Itl K a).go i H ∧ ∃ N : St → Hp → Prop, (∀ σ' H', N σ' H' → ∃ m', m' < m ∧ W (i + 1) m' σ' H') ∧ ∀ x H', (Itl K a).yld i H x H' → g x σ H' fun σ2 H2 => tb { D with nx := N, ct := N, bk := D.nx } σ2 H2) := by
  refine ⟨fun i m σ H => m = xs.length - i ∧ i ≤ xs.length ∧ Pv i σ H, ⟨xs.length, by simp, Nat.zero_le _, h0⟩, ?_⟩
  rintro i m σ H ⟨rfl, hi, p⟩
  have q := hl i σ H hi p
  by_cases hlt : i < xs.length
  · refine .inr ⟨⟨xs, xs[i], q, by simp [hlt]⟩, Pv (i + 1), fun σ' H' p' => ⟨xs.length - (i + 1), by omega, rfl, hlt, p'⟩, fun x H' y => ?_⟩
    obtain ⟨e, y⟩ := y
    subst e
    exact hs i x σ _ (y xs q) p
  · have e : i = xs.length := by omega
    subst e
    exact .inl ⟨⟨xs, q, Nat.le_refl _⟩, hd σ H p⟩
theorem for_range {lo : Int} {n : Nat} {g : TG} {tb : TS} {D : Ends} {σ : St} {H : Hp} (Pv : Nat → St → Hp → Prop) (h0 : Pv 0 σ H)
    (hs : ∀ i σ H, i < n → Pv i σ H → g (.int (lo + i)) σ H fun σ2 H2 => tb { D with nx := Pv (i + 1), ct := Pv (i + 1), bk := D.nx } σ2 H2) (hd : ∀ σ H, Pv n σ H → D.nx σ H) :
    ∃ W : Nat → Nat → St → Hp → Prop, (∃ m, W 0 m σ H) ∧ ∀ i m σ H, W i m σ H →
      ((Itr lo n).stop i H ∧ D.nx σ H) ∨ ((Itr lo n).go i H ∧ ∃ N : St → Hp → Prop, (∀ σ' H', N σ' H' → ∃ m', m' < m ∧ W (i + 1) m' σ' H') ∧ ∀ x H', (Itr lo n).yld i H x H' → g x σ H' fun σ2 H2 => tb { D with nx := N, ct := N, bk := D.nx } σ2 H2) := by
  refine ⟨fun i m σ H => m = n - i ∧ i ≤ n ∧ Pv i σ H, ⟨n, by simp, Nat.zero_le _, h0⟩, ?_⟩
  rintro i m σ H ⟨rfl, hi, p⟩
  by_cases hlt : i < n
  · refine .inr ⟨hlt, Pv (i + 1), fun σ' H' p' => ⟨n - (i + 1), by omega, rfl, hlt, p'⟩, fun x H' y => ?_⟩
    obtain ⟨e, y⟩ := y
    subst e y
    exact hs i σ _ hlt p
  · have e : i = n := by omega
    subst e
    exact .inl ⟨Nat.le_refl _, hd σ H p⟩
end L2
namespace L2
open PySem PySem.Spec PyProof.Rows
abbrev R2 := V → V → Hp → VK → Prop
def OpR (X : Cx) (f : Value → Value → Sem Value) (r : R2) : Prop :=
  ∀ (pins : List (Addr × Obj)) (s : Shared) (σ : St) (H : Hp) (x y : V) (v u : Value) (Q : VK), Inv X pins σ H s → RelV x v → RelV y u → r x y H Q →
    wpAny (model X.prog X.w) X.A (f v u) (EP X pins σ Q) X.xe s
def CallR (X : Cx) (f : Value) (r : List V → Hp → VK → Prop) : Prop :=
  ∀ (pins : List (Addr × Obj)) (s : Shared) (σ : St) (H : Hp) (xs : List V) (us : List Value) (Q : VK), Inv X pins σ H s → Vals xs us → r xs H Q →
    wpAny (model X.prog X.w) X.A (call f us) (EP X pins σ Q) X.xe s
def tOp (r : R2) (ta tb : TE) : TE := fun σ H Q => ta σ H fun x H1 => tb σ H1 fun y H2 => r x y H2 Q
def rI (C : Int → Int → Prop) (g : Int → Int → V) : R2 := fun x y H Q => ∃ i j, x = .int i ∧ y = .int j ∧ C i j ∧ Q (g i j) H
def rI0 (g : Int → Int → V) : R2 := fun x y H Q => ∃ i j, x = .int i ∧ y = .int j ∧ Q (g i j) H
section
variable {X : Cx} {a b c : Expr} {ta tb tc : TE} {pos : Pos}
theorem binT (ha : PE X a ta) (hb : PE X b tb) {pins : List (Addr × Obj)} {s : Shared} {σ : St} {H : Hp} {R : V → V → Hp → Prop} (I : Inv X pins σ H s)
    (h : ta σ H fun x H1 => tb σ H1 fun y H2 => R x y H2) {Q : Value → Shared → Prop} {f : Value → Value → Sem Value}
    (hf : ∀ v u s2 x y H2, Inv X pins σ H2 s2 → RelV x v → RelV y u → R x y H2 → wpAny (model X.prog X.w) X.A (f v u) Q X.xe s2) :
    wpAny (model X.prog X.w) X.A (eval a X.env) (fun v s₁ => wpAny (model X.prog X.w) X.A (eval b X.env) (fun u s₂ => wpAny (model X.prog X.w) X.A (f v u) Q X.xe s₂) X.xe s₁) X.xe s := by
  refine thn (ha pins s σ H _ I h) fun v s1 ⟨x, H1, I1, r1, q1⟩ => ?_
  refine thn (hb pins s1 σ H1 _ I1 q1) fun u s2 ⟨y, H2, I2, r2, q2⟩ => ?_
  exact hf v u s2 x y H2 I2 r1 r2 q2
theorem pe_op {op : Operator} {r : R2} (ho : OpR X (binaryOp op) r) (ha : PE X a ta) (hb : PE X b tb) : PE X (.BinOp a op b pos) (tOp r ta tb) := by
  intro pins s σ H Q I h
  exact wpAny_BinOp (binT ha hb I h fun v u s2 x y H2 I2 rx ry q => ho pins s2 σ H2 x y v u Q I2 rx ry q)
theorem opI {f : Value → Value → Sem Value} {C : Int → Int → Prop} {g : Int → Int → Int}
    (rule : ∀ (i j : Int) (t u : Tok) (s : Shared) (Q : Value → Shared → Prop) (E : Value → Shared → Prop), C i j → Q (.int (g i j) s.toks) { s with toks := s.toks + 1 } → wpAny (model X.prog X.w) X.A (f (.int i t) (.int j u)) Q E s) :
    OpR X f (rI C fun i j => .int (g i j)) := by
  intro pins s σ H x y v u Q I rx ry h
  obtain ⟨i, j, rfl, rfl, hc, q⟩ := h
  obtain ⟨t, rfl⟩ := rx
  obtain ⟨t', rfl⟩ := ry
  exact rule i j t t' s _ _ hc ⟨.int (g i j), H, I.tok _, ⟨_, rfl⟩, q⟩
theorem opI0 {f : Value → Value → Sem Value} {g : Int → Int → Int}
    (rule : ∀ (i j : Int) (t u : Tok) (s : Shared) (Q : Value → Shared → Prop) (E : Value → Shared → Prop), Q (.int (g i j) s.toks) { s with toks := s.toks + 1 } → wpAny (model X.prog X.w) X.A (f (.int i t) (.int j u)) Q E s) :
    OpR X f (rI0 fun i j => .int (g i j)) := by
  intro pins s σ H x y v u Q I rx ry h
  obtain ⟨i, j, rfl, rfl, q⟩ := h
  obtain ⟨t, rfl⟩ := rx
  obtain ⟨t', rfl⟩ := ry
  exact rule i j t t' s _ _ ⟨.int (g i j), H, I.tok _, ⟨_, rfl⟩, q⟩
theorem opB0 {f : Value → Value → Sem Value} {g : Int → Int → Bool}
    (rule : ∀ (i j : Int) (t u : Tok) (s : Shared) (Q : Value → Shared → Prop) (E : Value → Shared → Prop), Q (.bool (g i j)) s → wpAny (model X.prog X.w) X.A (f (.int i t) (.int j u)) Q E s) :
    OpR X f (rI0 fun i j => .bl (g i j)) := by
  intro pins s σ H x y v u Q I rx ry h
  obtain ⟨i, j, rfl, rfl, q⟩ := h
  obtain ⟨t, rfl⟩ := rx
  obtain ⟨t', rfl⟩ := ry
  exact rule i j t t' s _ _ ⟨.bl (g i j), H, I, rfl, q⟩
def CMul (i j : Int) : Prop := (-(2 ^ 64) < i ∧ i < 2 ^ 64) ∨ (-(2 ^ 64) < j ∧ j < 2 ^ 64)
theorem CMul.ok {i j : Int} (h : CMul i j) : IntMulOk i j := by
  rcases h with ⟨h1, h2⟩ | ⟨h1, h2⟩
  · exact .of_left (intBits_le_64 h1 h2)
  · exact .of_right (intBits_le_64 h1 h2)
theorem op_add : OpR X (binaryOp .Add) (rI0 fun i j => .int (i + j)) := opI0 fun _ _ _ _ _ _ _ q => add_int q
theorem op_sub : OpR X (binaryOp .Sub) (rI0 fun i j => .int (i - j)) := opI0 fun _ _ _ _ _ _ _ q => sub_int q
theorem op_mul : OpR X (binaryOp .Mult) (rI CMul fun i j => .int (i * j)) := opI fun _ _ _ _ _ _ _ hc q => mul_int q hc.ok
end
def scal : V → V → Bool
  | .non, .non => true | .non, .int _ => true | .int _, .non => true | .non, .bl _ => true | .bl _, .non => true | .non, .str _ => true | .str _, .non => true
  | .int _, .int _ => true | .bl _, .bl _ => true | .str _, .str _ => true | .byt _, .byt _ => true
  | .int _, .str _ => true | .str _, .int _ => true | .bl _, .str _ => true | .str _, .bl _ => true
  | _, _ => false
def rEq : R2 := fun x y H Q => scal x y = true ∧ Q (.bl (decide (x = y))) H
def rNe : R2 := fun x y H Q => scal x y = true ∧ Q (.bl (!decide (x = y))) H
theorem dec_int {i j : Int} : decide (V.int i = V.int j) = (i == j) := by
  rw [Bool.eq_iff_iff]
  simp
theorem dec_bl {i j : Bool} : decide (V.bl i = V.bl j) = (i == j) := by
  rw [Bool.eq_iff_iff]
  simp
theorem dec_str {i j : Str} : decide (V.str i = V.str j) = (i == j) := by
  rw [Bool.eq_iff_iff]
  simp
theorem dec_byt {i j : Array UInt8} : decide (V.byt i = V.byt j) = (i.toList == j.toList) := by
  rw [Bool.eq_iff_iff]
  cases i
  cases j
  simp
section
variable {X : Cx} {a b c : Expr} {ta tb tc : TE} {pos : Pos}
theorem fin_bl {pins : List (Addr × Obj)} {σ : St} {H : Hp} {s : Shared} {Q : VK} {k k' : Bool} (I : Inv X pins σ H s) (q : Q (.bl k) H) (e : k = k') : EP X pins σ Q (.bool k') s := by
  subst e
  exact ⟨.bl k, H, I, rfl, q⟩
theorem op_eq : OpR X (compareOp .Eq) rEq := by
  intro pins s σ H x y v u Q I rx ry h
  obtain ⟨hs, q⟩ := h
  cases x with
  | non =>
    cases rx
    cases y with
    | non => cases ry; exact PySem.EqNone.eq_none_none (fin_bl I q (by simp))
    | bl j => cases ry; exact PySem.EqNone.eq_none_bool (fin_bl I q (by simp))
    | int j => obtain ⟨t', rfl⟩ := ry; exact PySem.EqNone.eq_none_int (fin_bl I q (by simp))
    | str j => obtain ⟨t', rfl⟩ := ry; exact PySem.EqNone.eq_none_str (fin_bl I q (by simp))
    | _ => exact absurd (show false = true from hs) Bool.false_ne_true
  | bl i =>
    cases rx
    cases y with
    | non => cases ry; exact PySem.EqNone.eq_bool_none (fin_bl I q (by simp))
    | bl j => cases ry; exact eq_bool (fin_bl I q dec_bl)
    | str j => obtain ⟨t', rfl⟩ := ry; exact PySem.EqMixed.eq_bool_str (fin_bl I q (by simp))
    | _ => exact absurd (show false = true from hs) Bool.false_ne_true
  | int i =>
    obtain ⟨t, rfl⟩ := rx
    cases y with
    | non => cases ry; exact PySem.EqNone.eq_int_none (fin_bl I q (by simp))
    | int j => obtain ⟨t', rfl⟩ := ry; exact eq_int (fin_bl I q dec_int)
    | str j => obtain ⟨t', rfl⟩ := ry; exact PySem.EqMixed.eq_int_str (fin_bl I q (by simp))
    | _ => exact absurd (show false = true from hs) Bool.false_ne_true
  | str i =>
    obtain ⟨t, rfl⟩ := rx
    cases y with
    | non => cases ry; exact PySem.EqNone.eq_str_none (fin_bl I q (by simp))
    | bl j => cases ry; exact PySem.EqMixed.eq_str_bool (fin_bl I q (by simp))
    | int j => obtain ⟨t', rfl⟩ := ry; exact PySem.EqMixed.eq_str_int (fin_bl I q (by simp))
    | str j => obtain ⟨t', rfl⟩ := ry; exact eq_str (fin_bl I q dec_str)
    | _ => exact absurd (show false = true from hs) Bool.false_ne_true
  | byt i =>
    obtain ⟨t, rfl⟩ := rx
    cases y with
    | byt j => obtain ⟨t', rfl⟩ := ry; exact PySem.W.eq_bytes (fin_bl I q dec_byt)
    | _ => exact absurd (show false = true from hs) Bool.false_ne_true
  | _ => cases y <;> exact absurd (show false = true from hs) Bool.false_ne_true
theorem op_ne : OpR X (compareOp .NotEq) rNe := by
  intro pins s σ H x y v u Q I rx ry h
  obtain ⟨hs, q⟩ := h
  cases x with
  | non =>
    cases rx
    cases y with
    | non => cases ry; exact PySem.EqNone.ne_none_none (fin_bl I q (by simp))
    | bl j => cases ry; exact PySem.EqNone.ne_none_bool (fin_bl I q (by simp))
    | int j => obtain ⟨t', rfl⟩ := ry; exact PySem.EqNone.ne_none_int (fin_bl I q (by simp))
    | str j => obtain ⟨t', rfl⟩ := ry; exact PySem.EqNone.ne_none_str (fin_bl I q (by simp))
    | _ => exact absurd (show false = true from hs) Bool.false_ne_true
  | bl i =>
    cases rx
    cases y with
    | non => cases ry; exact PySem.EqNone.ne_bool_none (fin_bl I q (by simp))
    | bl j => cases ry; exact ne_bool (fin_bl I q (congrArg not dec_bl))
    | str j => obtain ⟨t', rfl⟩ := ry; exact PySem.EqMixed.ne_bool_str (fin_bl I q (by simp))
    | _ => exact absurd (show false = true from hs) Bool.false_ne_true
  | int i =>
    obtain ⟨t, rfl⟩ := rx
    cases y with
    | non => cases ry; exact PySem.EqNone.ne_int_none (fin_bl I q (by simp))
    | int j => obtain ⟨t', rfl⟩ := ry; exact ne_int (fin_bl I q (congrArg not dec_int))
    | str j => obtain ⟨t', rfl⟩ := ry; exact PySem.EqMixed.ne_int_str (fin_bl I q (by simp))
    | _ => exact absurd (show false = true from hs) Bool.false_ne_true
  | str i =>
    obtain ⟨t, rfl⟩ := rx
    cases y with
    | non => cases ry; exact PySem.EqNone.ne_str_none (fin_bl I q (by simp))
    | bl j => cases ry; exact PySem.EqMixed.ne_str_bool (fin_bl I q (by simp))
    | int j => obtain ⟨t', rfl⟩ := ry; exact PySem.EqMixed.ne_str_int (fin_bl I q (by simp))
    | str j => obtain ⟨t', rfl⟩ := ry; exact ne_str (fin_bl I q (congrArg not dec_str))
    | _ => exact absurd (show false = true from hs) Bool.false_ne_true
  | byt i =>
    obtain ⟨t, rfl⟩ := rx
    cases y with
    | byt j => obtain ⟨t', rfl⟩ := ry; exact PySem.W.ne_bytes (fin_bl I q (congrArg not dec_byt))
    | _ => exact absurd (show false = true from hs) Bool.false_ne_true
  | _ => cases y <;> exact absurd (show false = true from hs) Bool.false_ne_true
theorem op_lt : OpR X (compareOp .Lt) (rI0 fun i j => .bl (decide (i < j))) := opB0 fun _ _ _ _ _ _ _ q => lt_int q
theorem op_le : OpR X (compareOp .LtE) (rI0 fun i j => .bl (decide (i ≤ j))) := opB0 fun _ _ _ _ _ _ _ q => le_int q
theorem op_gt : OpR X (compareOp .Gt) (rI0 fun i j => .bl (decide (j < i))) := opB0 fun _ _ _ _ _ _ _ q => gt_int q
theorem op_ge : OpR X (compareOp .GtE) (rI0 fun i j => .bl (decide (j ≤ i))) := opB0 fun _ _ _ _ _ _ _ q => ge_int q
theorem nomark (b : Expr) {op : CmpOp} (h : op ≠ .In := by decide) (h2 : op ≠ .NotIn := by decide) : behindInMarks op b = false := by
  have e1 : (op == CmpOp.In) = false := by cases op <;> first | rfl | exact absurd rfl h
  have e2 : (op == CmpOp.NotIn) = false := by cases op <;> first | rfl | exact absurd rfl h2
  cases b <;> simp [behindInMarks, e1, e2]
theorem pe_cmpR {op : CmpOp} {r : R2} (ho : OpR X (compareOp op) r) (ha : PE X a ta) (hb : PE X b tb) (hm : behindInMarks op b = false) : PE X (.Compare a [op] [b] pos) (tOp r ta tb) := by
  intro pins s σ H Q I h
  exact wpAny_Compare1 (binT ha hb I h fun v u s2 x y H2 I2 rx ry q => ho pins s2 σ H2 x y v u Q I2 rx ry q) hm
def tTest (t : TE) : TT := fun σ H Q => t σ H fun x H' => ∃ k, x = .bl k ∧ Q k H'
theorem pt_cmpR {op : CmpOp} {r : R2} (ho : OpR X (compareOp op) r) (ha : PE X a ta) (hb : PE X b tb) (hm : behindInMarks op b = false) : PT X (.Compare a [op] [b] pos) (tTest (tOp r ta tb)) := by
  intro pins s σ H Q I h
  refine wpAny_isTrue_Compare1 (thn (ha pins s σ H _ I h) fun v s1 ⟨x, H1, I1, r1, q1⟩ => thn (hb pins s1 σ H1 _ I1 q1) fun u s2 ⟨y, H2, I2, r2, q2⟩ =>
    thn (ho pins s2 σ H2 x y v u _ I2 r1 r2 q2) fun c s3 ⟨z, H3, I3, r3, k, e, q3⟩ => ?_) hm
  subst e
  cases r3
  exact wpAny_truthy_bool ⟨H3, I3, q3⟩
theorem line63 : (sizeLine : Nat) < 2 ^ 63 := by rw [sizeLine_eq]; decide
theorem vals1 {x : V} {us : List Value} (r : Vals [x] us) : ∃ u, us = [u] ∧ RelV x u := by
  cases r with
  | cons r1 r2 => cases r2; exact ⟨_, rfl, r1⟩
end
end L2
namespace L2
open PySem PySem.Spec PyProof.Rows
structure ObjM (h : Heap) (x dx C : Addr) (mA : Str → Option Value) : Prop where
  obj : h.get? x = some (PySem.W.instObj C dx)
  ns : h.Ns1 dx mA
  ne : dx ≠ x
theorem lookIn_ns {h : Heap} {dx : Addr} {mA : Str → Option Value} (n : h.Ns1 dx mA) : ∃ od, h.get? dx = some od ∧ ∀ name, PySem.W.lookIn name od = some (mA name) := by
  obtain ⟨o, es, ep, ho, hd, hk, _, hm⟩ := n
  refine ⟨o, ho, fun name => ?_⟩
  have e := hm name
  unfold nsFind findBy at e
  rw [← Array.find?_toList] at e
  unfold PySem.W.lookIn
  rw [hd]
  dsimp only
  split
  · rename_i y q
    rw [q] at e
    exact congrArg some e
  · rename_i q
    rw [q] at e
    have a : es.toList.any (·.refKey) = false := by
      rw [List.any_eq_false]
      intro y hy
      obtain ⟨z, t, hkey⟩ := hk y (Array.mem_toList_iff.mp hy)
      simp [DictEntry.refKey, hkey]
    have a' : ¬ es.toList.any (·.refKey) = true := by rw [a]; exact Bool.false_ne_true
    rw [if_neg a']
    exact congrArg some e
theorem ObjM.look {h : Heap} {x dx C : Addr} {mA : Str → Option Value} (I : ObjM h x dx C mA) : ∃ od, PySem.W.InstAt h x (PySem.W.instObj C dx) C (some od) ∧ ∀ name, PySem.W.lookIn name od = some (mA name) :=
  let ⟨od, ho, hl⟩ := lookIn_ns I.ns
  ⟨od, ⟨I.obj, rfl, rfl, ho⟩, hl⟩
section
variable {prog : Program} {w : World} {A : Around} {E : Value → Shared → Prop} {s : Shared} {K : PySem.W.Frag} {x dx C f : Addr} {mA : Str → Option Value} {name : Str} {v : Value}
theorem get_map {expr : Bool} {Q : Value → Shared → Prop} (X : K.In s.heap) (I : ObjM s.heap x dx C mA) (hg : PySem.W.plainGet K C name = true) (hh : PySem.W.hasDictIn K C = true)
    (ha : PySem.W.findIn K (.ref C) name = some none) (hv : mA name = some v) (hv' : PySem.W.handedIn v = true) (h : Q v { s with toks := s.toks + 1 }) :
    wpAny (model prog w) A (getAttr (.ref x) name expr) Q E s := by
  obtain ⟨od, J, hl⟩ := I.look
  exact PySem.W.get_value X J (PySem.W.plainGet_of hg).1 (PySem.W.findObj_own hh ha rfl (by rw [hl, hv])) hv' h
theorem set_map {ns : List Str} {Q : Unit → Shared → Prop} (X : K.In s.heap) (I : ObjM s.heap x dx C mA)
    (hs : PySem.W.findIn K (.ref C) "__setattr__" = some (some (.builtin "object.__setattr__"))) (hp : PySem.W.plainOver K C = true) (ht : PySem.W.takerIn K C name = some none) (hh : PySem.W.hasDictIn K C = true)
    (hw : PySem.Within mA ns) (hsz : ns.length ≤ sizeLine)
    (h : ∀ h', ObjM h' x dx C (fun y => if y = name then some v else mA y) → Heap.SameBut dx s.heap h' → Q () { s with heap := h', toks := s.toks + 2 }) :
    wpAny (model prog w) A (setAttr (.ref x) name v) Q E s := by
  obtain ⟨od, J, hl⟩ := I.look
  refine PySem.W.set_plain X J hs (PySem.W.osa_open (s := { s with toks := s.toks + 1 }) (r := none) X J hp ht fun b => ?_)
  obtain ⟨cd, hc, hd'⟩ := PySem.W.any_some hh
  have hx : s.heap.get? x = some ⟨.ref C, some dx, .plain, #[]⟩ := I.obj
  refine wpAny_bind (wpAny_pure (wpAny_bind (wpAny_bind (wpAny_loadPart hx (wpAny_bind (PySem.W.Looks.here (s := { s with toks := s.toks + 1 }) (PySem.W.looks_clsIn X hc) ?_))))))
  rw [hd']
  refine wpAny_pure (a := some dx) (wpAny_bind (wpAny_pure (wpAny_bind ?_)))
  refine wpAny_nsSet1 (s := { s with toks := s.toks + 1 }) I.ns fun h' hn2 hs2 => ?_
  obtain ⟨oD, esD, epD, hoD, hdD, hcD⟩ := hn2.count (PySem.Within.cons name v hw)
  refine wpAny_bind (wpAny_lookBehind hoD (by rw [hdD]; exact pastItsLine_dict (Nat.le_trans hcD (by rw [List.length_cons]; omega))) ?_)
  exact wpAny_pure (h _ ⟨(hs2.2 _ (Ne.symm I.ne)).trans I.obj, hn2, I.ne⟩ hs2)
theorem make_map {R : Result → Shared → Prop} {vs : List Value} {kw : List (Str × Value)} (X : K.In s.heap) (hm : PySem.W.makesIn K C = true)
    (hi : PySem.W.findIn K (.ref C) "__init__" = some (some (.ref f))) (hf : PySem.W.typeIn K (.ref f) = some (.type "function"))
    (h : codeAny (model prog w) (A.under (.builtin "type.__call__" ⟨.ref C :: vs, kw⟩)) (.call (.ref f) ⟨.ref (s.heap.objs.size + 1) :: vs, kw⟩) (PySem.W.InitBack (s.heap.objs.size + 1) R)
      { s with heap := (s.heap.push PySem.W.emptyDict).push (PySem.W.instObj C s.heap.objs.size) }) :
    codeAny (model prog w) A (.call (.ref C) ⟨vs, kw⟩) R s := by
  obtain ⟨hh, g, d, t, os⟩ := s
  exact PySem.W.make_core (PySem.W.makes_of X hm) (PySem.W.looks_findIn X hi) (fun self => PySem.W.bind_fn X self hf) (.inl rfl) h
end
def putF (f : Str) (v : V) : List (Str × V) → List (Str × V)
  | [] => [(f, v)]
  | (g, x) :: r => if g = f then (g, v) :: r else (g, x) :: putF f v r
theorem lookup_putF (f g : Str) (v : V) : ∀ fs : List (Str × V), (putF f v fs).lookup g = if g = f then some v else fs.lookup g
  | [] => by
    show List.lookup g [(f, v)] = _
    by_cases h : g = f
    · have hb : (g == f) = true := beq_iff_eq.mpr h
      simp only [List.lookup, hb, if_pos h]
    · have hb : (g == f) = false := beq_eq_false_iff_ne.mpr h
      simp only [List.lookup, hb, if_neg h]
  | (k, x) :: r => by
    have ih := lookup_putF f g v r
    rw [show putF f v ((k, x) :: r) = (if k = f then (k, v) :: r else (k, x) :: putF f v r) from rfl]
    by_cases hk : k = f
    · rw [if_pos hk]
      by_cases h : g = k
      · have hb : (g == k) = true := beq_iff_eq.mpr h
        simp only [List.lookup, hb, if_pos (h.trans hk)]
      · have hb : (g == k) = false := beq_eq_false_iff_ne.mpr h
        simp only [List.lookup, hb, if_neg (fun e : g = f => h (e.trans hk.symm))]
    · rw [if_neg hk]
      by_cases h : g = k
      · have hb : (g == k) = true := beq_iff_eq.mpr h
        simp only [List.lookup, hb, if_neg (fun e : g = f => hk (h.symm.trans e))]
      · have hb : (g == k) = false := beq_eq_false_iff_ne.mpr h
        simp only [List.lookup, hb]
        exact ih
theorem keys_putF (f : Str) (v : V) : ∀ fs : List (Str × V), f ∈ (putF f v fs).map (·.1) ∧ ∀ g, g ∈ fs.map (·.1) → g ∈ (putF f v fs).map (·.1)
  | [] => ⟨by simp [putF], fun g h => by simp at h⟩
  | (k, x) :: r => by
    obtain ⟨i1, i2⟩ := keys_putF f v r
    rw [show putF f v ((k, x) :: r) = (if k = f then (k, v) :: r else (k, x) :: putF f v r) from rfl]
    by_cases hk : k = f
    · rw [if_pos hk]
      subst hk
      exact ⟨by simp, fun g h => by simpa using h⟩
    · rw [if_neg hk]
      refine ⟨?_, fun g h => ?_⟩
      · rw [List.map_cons]
        exact List.mem_cons_of_mem _ i1
      · rw [List.map_cons] at h ⊢
        rcases List.mem_cons.mp h with e | e
        · exact List.mem_cons.mpr (.inl e)
        · exact List.mem_cons_of_mem _ (i2 g e)
theorem length_putF (f : Str) (v : V) : ∀ fs : List (Str × V), (putF f v fs).length ≤ fs.length + 1
  | [] => by simp [putF]
  | (k, x) :: r => by
    have ih := length_putF f v r
    rw [show putF f v ((k, x) :: r) = (if k = f then (k, v) :: r else (k, x) :: putF f v r) from rfl]
    by_cases hk : k = f
    · rw [if_pos hk, List.length_cons, List.length_cons]; omega
    · rw [if_neg hk, List.length_cons, List.length_cons]; omega
theorem RelO.some_of {v : V} {o : Option Value} (r : RelO (some v) o) : ∃ u, o = some u ∧ RelV v u := by
  cases o with
  | none => exact (show False from r).elim
  | some u => exact ⟨u, rfl, r⟩
theorem handed_of {v : V} {u : Value} (r : RelV v u) : PySem.W.handedIn u = true := by
  cases v with
  | non => cases (show u = Value.none from r); rfl
  | bl b => cases (show u = Value.bool b from r); rfl
  | int i => obtain ⟨t, e⟩ := (show ∃ t, u = Value.int i t from r); cases e; rfl
  | str x => obtain ⟨t, e⟩ := (show ∃ t, u = Value.str x t from r); cases e; rfl
  | byt b => obtain ⟨t, e⟩ := (show ∃ t, u = Value.bytes b t from r); cases e; rfl
  | flt b => obtain ⟨t, e⟩ := (show ∃ t, u = Value.float b t from r); cases e; rfl
  | ref a => cases (show u = Value.ref a from r); rfl
  | ty n => cases (show u = Value.type n from r); rfl
section
variable {P : Program} {w : World} {H H' : Hp} {h h' : Heap} {a C dx : Addr} {fs fs' : List (Str × V)}
theorem ins_get (hok : HOk P w H h) (e : H a = some (.ins C dx fs)) : ∃ mA, ObjM h a dx C mA ∧ (∀ f, RelO (fs.lookup f) (mA f)) ∧ PySem.Within mA (fs.map (·.1)) ∧ fs.length ≤ 1000 ∧ H dx = some (.own a) := by
  obtain ⟨d, z, ne, ob, mA, n, r, q⟩ := (show ObjOk P w H h a (.ins C dx fs) from hok a _ e)
  exact ⟨mA, ⟨ob, n, ne⟩, r, q, z, d⟩
end
structure Cls (K : PySem.W.Frag) (C : Addr) : Prop where
  pg : PySem.W.plainGet K C Str.empty = true
  hd : PySem.W.hasDictIn K C = true
  po : PySem.W.plainOver K C = true
  sa : PySem.W.findIn K (.ref C) "__setattr__" = some (some (.builtin "object.__setattr__"))
theorem Cls.get {K : PySem.W.Frag} {C : Addr} (c : Cls K C) (f : Str) : PySem.W.plainGet K C f = true := c.pg
def NoAttr (K : PySem.W.Frag) (C : Addr) (f : Str) : Prop := PySem.W.findIn K (.ref C) f = some none
theorem NoAttr.taker {K : PySem.W.Frag} {C : Addr} {f : Str} (n : NoAttr K C f) : PySem.W.takerIn K C f = some none := by
  unfold PySem.W.takerIn
  rw [show PySem.W.findIn K (.ref C) f = some none from n]
  rfl
section
variable {X : Cx} {pins : List (Addr × Obj)} {σ : St} {H : Hp} {s : Shared} {a C dx : Addr} {fs : List (Str × V)} {f : Str} {v : V} {A : Around} {E : Value → Shared → Prop}
theorem getattr_ok {b : Bool} {Q : Value → Shared → Prop} (I : Inv X pins σ H s) (e : H a = some (.ins C dx fs)) (c : Cls X.K C) (n : NoAttr X.K C f) (l : fs.lookup f = some v)
    (h : ∀ u s', Inv X pins σ H s' → RelV v u → Q u s') : wpAny (model X.prog X.w) A (getAttr (.ref a) f b) Q E s := by
  obtain ⟨mA, O, r, _, _, _⟩ := ins_get I.hok e
  obtain ⟨u, hu, ru⟩ := RelO.some_of (v := v) (o := mA f) (by rw [← l]; exact r f)
  exact get_map I.kIn O (c.get f) c.hd n hu (handed_of ru) (h u _ (I.tok _) ru)
theorem setattr_ok {y : V} {u : Value} {Q : Unit → Shared → Prop} (I : Inv X pins σ H s) (e : H a = some (.ins C dx fs)) (c : Cls X.K C) (n : NoAttr X.K C f) (hl : fs.length < 1000) (ry : RelV y u)
    (h : ∀ s', Inv X pins σ (upd H a (.ins C dx (putF f y fs))) s' → Q () s') : wpAny (model X.prog X.w) A (setAttr (.ref a) f u) Q E s := by
  obtain ⟨mA, O, r, wi, _, ho⟩ := ins_get I.hok e
  have hz : (fs.map (·.1)).length ≤ sizeLine := by rw [List.length_map, sizeLine_eq]; omega
  refine set_map I.kIn O c.sa c.po n.taker c.hd wi hz fun h' O' sb => h _ ?_
  have hd : ∃ o, h'.get? dx = some o := let ⟨o, _, _, e', _⟩ := O'.ns; ⟨o, e'⟩
  refine I.write (x := a) (e := dx) (by rw [e]; exact True.intro) (.inr ho) (fun b q hb z => (sb.2 b hb).trans z) hd ?_
  refine ⟨by rw [upd_ne O.ne]; exact ho, ?_, O.ne, O'.obj, _, O'.ns, fun g => ?_, fun g hg => ?_⟩
  · have := length_putF f y fs; omega
  · show RelO ((putF f y fs).lookup g) (if g = f then some u else mA g)
    rw [lookup_putF]
    by_cases q : g = f
    · rw [if_pos q, if_pos q]; exact ry
    · rw [if_neg q, if_neg q]; exact r g
  · by_cases q : g = f
    · rw [q]; exact (keys_putF f y fs).1
    · refine (keys_putF f y fs).2 g (wi g fun z => hg ?_)
      show (if g = f then some u else mA g) = none
      rw [if_neg q]; exact z
theorem Inv.made (I : Inv X pins σ H s) : Inv X pins σ (upd (upd H s.heap.objs.size (.own (s.heap.objs.size + 1))) (s.heap.objs.size + 1) (.ins C s.heap.objs.size []))
    { s with heap := (s.heap.push PySem.W.emptyDict).push (PySem.W.instObj C s.heap.objs.size) } := by
  have e1 : (s.heap.push PySem.W.emptyDict).get? s.heap.objs.size = some PySem.W.emptyDict := Heap.get?_push_size s.heap rfl
  have e2 : ((s.heap.push PySem.W.emptyDict).push (PySem.W.instObj C s.heap.objs.size)).get? (s.heap.objs.size + 1) = some (PySem.W.instObj C s.heap.objs.size) := by
    have := Heap.get?_push_size (s.heap.push PySem.W.emptyDict) (o := PySem.W.instObj C s.heap.objs.size) rfl
    rwa [Heap.size_push] at this
  have e3 : (s.heap.push PySem.W.emptyDict).Ns s.heap.objs.size (fun _ => none) := ⟨PySem.W.emptyDict, #[], _, e1, rfl, (fun e he => absurd he (by simp)), fun _ => rfl⟩
  have I1 := I.laid (a := s.heap.objs.size) (o := .own (s.heap.objs.size + 1)) (h' := s.heap.push PySem.W.emptyDict) (t' := s.toks) (fun b u q => Heap.get?_push_of_some _ q) (Nat.le_refl _) ⟨_, e1⟩
  refine I1.laid (a := s.heap.objs.size + 1) (o := .ins C s.heap.objs.size []) (t' := s.toks) (fun b u q => Heap.get?_push_of_some _ q) (Nat.le_of_eq (Heap.size_push _ _)) ?_
  have ne : s.heap.objs.size ≠ s.heap.objs.size + 1 := Nat.ne_of_lt (Nat.lt_succ_self _)
  refine ⟨by rw [upd_ne ne, upd_same], Nat.zero_le _, ne, e2, fun _ => none, (Heap.Ns1.of_empty e3).at fun o q => Heap.get?_push_of_some _ q, fun _ => True.intro, fun y hy => absurd rfl hy⟩
theorem attr_of {prog : Program} {w : World} {env : Env} {e : Expr} {f : Str} {pos : Pos} {s : Shared} {Q : Value → Shared → Prop} (hb : attributeBase e f env (eval e env) = eval e env)
    (h : wpAny (model prog w) A (eval e env) (fun o s₁ => wpAny (model prog w) A (getAttr o f true) Q E s₁) E s) : wpAny (model prog w) A (eval (.Attribute e f pos) env) Q E s :=
  Attribute_any_ h (by rw [arm_eval_Attribute, hb])
end
def tFld (K : PySem.W.Frag) (ta : TE) (f : Str) : TE := fun σ H Q => ta σ H fun x H1 => ∃ a C dx fs v, x = .ref a ∧ H1 a = some (.ins C dx fs) ∧ Cls K C ∧ NoAttr K C f ∧ fs.lookup f = some v ∧ Q v H1
def sFld (K : PySem.W.Frag) (ta tv : TE) (f : Str) : TS := fun D σ H => tv σ H fun y H1 => ta σ H1 fun x H2 => ∃ a C dx fs, x = .ref a ∧ H2 a = some (.ins C dx fs) ∧ Cls K C ∧ NoAttr K C f ∧ fs.length < 1000 ∧
  D.nx σ (upd H2 a (.ins C dx (putF f y fs)))
section
variable {X : Cx} {o e value : Expr} {f : Str} {pos pos' tpos : Pos} {ta tv : TE}
theorem pe_fld (he : PE X e ta) (hb : attributeBase e f X.env (eval e X.env) = eval e X.env) : PE X (.Attribute e f pos) (tFld X.K ta f) := by
  intro pins s σ H Q I h
  refine attr_of hb (thn (he pins s σ H _ I h) fun u s1 ⟨x, H1, I1, rx, a, C, dx, fs, v, ex, ea, c, n, l, q⟩ => ?_)
  subst ex
  obtain rfl : u = Value.ref a := rx
  exact getattr_ok I1 ea c n l fun u' s2 I2 ru => ⟨v, H1, I2, ru, q⟩
theorem ps_fld (ha : PE X o ta) (hv : PE X value tv) (hs : swapsWith value (some (.Attribute o f pos')) pos.line X.env = pure false) : PS X (.Assign [.Attribute o f pos'] value pos) (sFld X.K ta tv f) := by
  intro pins s σ H D I h
  refine plainObj_wpAny_Assign_Attribute (thn (hv pins s σ H _ I h) fun u s1 ⟨y, H1, I1, ry, q⟩ => thn (ha pins s1 σ H1 _ I1 q) fun ov s2 ⟨x, H2, I2, rx, a, C, dx, fs, ex, ea, c, n, l, q2⟩ => ?_) hs
  subst ex
  obtain rfl : ov = Value.ref a := rx
  exact setattr_ok I2 ea c n l ry fun s3 I3 => ⟨σ, _, I3, q2⟩
end
section
variable {X : Cx} {pins : List (Addr × Obj)} {σ : St} {H : Hp} {s : Shared} {A : Around} {E : Value → Shared → Prop} {Q : Value → Shared → Prop} {c : Value} {b : Bool}
end
end L2
namespace L2
open PySem PySem.Spec PyProof.Rows
structure Room (k : Nat) (A : Around) : Prop where
  hd : A.handled = none
  dp : A.depth + 3 * k + 5 < recursionLimit
  un : A.units + 16 * k + 200 < cLine
theorem Room.mono {j k : Nat} {A : Around} (r : Room k A) (h : j ≤ k) : Room j A := ⟨r.hd, by have := r.dp; omega, by have := r.un; omega⟩
theorem Room.deeper {k : Nat} {A : Around} (r : Room (k + 1) A) (env : Env) : Room k (A.deeper env) :=
  ⟨r.hd, by have := r.dp; show A.depth + 1 + 3 * k + 5 < _; omega, by have := r.un; show A.units + 3 + 16 * k + 200 < _; omega⟩
theorem make_depth {A : Around} {C : Addr} {us : List Value} {kw : List (Str × Value)} : (A.under (.builtin "type.__call__" ⟨.ref C :: us, kw⟩)).depth = A.depth + 1 := by
  first | rfl | simp [Around.under, Code.weight, Code.isCreation, Code.isGuard, Code.isCaller, Code.frames, Code.isFrame, guardIds]
theorem make_units {A : Around} {C : Addr} {us : List Value} {kw : List (Str × Value)} : (A.under (.builtin "type.__call__" ⟨.ref C :: us, kw⟩)).units = A.units + 1 := by
  first | rfl | simp [Around.under, Code.cUnits, Code.frames, Code.isFrame]
theorem Room.make {k : Nat} {A : Around} (r : Room (k + 1) A) (C : Addr) (us : List Value) (kw : List (Str × Value)) : Room k (A.under (.builtin "type.__call__" ⟨.ref C :: us, kw⟩)) :=
  ⟨r.hd, by have := r.dp; rw [make_depth]; omega, by have := r.un; rw [make_units]; omega⟩
theorem Room.depth {k : Nat} {A : Around} (r : Room k A) : A.depth < recursionLimit := by have := r.dp; omega
theorem Room.units {k : Nat} {A : Around} (r : Room k A) : A.units + 64 < cLine := by have := r.un; omega
def tNil : TA := fun _ H Q => Q [] H
def tCons (ta : TE) (tr : TA) : TA := fun σ H Q => ta σ H fun x H1 => tr σ H1 fun xs H2 => Q (x :: xs) H2
section
variable {X : Cx} {e : Expr} {es : List Expr} {te : TE} {t : TA} {pos : Pos}
theorem pa_nil : PA X [] tNil := fun _ _ _ _ H Q I h => Calls.spliced_nil ⟨[], H, I, .nil, h⟩
theorem pa_cons (ha : PE X e te) (hr : PA X es t) (hs : starEach (e :: es) X.env = (false, eval e X.env) :: starEach es X.env := by rfl) : PA X (e :: es) (tCons te t) := by
  intro pos pins s σ H Q I h
  rw [hs]
  show wpAny _ _ (spliced ((false, eval e X.env) :: backTo pos (starEach es X.env))) _ _ s
  refine Calls.spliced_cons (thn (ha pins s σ H _ I h) fun u s1 ⟨x, H1, I1, r1, q1⟩ => ?_)
  exact thn (hr pos pins s1 σ H1 _ I1 q1) fun us s2 ⟨xs, H2, I2, r2, q2⟩ => ⟨x :: xs, H2, I2, .cons r1 r2, q2⟩
def tTup (t : TA) : TE := fun σ H Q => t σ H fun xs H1 => xs.length ≤ sizeLine ∧ ∀ p, H1 p = none → Q (.ref p) (upd H1 p (.tup xs))
def tLst (t : TA) : TE := fun σ H Q => t σ H fun xs H1 => xs.length ≤ sizeLine ∧ ∀ p, H1 p = none → Q (.ref p) (upd H1 p (.lst xs))
theorem pe_tup {x1} (h : PA X es t) : PE X (.Tuple es x1 pos) (tTup t) := by
  intro pins s σ H Q I hq
  refine wpAny_Tuple_spliced (thn (h pos pins s σ H _ I hq) fun us s1 ⟨xs, H1, I1, r, z, q⟩ => ⟨by rw [← r.length]; exact z, ?_⟩)
  have hf : H1 s1.heap.objs.size = none := I1.hok.fresh (Nat.le_refl _)
  refine ⟨.ref s1.heap.objs.size, upd H1 s1.heap.objs.size (.tup xs), I1.laid (t' := s1.toks) (fun b u e => Heap.get?_push_of_some _ e) (Nat.le_refl _) ?_, rfl, q _ hf⟩
  exact ⟨z, us, r, ⟨_, Heap.get?_push_size _ rfl, rfl, _, rfl⟩⟩
theorem pe_lst (h : PA X es t) : PE X (.List es pos) (tLst t) := by
  intro pins s σ H Q I hq
  refine wpAny_List_spliced (thn (h pos pins s σ H _ I hq) fun us s1 ⟨xs, H1, I1, r, z, q⟩ => ⟨by rw [← r.length]; exact z, ?_⟩)
  have hf : H1 s1.heap.objs.size = none := I1.hok.fresh (Nat.le_refl _)
  refine ⟨.ref s1.heap.objs.size, upd H1 s1.heap.objs.size (.lst xs), I1.laid (t' := s1.toks) (fun b u e => Heap.get?_push_of_some _ e) (Nat.le_refl _) ?_, rfl, q _ hf⟩
  exact ⟨z, us, 0, r, Heap.get?_push_size _ rfl⟩
end
abbrev Sp := List V → Hp → VK → XK → Prop
abbrev CXT := List Env → Hp → Shared → XK → Value → Shared → Prop
structure Env0 (P : Program) (w : World) (K : PySem.W.Frag) (mg : Str → Option Value) (base : Heap) (A : Around) (outer : List Env) (s : Shared) (H : Hp) : Prop where
  frames : A.frames = some outer
  mod : Mod K mg base
  bs : ∀ b o, base.get? b = some o → s.heap.get? b = some o ∧ H b = none
  bsz : base.objs.size ≤ s.heap.objs.size
  funs : s.heap.FunFrames base outer
  frf : ∀ b ∈ frs outer, H b = none
  hok : HOk P w H s.heap
  bare : AllBare s.gens
def CE (outer : List Env) (P : Program) (w : World) (H : Hp) (s : Shared) (Q : VK) (u : Value) (s' : Shared) : Prop :=
  ∃ v H', s'.os = s.os ∧ AllBare s'.gens ∧ Un (frs outer) [] H H' s.heap s'.heap ∧ HOk P w H' s'.heap ∧ RelV v u ∧ Q v H'
def CR (CX : CXT) (outer : List Env) (P : Program) (w : World) (H : Hp) (s : Shared) (Q : VK) (E : XK) (r : Result) (s' : Shared) : Prop :=
  match r with
  | .ok (.ret u) => CE outer P w H s Q u s'
  | .ok _ => False
  | .error e => CX outer H s E e s'
structure FnOk (P : Program) (w : World) (K : PySem.W.Frag) (mg : Str → Option Value) (base : Heap) (CX : CXT) (k : Nat) (f : Addr) (fd : FuncData) (ps : List Str) (sp : Sp) : Prop where
  len : ∀ vs H Q E, sp vs H Q E → vs.length = ps.length
  run : ∀ (A : Around) (outer : List Env) (s : Shared) (H : Hp) (args : Args) (us : List Value) (vs : List V) (Q : VK) (E : XK), Room k A → Env0 P w K mg base A outer s H → BindsTo s fd args (ps.zip us) → Vals vs us → sp vs H Q E →
    codeAny (model P w) A (.call (.ref f) args) (CR CX outer P w H s Q E) s
theorem FnOk.mono {P : Program} {w : World} {K : PySem.W.Frag} {mg : Str → Option Value} {base : Heap} {CX : CXT} {j k : Nat} {f : Addr} {fd : FuncData} {ps : List Str} {sp : Sp} (F : FnOk P w K mg base CX j f fd ps sp) (h : j ≤ k) :
    FnOk P w K mg base CX k f fd ps sp := ⟨F.len, fun A outer s H args us vs Q E hr => F.run A outer s H args us vs Q E (hr.mono h)⟩
theorem Env0.make {P : Program} {w : World} {K : PySem.W.Frag} {mg : Str → Option Value} {base : Heap} {A : Around} {outer : List Env} {s : Shared} {H : Hp} (e : Env0 P w K mg base A outer s H) (C : Addr) (us : List Value) (kw : List (Str × Value)) :
    Env0 P w K mg base (A.under (.builtin "type.__call__" ⟨.ref C :: us, kw⟩)) outer s H := ⟨by first | exact e.frames | (simpa [Around.under, Code.envs, Code.isFrame, pushEnvs] using e.frames), e.mod, e.bs, e.bsz, e.funs, e.frf, e.hok, e.bare⟩
section
variable {X : Cx} {pins : List (Addr × Obj)} {σ : St} {H : Hp} {s s' : Shared}
theorem Inv.env0 (I : Inv X pins σ H s) : Env0 X.prog X.w X.K X.mg X.base X.A X.stack s H :=
  ⟨I.ok.frames, I.ok.mod, I.bs, Nat.le_trans I.ok.bsz I.sz, I.stack, I.stkFree, I.hok, I.bare⟩
theorem Inv.after {Q : VK} {u : Value} (I : Inv X pins σ H s) (h : CE X.stack X.prog X.w H s Q u s') : EP X pins σ Q u s' := by
  obtain ⟨v, H', os, bare, un, hok, r, q⟩ := h
  obtain ⟨hh, g, d, t, os'⟩ := s'
  obtain rfl : os' = s.os := os
  exact ⟨v, H', I.call (h' := hh) (g' := g) (d' := d) (t' := t) (ch := []) un hok bare (fun b z => absurd z (by simp)), r, q⟩
end
def tCall (sp : Sp) (dvs : List V) (E : XK) (t : TA) : TE := fun σ H Q => t σ H fun vs H1 => sp (vs ++ dvs) H1 Q E
def tMake (C : Addr) (sp : Sp) (dvs : List V) (E : XK) (t : TA) : TE := fun σ H Q => t σ H fun vs H1 => ∀ x dx, H1 x = none → H1 dx = none → dx ≠ x →
  sp (.ref x :: (vs ++ dvs)) (upd (upd H1 dx (.own x)) x (.ins C dx [])) (fun v H2 => v = .non ∧ Q (.ref x) H2) E
def Binds (K : PySem.W.Frag) (fd : FuncData) (ps : List Str) (ds : List Value) : Prop :=
  ∀ (s : Shared) (us : List Value), K.In s.heap → (us ++ ds).length = ps.length → BindsTo s fd ⟨us, []⟩ (ps.zip (us ++ ds))
theorem Binds.all {K : PySem.W.Frag} {fd : FuncData} {ps : List Str} (h : ∀ us : List Value, us.length = ps.length → bindArgs fd ⟨us, []⟩ = pure (ps.zip us)) : Binds K fd ps [] := fun s us _ hl => by
  rw [List.append_nil] at hl ⊢
  exact .of_eq (h us hl)
def Passes (CX : CXT) (X : Cx) (E : XK) : Prop := ∀ (pins : List (Addr × Obj)) (σ : St) (H : Hp) (s : Shared) (e : Value) (s' : Shared), Inv X pins σ H s → CX X.stack H s E e s' → X.xe e s'
section
variable {X : Cx} {CX : CXT} {k : Nat} {f C : Addr} {fd : FuncData} {ps : List Str} {sp : Sp} {dvs : List V} {ds : List Value} {E : XK} {x m : Str} {p pos apos : Pos} {e o : Expr} {es : List Expr} {ta : TE} {t : TA}
theorem run_fn {pins : List (Addr × Obj)} {σ : St} {H : Hp} {s : Shared} {Q : VK} {us : List Value} {vs : List V} (F : FnOk X.prog X.w X.K X.mg X.base CX k f fd ps sp) (hr : Room k X.A) (hb : Binds X.K fd ps ds) (hd : Vals dvs ds) (hx : Passes CX X E)
    (I : Inv X pins σ H s) (r : Vals vs us) (h : sp (vs ++ dvs) H Q E) : wpAny (model X.prog X.w) X.A (call (.ref f) us) (EP X pins σ Q) X.xe s := by
  have r2 : Vals (vs ++ dvs) (us ++ ds) := r.append hd
  have hl : (us ++ ds).length = ps.length := by rw [← r2.length]; exact F.len _ _ _ _ h
  refine wpAny_call (codeAny_mono (F.run X.A X.stack s H ⟨us, []⟩ (us ++ ds) (vs ++ dvs) Q E hr I.env0 (hb s us I.kIn hl) r2 h) fun r s' hq => ?_)
  cases r with
  | error e => exact hx pins σ H s e s' I hq
  | ok fl =>
    cases fl with
    | ret u => exact I.after hq
    | next => exact False.elim hq
    | brk => exact False.elim hq
    | cont => exact False.elim hq
theorem pe_call (F : FnOk X.prog X.w X.K X.mg X.base CX k f fd ps sp) (hr : Room k X.A) (hg : Gl X x) (hm : X.mg x = some (.ref f)) (hk : PySem.W.keepIn X.K (.ref f) = true) (hb : Binds X.K fd ps ds) (hd : Vals dvs ds) (hx : Passes CX X E)
    (ha : PA X (e :: es) t) (hdb : (x == ("__debug__" : Str)) = false := by decide) (he : starEach (e :: es) X.env = (false, eval e X.env) :: starEach es X.env := by rfl) (hpl : (backTo pos (starEach es X.env)).any (·.1) = false := by rfl) :
    PE X (.Call (.Name x p) (e :: es) [] pos) (tCall sp dvs E t) := by
  intro pins s σ H Q I h
  refine wpAny_Call_Name_kw (ld_glob I hg hm ?_ hdb)
  refine PySem.W.callWith_K (h₀ := X.base) I.ok.mod.kin hk (thn (ha pos pins s σ H _ I h) fun us s1 ⟨vs, H1, I1, r, q⟩ => ⟨I1.kIn, ?_⟩) he hpl
  exact run_fn F hr hb hd hx I1 r q
structure Mk (K : PySem.W.Frag) (C f : Addr) : Prop where
  makes : PySem.W.makesIn K C = true
  init : PySem.W.findIn K (.ref C) "__init__" = some (some (.ref f))
  fn : PySem.W.isFn K (.ref f) = true
  kp : PySem.W.keepIn K (.ref C) = true
theorem run_make {pins : List (Addr × Obj)} {σ : St} {H : Hp} {s : Shared} {Q : VK} {us : List Value} {vs : List V} (M : Mk X.K C f) (F : FnOk X.prog X.w X.K X.mg X.base CX k f fd ps sp) (hr : Room (k + 1) X.A) (hb : Binds X.K fd ps ds) (hd : Vals dvs ds)
    (hx : Passes CX X E) (I : Inv X pins σ H s) (r : Vals vs us)
    (h : ∀ x dx, H x = none → H dx = none → dx ≠ x → sp (.ref x :: (vs ++ dvs)) (upd (upd H dx (.own x)) x (.ins C dx [])) (fun v H2 => v = .non ∧ Q (.ref x) H2) E) :
    wpAny (model X.prog X.w) X.A (call (.ref C) us) (EP X pins σ Q) X.xe s := by
  have hq := h (s.heap.objs.size + 1) s.heap.objs.size (I.hok.fresh (Nat.le_succ _)) (I.hok.fresh (Nat.le_refl _)) (Nat.ne_of_lt (Nat.lt_succ_self _))
  have I2 := Inv.made (C := C) I
  have r2 : Vals (V.ref (s.heap.objs.size + 1) :: (vs ++ dvs)) (Value.ref (s.heap.objs.size + 1) :: (us ++ ds)) := .cons rfl (r.append hd)
  have hl : (Value.ref (s.heap.objs.size + 1) :: us ++ ds).length = ps.length := by
    have e := r2.length
    rw [F.len _ _ _ _ hq] at e
    exact e.symm
  refine wpAny_call (make_map (f := f) I.kIn M.makes M.init (beq_iff_eq.mp M.fn) (codeAny_mono (F.run _ X.stack _ _ ⟨Value.ref (s.heap.objs.size + 1) :: us, []⟩ (Value.ref (s.heap.objs.size + 1) :: (us ++ ds)) _ _ E (hr.make C us [])
    (I2.env0.make C us []) (hb _ (Value.ref (s.heap.objs.size + 1) :: us) I2.kIn hl) r2 hq) fun r s' hq' => ?_))
  cases r with
  | error e => exact hx pins σ _ _ e s' I2 hq'
  | ok fl =>
    cases fl with
    | ret u =>
      obtain ⟨v, H', I3, rv, ev, q3⟩ := I2.after hq'
      subst ev
      exact ⟨rv, ⟨V.ref (s.heap.objs.size + 1), H', I3, rfl, q3⟩⟩
    | next => exact False.elim hq'
    | brk => exact False.elim hq'
    | cont => exact False.elim hq'
theorem pe_make0 (M : Mk X.K C f) (F : FnOk X.prog X.w X.K X.mg X.base CX k f fd ps sp) (hr : Room (k + 1) X.A) (hg : Gl X x) (hm : X.mg x = some (.ref C)) (hb : Binds X.K fd ps ds) (hd : Vals dvs ds) (hx : Passes CX X E)
    (hdb : (x == ("__debug__" : Str)) = false := by decide) : PE X (.Call (.Name x p) [] [] pos) (tMake C sp dvs E tNil) := by
  intro pins s σ H Q I h
  refine wpAny_Call_Name_kw (ld_glob I hg hm ?_ hdb)
  exact PySem.W.callWith_K0 I.kIn M.kp (run_make (us := []) M F hr hb hd hx I .nil h)
end
section
variable {X : Cx} {CX : CXT} {k : Nat} {f C : Addr} {fd : FuncData} {ps ks : List Str} {sp : Sp} {E : XK} {x m : Str} {p pos apos kpos : Pos} {e o : Expr} {es : List Expr} {kws : List Keyword} {te ta : TE} {t tk : TA} {nm : Option Str}
variable {g : List Value → List Value → List Value} {gV : List V → List V → List V}
end
structure FnScope (N P : List Str) (sc : Scope) : Prop where
  kind : sc.kind = .function
  co : sc.isCoroutine = false
  gen : sc.isGenerator = false
  nd : N.Nodup
  pre : N.take P.length = P
  par : ∀ x ∈ P, sc.names.lookup x = some .local ∨ sc.names.lookup x = some .cell
  nofree : ∀ y ∈ sc.names, y.2 ≠ .free
theorem bindL_out {kindOf : Str → Option NameKind} {x : Str} : ∀ {binds : List (Str × Value)} {m : Str → Option Value}, (∀ v, (x, v) ∉ binds) → bindL kindOf binds m x = m x
  | [], _, _ => rfl
  | (n, v) :: r, m, h => by
    unfold bindL
    rw [bindL_out fun w hw => h w (List.mem_cons_of_mem _ hw)]
    split
    · have : x ≠ n := by rintro rfl; exact h v List.mem_cons_self
      simp [this]
    · rfl
theorem bindC_out {kindOf : Str → Option NameKind} {x : Str} : ∀ {binds : List (Str × Value)} {m : Str → Option Value}, (∀ v, (x, v) ∉ binds) → bindC kindOf binds m x = m x
  | [], _, _ => rfl
  | (n, v) :: r, m, h => by
    unfold bindC
    rw [bindC_out fun w hw => h w (List.mem_cons_of_mem _ hw)]
    split
    · rfl
    · have : x ≠ n := by rintro rfl; exact h v List.mem_cons_self
      simp [this]
theorem bindL_get {kindOf : Str → Option NameKind} {x : Str} {v : Value} : ∀ {P : List Str} {vs : List Value} {i : Nat} {m : Str → Option Value}, P.Nodup → P[i]? = some x → vs[i]? = some v → kindOf x = some .local →
    bindL kindOf (P.zip vs) m x = some v
  | [], _, _, _, _, h, _, _ => by simp at h
  | _ :: _, [], _, _, _, _, h, _ => by simp at h
  | p :: P, w :: vs, 0, m, nd, h1, h2, hk => by
    simp at h1 h2; subst h1; subst h2
    show bindL kindOf ((p, w) :: P.zip vs) m p = _
    unfold bindL
    rw [bindL_out fun v hv => (List.nodup_cons.mp nd).1 (List.of_mem_zip hv).1, if_pos hk]
    simp
  | p :: P, w :: vs, i + 1, m, nd, h1, h2, hk => by
    show bindL kindOf ((p, w) :: P.zip vs) m x = _
    unfold bindL
    exact bindL_get (i := i) (List.nodup_cons.mp nd).2 (by simpa using h1) (by simpa using h2) hk
theorem bindC_get {kindOf : Str → Option NameKind} {x : Str} {v : Value} : ∀ {P : List Str} {vs : List Value} {i : Nat} {m : Str → Option Value}, P.Nodup → P[i]? = some x → vs[i]? = some v → kindOf x ≠ some .local →
    bindC kindOf (P.zip vs) m x = some v
  | [], _, _, _, _, h, _, _ => by simp at h
  | _ :: _, [], _, _, _, _, h, _ => by simp at h
  | p :: P, w :: vs, 0, m, nd, h1, h2, hk => by
    simp at h1 h2; subst h1; subst h2
    show bindC kindOf ((p, w) :: P.zip vs) m p = _
    unfold bindC
    rw [bindC_out fun v hv => (List.nodup_cons.mp nd).1 (List.of_mem_zip hv).1, if_neg hk]
    simp
  | p :: P, w :: vs, i + 1, m, nd, h1, h2, hk => by
    show bindC kindOf ((p, w) :: P.zip vs) m x = _
    unfold bindC
    exact bindC_get (i := i) (List.nodup_cons.mp nd).2 (by simpa using h1) (by simpa using h2) hk
def start (N : List Str) (vs : List V) : St := vs.map some ++ List.replicate (N.length - vs.length) none
def cxOf (CX : CXT) (P : Program) (w : World) (K : PySem.W.Frag) (mg : Str → Option Value) (base : Heap) (N : List Str) (qual : Str) (scope : Scope) (f : Addr) (cd : Value) (A : Around) (outer : List Env) (s : Shared) (H : Hp) (E : XK) : Cx where
  prog := P
  w := w
  K := K
  mg := mg
  base := base
  A := A.deeper (envOfC qual scope s.heap.objs.size f cd)
  N := N
  s_0 := s
  H_0 := H
  env := envOfC qual scope s.heap.objs.size f cd
  outer := outer
  stack := envOfC qual scope s.heap.objs.size f cd :: outer
  ex := []
  calm := true
  fn := fun _ => true
  pn := []
  xe := fun e s' => wpAny (model P w) (A.deeper (envOfC qual scope s.heap.objs.size f cd)) (leaving (envOfC qual scope s.heap.objs.size f cd) e) (fun _ s'' => CX outer H s E e s'') (fun e' s'' => CX outer H s E e' s'') s'
theorem cell_has {sc : Scope} {n : Nat} {x : Str} (h : sc.names.lookup x = some .cell) : ∃ c, (cellsFrom n sc.names []).lookup x = some c := by
  have q := PySem.W.cellsFrom_some sc.names n [] (.inl h)
  exact Option.isSome_iff_exists.mp q
theorem inv_start {CX : CXT} {P : Program} {w : World} {K : PySem.W.Frag} {mg : Str → Option Value} {base : Heap} {N ps : List Str} {qual : Str} {scope : Scope} {f : Addr} {cd : Value} {A : Around} {outer : List Env} {s s1 : Shared} {H : Hp} {E : XK} {us : List Value} {vs : List V}
    (S : FnScope N ps scope) (hd : A.handled = none) (e0 : Env0 P w K mg base A outer s H) (hl : vs.length = ps.length) (r : Vals vs us)
    (x : InCallC s s.heap.objs.size (bindL (envOfC qual scope s.heap.objs.size f cd).kindOf (ps.zip us) fun _ => none) (cellsFrom (s.heap.objs.size + 1) scope.names []) (bindC (envOfC qual scope s.heap.objs.size f cd).kindOf (ps.zip us) fun _ => none) s1) :
    Inv (cxOf CX P w K mg base N qual scope f cd A outer s H E) [] (start N vs) H s1 := by
  have hpl : ps.length ≤ N.length := by have := congrArg List.length S.pre; rw [List.length_take] at this; omega
  obtain ⟨h1, tk, rfl, hk⟩ := x.done
  have noA : ∀ b : Addr, b ∉ (cxOf CX P w K mg base N qual scope f cd A outer s H E).ex := fun b z => absurd (show b ∈ ([] : List Addr) from z) (by simp)
  refine ⟨⟨e0.mod, S.kind, rfl, rfl, Nat.le_refl _, fun y z c h1 h2 => ?_, fun y hy => ?_, fun y c _ h => ?_, fun _ => hd, Around.frames_deeper e0.frames, .inr ⟨rfl, rfl⟩, fun b z => absurd z (noA b), e0.bs, e0.bsz, fun b _ _ => noA b, fun b z => absurd z (noA b), e0.funs, e0.frf⟩,
    rfl, e0.bare, Un.kept hk, ⟨_, x.toInCall.ns, fun i y v h1 h2 h3 => ?_⟩, fun y c h => ⟨_, x.cell y c h⟩, e0.hok.fresh (Nat.le_refl _), fun y c h => ?_, fun p hp => absurd (show p ∈ ([] : List (Addr × Obj)) from hp) (by simp), e0.hok.kept hk, ?_⟩
  · exact name_of_addr x.apart (PySem.mem_of_lookup h1) (PySem.mem_of_lookup h2)
  · have hy : scope.names.lookup y = some .cell ∨ scope.names.lookup y = some .free := hy
    rcases hy with hy | hy
    · exact cell_has hy
    · exact absurd rfl (S.nofree _ (PySem.mem_of_lookup hy))
  · exact Nat.le_of_lt (x.above y c (PySem.mem_of_lookup h))
  · have hi : i < vs.length := by
      unfold start at h2
      by_cases hi : i < vs.length
      · exact hi
      · rw [List.getElem?_append_right (by simpa using hi)] at h2
        rw [List.getElem?_replicate] at h2
        split at h2 <;> cases h2
    have ha : vs[i]? = some v := by
      unfold start at h2
      rw [List.getElem?_append_left (by simpa using hi), List.getElem?_map] at h2
      cases e : vs[i]? with
      | none => rw [e] at h2; cases h2
      | some a => rw [e] at h2; cases h2; rfl
    obtain ⟨u, hu, rv⟩ := r.get ha
    have hp : ps[i]? = some y := by
      rw [← S.pre, List.getElem?_take_of_lt (by omega)]; exact h1
    have ndP : ps.Nodup := by rw [← S.pre]; exact S.nd.sublist (List.take_sublist _ _)
    refine ⟨u, rv, ?_⟩
    rcases S.par y (List.mem_of_getElem? hp) with k | k
    · exact .inl ⟨k, bindL_get ndP hp hu k⟩
    · obtain ⟨c, e⟩ := cell_has (n := s.heap.objs.size + 1) k
      refine .inr ⟨.inl k, c, e, ?_⟩
      have q := x.cell y c e
      rw [bindC_get ndP hp hu (by show scope.names.lookup y ≠ _; rw [k]; decide)] at q
      exact q
  · exact e0.hok.fresh (Nat.le_of_lt (x.above y c (PySem.mem_of_lookup h)))
  · unfold start
    show _ = N.length
    rw [List.length_append, List.length_map, List.length_replicate]
    omega
theorem fn_of {CX : CXT} {P : Program} {w : World} {K : PySem.W.Frag} {mg : Str → Option Value} {base : Heap} {k : Nat} {f : Addr} {name qual : Str} {params : Arguments} {body : List Stmt} {scope : Scope} {dV kV doc pm cdv ct oc : Value} {an od : Option Addr}
    {osl : Array (Option Value)} {N ps : List Str} {sp : Sp} (lk : K.lookup f = some ⟨oc, od, .func (PySem.W.fnOf name qual params body scope dV kV doc pm an cdv ct), osl⟩) (hcd : PySem.W.codeIn K cdv qual = true) (S : FnScope N ps scope)
    (len : ∀ vs H Q E, sp vs H Q E → vs.length = ps.length)
    (hbody : ∀ (A : Around) (outer : List Env) (s : Shared) (H : Hp) (vs : List V) (Q : VK) (E : XK), Room k (A.deeper (envOfC qual scope s.heap.objs.size f cdv)) → sp vs H Q E →
      ∃ t, PSs (cxOf CX P w K mg base N qual scope f cdv A outer s H E) body t ∧ t { nx := fun _ H' => Q .non H', rt := Q } (start N vs) H) :
    FnOk P w K mg base CX (k + 1) f (PySem.W.fnOf name qual params body scope dV kV doc pm an cdv ct) ps sp := by
  refine ⟨len, fun A outer s H args us vs Q E hr e0 hb r hsp => ?_⟩
  have hl := len _ _ _ _ hsp
  have KX : K.In s.heap := e0.mod.kin.keeps fun b o e => (e0.bs b o e).1
  have lim : s.heap.NoLimit := e0.mod.nolimit.keeps fun b o e => (e0.bs b o e).1
  have hkind : ∀ y ∈ ps.zip us, scope.names.lookup y.1 = some .local ∨ (scope.names.lookup y.1 = some .cell ∧ ((cellsFrom (s.heap.objs.size + 1) scope.names []).lookup y.1).isSome = true) := fun ⟨n, v⟩ hy => by
    rcases S.par n (List.of_mem_zip hy).1 with q | q
    · exact .inl q
    · exact .inr ⟨q, PySem.W.cellsFrom_some _ _ _ (.inl q)⟩
  refine codeAny_call_function hr.depth (KX _ _ lk) rfl S.co S.gen rfl (PySem.W.codeRec_of KX hcd) (hb _ _ _ _ ?_)
  refine wpAny_newFunctionEnv_cells S.kind hkind fun env he s1 x => ?_
  subst he
  refine ⟨lim.keeps x.toInCall.keep, codeAny_func ?_⟩
  obtain ⟨t, ht, hq⟩ := hbody A outer s H vs Q E (hr.deeper _) hsp
  have I : Inv (cxOf CX P w K mg base N qual scope f cdv A outer s H E) [] (start N vs) H s1 := inv_start S hr.hd e0 hl r x
  refine wpAny_mono (ht [] s1 (start N vs) H _ I hq) (fun fl s' hs => ?_) fun e s' hs => hs
  have fin : ∀ {σ' : St} {H' : Hp} {v : V} {u : Value}, Inv (cxOf CX P w K mg base N qual scope f cdv A outer s H E) [] σ' H' s' → RelV v u → Q v H' → CE outer P w H s Q u s' :=
    fun {σ' H' v u} J rv q => ⟨v, H', J.os, J.bare, J.base, J.hok, rv, q⟩
  cases fl with
  | ret u =>
    obtain ⟨v, σ', H', J, rv, q⟩ := hs
    exact fin J rv q
  | next =>
    obtain ⟨σ', H', J, q⟩ := hs
    exact fin (v := V.non) (u := Value.none) J rfl q
  | brk =>
    obtain ⟨_, _, _, q⟩ := hs
    exact False.elim q
  | cont =>
    obtain ⟨_, _, _, q⟩ := hs
    exact False.elim q
end L2
namespace L2
open PySem PySem.Spec PyProof.Rows
section
variable {X : Cx} {x : Str} {p pos : Pos} {e : Expr} {es : List Expr} {t : TA} {id T : String} {r : List V → Hp → VK → Prop}
def tCB (r : List V → Hp → VK → Prop) (t : TA) : TE := fun σ H Q => t σ H fun vs H1 => r vs H1 Q
theorem pe_callB (hc : CallR X (.builtin id) r) (hg : Gl X x) (hm : X.mg x = none) (hv : bootBuiltins x = some (.builtin id)) (ha : PA X (e :: es) t) (hn : x ≠ "__name__" := by decide) (hdb : (x == ("__debug__" : Str)) = false := by decide)
    (he : starEach (e :: es) X.env = (false, eval e X.env) :: starEach es X.env := by rfl) (hpl : (backTo pos (starEach es X.env)).any (·.1) = false := by rfl) : PE X (.Call (.Name x p) (e :: es) [] pos) (tCB r t) := by
  intro pins s σ H Q I h
  refine wpAny_Call_Name_kw (ld_blt I hg hm hv ?_ hn hdb)
  exact PyProof.Rows.callWith_builtin1 (thn (ha pos pins s σ H _ I h) fun us s1 ⟨vs, H1, I1, r1, q1⟩ => hc pins s1 σ H1 vs us Q I1 r1 q1) he hpl
theorem pe_callTy (hc : CallR X (.type T) r) (hg : Gl X x) (hm : X.mg x = none) (hv : bootBuiltins x = some (.type T)) (ha : PA X (e :: es) t) (hn : x ≠ "__name__" := by decide) (hdb : (x == ("__debug__" : Str)) = false := by decide)
    (he : starEach (e :: es) X.env = (false, eval e X.env) :: starEach es X.env := by rfl) (hpl : (backTo pos (starEach es X.env)).any (·.1) = false := by rfl) : PE X (.Call (.Name x p) (e :: es) [] pos) (tCB r t) := by
  intro pins s σ H Q I h
  refine wpAny_Call_Name_kw (ld_blt I hg hm hv ?_ hn hdb)
  exact PyProof.Rows.callWith_type1 (thn (ha pos pins s σ H _ I h) fun us s1 ⟨vs, H1, I1, r1, q1⟩ => hc pins s1 σ H1 vs us Q I1 r1 q1) he hpl
end
end L2
namespace HT
open PySem PyProof.Rows
section
open PySem.SeqAt
open PySem.AutoSeq1 (wpAny_loadPart')
open PySem.MeetsSeq PySem.MeetsSeq2 PySem.MeetsSeq3
end
section
variable {prog : Program} {w : World} {A : Around} {E : Value → Shared → Prop} {s : Shared}
def sIx (n d : Nat) : Option Int → Nat
  | none => d
  | some v => if v < 0 then (v + (n : Int)).toNat else min v.toNat n
theorem sIx_none (n d : Nat) : sIx n d none = d := rfl
theorem sIx_nat (n d k : Nat) : sIx n d (some (k : Int)) = min k n := by
  show (if (k : Int) < 0 then ((k : Int) + (n : Int)).toNat else min (k : Int).toNat n) = min k n
  rw [if_neg (by omega), Int.toNat_natCast]
end
end HT
namespace L2
open PySem PySem.Spec PyProof.Rows
abbrev TO := St → Hp → (Option Int → Hp → Prop) → Prop
def PO (X : Cx) (e : Option Expr) (t : TO) : Prop :=
  ∀ (pins : List (Addr × Obj)) (s : Shared) (σ : St) (H : Hp) (Q : Option Int → Hp → Prop), Inv X pins σ H s → t σ H Q →
    wpAny (model X.prog X.w) X.A (evalPart e X.env) (fun u s' => ∃ o H', Inv X pins σ H' s' ∧ IsPart u o ∧ Q o H') X.xe s
def tNoPart : TO := fun _ H Q => Q none H
def tPart (t : TE) : TO := fun σ H Q => t σ H fun x H1 => ∃ i, x = .int i ∧ Q (some i) H1
section
variable {X : Cx} {e : Expr} {te : TE} {lo hi : Option Expr} {tl th : TO} {pos p2 : Pos}
theorem po_none : PO X none tNoPart := by
  intro pins s σ H Q I h
  rw [evalPart_none]
  exact wpAny_pure ⟨none, H, I, .none, h⟩
theorem po_some (h : PE X e te) : PO X (some e) (tPart te) := by
  intro pins s σ H Q I hw
  rw [evalPart_some]
  refine thn (h pins s σ H _ I hw) fun u s1 ⟨x, H1, I1, r1, q1⟩ => ?_
  obtain ⟨i, rfl, q⟩ := q1
  obtain ⟨t, rfl⟩ := r1
  exact ⟨some i, H1, I1, .int i t, q⟩
def SlR (X : Cx) (r : V → Option Int → Option Int → Hp → VK → Prop) : Prop :=
  ∀ (pins : List (Addr × Obj)) (s : Shared) (σ : St) (H : Hp) (x : V) (v vl vu : Value) (lo hi : Option Int) (sl : Addr) (Q : VK), Inv X pins σ H s → RelV x v → s.heap.IsSliceOf sl vl vu .none → IsPart vl lo → IsPart vu hi → r x lo hi H Q →
    ∃ T id, typeLookup (.type T) "__getitem__" = pure (some (.builtin id)) ∧ s.TypeIs v T ∧ wpAny (model X.prog X.w) X.A (getItem v (.ref sl)) (EP X pins σ Q) X.xe s
def tSl (r : V → Option Int → Option Int → Hp → VK → Prop) (te : TE) (tl th : TO) : TE := fun σ H Q => te σ H fun x H1 => tl σ H1 fun l H2 => th σ H2 fun u H3 => r x l u H3 Q
theorem pe_slice {r : V → Option Int → Option Int → Hp → VK → Prop} (hr : SlR X r) (he : PE X e te) (hl : PO X lo tl) (hu : PO X hi th) : PE X (.Subscript e (.Slice lo hi none p2) pos) (tSl r te tl th) := by
  intro pins s σ H Q I h
  refine Subscript_ (thn (he pins s σ H _ I h) fun v s1 ⟨x, H1, I1, r1, q1⟩ => ?_)
  refine wpAny_Slice (thn (hl pins s1 σ H1 _ I1 q1) fun vl s2 ⟨l, H2, I2, pl, q2⟩ => thn (hu pins s2 σ H2 _ I2 q2) fun vu s3 ⟨u, H3, I3, pu, q3⟩ => ?_)
  rw [evalPart_none]
  refine wpAny_pure ?_
  have I4 : Inv X pins σ H3 { s3 with heap := s3.heap.push { cls := .type "slice", data := .fields #[vl, vu, .none] } } := I3.kept (t' := s3.toks) fun b ob q => Heap.get?_push_of_some _ q
  obtain ⟨T, id, hT, ht, hg⟩ := hr pins { s3 with heap := s3.heap.push { cls := .type "slice", data := .fields #[vl, vu, .none] } } σ H3 x v vl vu l u s3.heap.objs.size Q I4 r1 (Heap.IsSliceOf.new ..) pl pu q3
  show wpAny (model X.prog X.w) X.A (subscriptTail e (.Slice lo hi none p2) v (.ref s3.heap.objs.size)) (EP X pins σ Q) X.xe { s3 with heap := s3.heap.push { cls := .type "slice", data := .fields #[vl, vu, .none] } }
  exact tail_any (ops := [.ref s3.heap.objs.size, v]) ht hT hg (by with_unfolding_all rfl)
def cutV (xs : List V) (lo hi : Option Int) : List V := (xs.drop (HT.sIx xs.length 0 lo)).take (HT.sIx xs.length xs.length hi - HT.sIx xs.length 0 lo)
theorem cutV_length (xs : List V) (lo hi : Option Int) : (cutV xs lo hi).length ≤ xs.length := by
  unfold cutV
  rw [List.length_take, List.length_drop]
  omega
end
end L2
namespace L2
open PySem PySem.Spec PyProof.Rows
def ixN (n : Nat) (i : Int) : Option Nat := if 0 ≤ i then (if i < n then some i.toNat else none) else if -(n : Int) ≤ i then some (i + n).toNat else none
def atI {α : Type} (xs : List α) (i : Int) : Option α := (ixN xs.length i).bind fun j => xs[j]?
theorem ixN_seq {n : Nat} {i : Int} {j : Nat} (h : ixN n i = some j) : seqIndex? i n = some j ∧ j < n ∧ -(n : Int) ≤ i ∧ i < n := by
  unfold ixN at h
  by_cases h0 : 0 ≤ i
  · rw [if_pos h0] at h
    by_cases h1 : i < n
    · rw [if_pos h1] at h
      have e : i.toNat = j := Option.some.inj h
      exact ⟨by rw [seqIndex_of h0 h1, e], by omega, by omega, h1⟩
    · rw [if_neg h1] at h; cases h
  · rw [if_neg h0] at h
    by_cases h1 : -(n : Int) ≤ i
    · rw [if_pos h1] at h
      have e : (i + n).toNat = j := Option.some.inj h
      exact ⟨by rw [seqIndex_neg (by omega) h1, e], by omega, h1, by omega⟩
    · rw [if_neg h1] at h; cases h
theorem atI_get {α : Type} {xs : List α} {i : Int} {v : α} (h : atI xs i = some v) : ∃ j, seqIndex? i xs.length = some j ∧ xs[j]? = some v ∧ j < xs.length ∧ -(xs.length : Int) ≤ i ∧ i < xs.length := by
  unfold atI at h
  cases e : ixN xs.length i with
  | none => rw [e] at h; cases h
  | some j =>
    rw [e] at h
    obtain ⟨h1, h2, h3, h4⟩ := ixN_seq e
    exact ⟨j, h1, h, h2, h3, h4⟩
theorem atI_nat {α : Type} {xs : List α} {j : Nat} {v : α} (h : xs[j]? = some v) : atI xs (j : Int) = some v := by
  have hj : j < xs.length := (List.getElem?_eq_some_iff.mp h).1
  have e : ixN xs.length (j : Int) = some j := by
    unfold ixN
    rw [if_pos (by omega), if_pos (by omega)]; simp
  unfold atI; rw [e]; exact h
def PlainIx (b : Expr) : Prop := ∀ o i, subscripted b false o i = operate [o, i] (getItem o i)
def IxR (X : Cx) (r : R2) : Prop :=
  ∀ (value slice : Expr) (pins : List (Addr × Obj)) (s : Shared) (σ : St) (H : Hp) (x y : V) (v u : Value) (Q : VK), Inv X pins σ H s → RelV x v → RelV y u → r x y H Q →
    subscripted slice false v u = operate [v, u] (getItem v u) → wpAny (model X.prog X.w) X.A (subscriptTail value slice v u) (EP X pins σ Q) X.xe s
def MtR (X : Cx) (id : String) (r : V → List V → Hp → VK → Prop) : Prop :=
  ∀ (pins : List (Addr × Obj)) (s : Shared) (σ : St) (H : Hp) (x : V) (xs : List V) (v : Value) (us : List Value) (Q : VK), Inv X pins σ H s → RelV x v → Vals xs us → r x xs H Q →
    wpAny (model X.prog X.w) X.A (call (.builtin id) (v :: us)) (EP X pins σ Q) X.xe s
section
variable {X : Cx} {a b : Expr} {ta tb : TE} {pos : Pos}
theorem pe_ix {r : R2} (hr : IxR X r) (ha : PE X a ta) (hb : PE X b tb) (hs : PlainIx b) : PE X (.Subscript a b pos) (tOp r ta tb) := by
  intro pins s σ H Q I h
  exact Subscript_ (binT ha hb I h fun v u s2 x y H2 I2 rx ry q => hr a b pins s2 σ H2 x y v u Q I2 rx ry q (hs _ _))
def rIxL (K : PySem.W.Frag) : R2 := fun x y H Q => ∃ p xs i v, x = .ref p ∧ y = .int i ∧ SqL K H p xs ∧ atI xs i = some v ∧ Q v H
def rIxT (K : PySem.W.Frag) : R2 := fun x y H Q => ∃ p xs i v, x = .ref p ∧ y = .int i ∧ SqT K H p xs ∧ atI xs i = some v ∧ Q v H
theorem ix_list : IxR X (rIxL X.K) := by
  intro value slice pins s σ H x y v u Q I rx ry h hs
  obtain ⟨p, xs, i, z, rfl, rfl, hq, he, q⟩ := h
  cases rx
  obtain ⟨t, rfl⟩ := ry
  obtain ⟨its, r, pl, hz⟩ := I.list hq
  obtain ⟨j, h1, h2, h3, h4, h5⟩ := atI_get he
  obtain ⟨w, ew, rw'⟩ := r.get h2
  have hl := r.length
  have hn := line63
  have fin : EP X pins σ Q w s := ⟨z, H, I, rw', q⟩
  by_cases h0 : 0 ≤ i
  · have hj : i.toNat = j := by
      rw [seqIndex_of h0 h5] at h1
      exact Option.some.inj h1
    exact item_listR pl.isList h0 (by omega) (by rw [hj]; simpa using ew) fin hs
  · have hj : (i + (its.toArray.size : Int)).toNat = j := by
      rw [seqIndex_neg (by omega) h4] at h1
      rw [List.size_toArray, ← hl]
      exact Option.some.inj h1
    exact subscriptTail_builtinR (x := w) pl.isList.typeIs slot_list_getitem.lookup
      (wpAny_getItem_list_neg (Q := fun r s' => r = w ∧ EP X pins σ Q r s') pl.isList (by omega) (by rw [List.size_toArray] <;> omega) (by omega) (by rw [hj]; simpa using ew) ⟨rfl, fin⟩) hs
theorem ix_tup : IxR X (rIxT X.K) := by
  intro value slice pins s σ H x y v u Q I rx ry h hs
  obtain ⟨p, xs, i, z, rfl, rfl, hq, he, q⟩ := h
  cases rx
  obtain ⟨t, rfl⟩ := ry
  obtain ⟨its, r, pl, hz⟩ := I.tuple hq
  obtain ⟨j, h1, h2, h3, h4, h5⟩ := atI_get he
  obtain ⟨w, ew, rw'⟩ := r.get h2
  have hl := r.length
  have hn := line63
  have fin : EP X pins σ Q w s := ⟨z, H, I, rw', q⟩
  exact subscriptTail_builtinR (x := w) pl.typeIs slot_tuple_getitem.lookup
    (getItem_tuple (j := j) (Q := fun r s' => r = w ∧ EP X pins σ Q r s') pl (by omega) (by omega) (by rw [List.size_toArray, ← hl]; exact h1) (by simpa using ew) ⟨rfl, fin⟩) hs
theorem mapSeq_set (its : List Value) (n j : Nat) (u : Value) : Obj.mapSeq (·.setIfInBounds j u) { cls := .type "list", data := .seq its.toArray n } = { cls := .type "list", data := .seq (its.set j u).toArray n } := by
  simp [Obj.mapSeq]
theorem Inv.lst {pins : List (Addr × Obj)} {σ : St} {H : Hp} {s : Shared} {p : Addr} {xs : List V} (I : Inv X pins σ H s) (h : H p = some (.lst xs)) :
    ∃ (its : List Value) (n : Nat), Vals xs its ∧ s.heap.get? p = some { cls := .type "list", data := .seq its.toArray n } ∧ xs.length ≤ sizeLine := by
  obtain ⟨z, its, n, r, e⟩ := I.hok p _ h
  exact ⟨its, n, r, e, z⟩
theorem Inv.lstUpd {pins : List (Addr × Obj)} {σ : St} {H : Hp} {s : Shared} {p : Addr} {xs ys : List V} {its its' : List Value} {n n' : Nat} {f : Obj → Obj} (I : Inv X pins σ H s) (h : H p = some (.lst xs))
    (ho : s.heap.get? p = some { cls := .type "list", data := .seq its.toArray n }) (hf : f { cls := .type "list", data := .seq its.toArray n } = { cls := .type "list", data := .seq its'.toArray n' }) (r : Vals ys its') (hz : ys.length ≤ sizeLine) (t : Nat) :
    Inv X pins σ (upd H p (.lst ys)) { s with heap := s.heap.update p f, toks := t } := by
  have e : (s.heap.update p f).get? p = some { cls := .type "list", data := .seq its'.toArray n' } := by
    rw [Heap.get?_update_self f ho (by rw [hf] <;> rfl), hf]
  refine I.write (x := p) (e := p) (by rw [h]; trivial) (.inl rfl) (fun b u hb q => (Heap.get?_update_other _ _ (Ne.symm hb)).trans q) ⟨_, e⟩ ?_
  exact ⟨hz, its', n', r, e⟩
def rSetL : V → V → V → Hp → (Hp → Prop) → Prop := fun o i v H Q => ∃ p xs k j, o = .ref p ∧ i = .int k ∧ H p = some (.lst xs) ∧ ixN xs.length k = some j ∧ Q (upd H p (.lst (xs.set j v)))
theorem set_list : PSet X rSetL := by
  intro pins s σ H o i v ov iv u Q I ro ri rv h
  obtain ⟨p, xs, k, j, rfl, rfl, hp, hj, q⟩ := h
  cases ro
  obtain ⟨t, rfl⟩ := ri
  obtain ⟨its, n, r, ho, hz⟩ := I.lst hp
  obtain ⟨h1, h2, h3, h4⟩ := ixN_seq hj
  have hl := r.length
  have hn := line63
  have I' : Inv X pins σ (upd H p (.lst (xs.set j v))) { s with heap := s.heap.update p (Obj.mapSeq (·.setIfInBounds j u)) } :=
    I.lstUpd hp ho (mapSeq_set its n j u) (r.set rv j) (by rw [List.length_set]; exact hz) s.toks
  by_cases h0 : 0 ≤ k
  · have hk : k.toNat = j := by
      rw [seqIndex_of h0 h4] at h1
      exact Option.some.inj h1
    exact PySem.W.ki_setAt ho h0 (by omega) (by rw [List.size_toArray, ← hl]; exact h4) (by rw [hk]; exact ⟨_, I', q⟩)
  · have hk : (k + (its.toArray.size : Int)).toNat = j := by
      rw [seqIndex_neg (by omega) h3] at h1
      rw [List.size_toArray, ← hl]
      exact Option.some.inj h1
    exact PySem.W.ki_setBack ho (by omega) (by rw [List.size_toArray, ← hl]; exact h3) (by omega) (by rw [hk]; exact ⟨_, I', q⟩)
theorem slice_bounds (lo hi : Option Int) (n : Nat) : (sliceBounds lo hi none n).1 = ((HT.sIx n 0 lo : Nat) : Int) ∧ (sliceBounds lo hi none n).2.1 = ((HT.sIx n n hi : Nat) : Int) ∧ (sliceBounds lo hi none n).2.2 = 1 := by
  refine ⟨?_, ?_, rfl⟩
  · cases lo with
    | none => simp [sliceBounds, HT.sIx]
    | some i =>
      simp only [sliceBounds, HT.sIx, Option.getD_none, show (1 : Int) > 0 by decide, if_true]
      by_cases h : i < 0
      · simp only [h, if_true] <;> omega
      · simp only [h, if_false] <;> omega
  · cases hi with
    | none => simp [sliceBounds, HT.sIx]
    | some i =>
      simp only [sliceBounds, HT.sIx, Option.getD_none, show (1 : Int) > 0 by decide, if_true]
      by_cases h : i < 0
      · simp only [h, if_true] <;> omega
      · simp only [h, if_false] <;> omega
theorem slicePick_cut (its : List Value) (lo hi : Option Int) : slicePick its.toArray lo hi none = ((its.drop (HT.sIx its.length 0 lo)).take (HT.sIx its.length its.length hi - HT.sIx its.length 0 lo)).toArray := by
  obtain ⟨h1, h2, h3⟩ := slice_bounds lo hi its.toArray.size
  unfold slicePick
  rw [h1, h2, h3]
  simp only [sliceRange_one, pick_run, List.size_toArray] <;> rfl
def rSlL (K : PySem.W.Frag) : V → Option Int → Option Int → Hp → VK → Prop := fun x lo hi H Q => ∃ a xs, x = .ref a ∧ SqL K H a xs ∧ ∀ p, H p = none → Q (.ref p) (upd H p (.lst (cutV xs lo hi)))
theorem sl_list : SlR X (rSlL X.K) := by
  intro pins s σ H x v vl vu lo hi sl Q I rx hs pl pu h
  obtain ⟨a, xs, rfl, hx, q⟩ := h
  cases rx
  obtain ⟨its, r, ht, hz⟩ := I.list hx
  have hlen := r.length
  refine ⟨"list", _, slot_list_getitem.lookup, ht.isList.typeIs, ?_⟩
  refine wpAny_getItem_list_slice ht.isList hs pl pu .none (by simp) ?_ (by rw [List.size_toArray] <;> omega)
  rw [slicePick_cut, ← hlen]
  refine ⟨.ref s.heap.objs.size, _, I.laid (t' := s.toks) (o := .lst (cutV xs lo hi)) (fun b ob q => Heap.get?_push_of_some _ q) (Nat.le_refl _) ?_, rfl, q _ (I.hok.fresh (Nat.le_refl _))⟩
  exact ⟨Nat.le_trans (cutV_length xs lo hi) hz, _, 0, (r.drop (HT.sIx xs.length 0 lo)).take (HT.sIx xs.length xs.length hi - HT.sIx xs.length 0 lo), Heap.get?_push_size _ rfl⟩
def flatV : V → Bool
  | .non => true
  | .bl _ => true
  | .int _ => true
  | .str _ => true
  | _ => false
def eqV : V → V → Bool
  | .non, .non => true
  | .bl a, .bl b => a == b
  | .bl a, .int b => (if a then 1 else 0) == b
  | .int a, .bl b => a == (if b then 1 else 0)
  | .int a, .int b => a == b
  | .str a, .str b => a == b
  | _, _ => false
theorem eqAt_V {A : Around} {s : Shared} {y x : V} {u v : Value} (ry : RelV y u) (rx : RelV x v) (fy : flatV y = true) (fx : flatV x = true) : SeqAt.EqAt A s u v (eqV y x) := by
  cases y with
  | non =>
    cases ry
    cases x with
    | non => cases rx; exact SeqAt.EqAt.same _
    | bl b => cases rx; exact SeqAt.EqAt.none_bool b
    | int b => obtain ⟨t, rfl⟩ := rx; exact SeqAt.EqAt.none_int b t
    | str b => obtain ⟨t, rfl⟩ := rx; exact SeqAt.EqAt.none_str b t
    | _ => exact absurd (show false = true from fx) Bool.false_ne_true
  | bl a =>
    cases ry
    cases x with
    | non => cases rx; exact SeqAt.EqAt.bool_none a
    | bl b => cases rx; exact SeqAt.EqAt.bool_bool a b
    | int b => obtain ⟨t, rfl⟩ := rx; exact SeqAt.EqAt.bool_int a b t
    | str b => obtain ⟨t, rfl⟩ := rx; exact SeqAt.EqAt.bool_str a b t
    | _ => exact absurd (show false = true from fx) Bool.false_ne_true
  | int a =>
    obtain ⟨t', rfl⟩ := ry
    cases x with
    | non => cases rx; exact SeqAt.EqAt.int_none a t'
    | bl b => cases rx; exact SeqAt.EqAt.int_bool a t' b
    | int b => obtain ⟨t, rfl⟩ := rx; exact SeqAt.EqAt.int_int a t' b t
    | str b => obtain ⟨t, rfl⟩ := rx; exact SeqAt.EqAt.int_str a t' b t
    | _ => exact absurd (show false = true from fx) Bool.false_ne_true
  | str a =>
    obtain ⟨t', rfl⟩ := ry
    cases x with
    | non => cases rx; exact SeqAt.EqAt.str_none a t'
    | bl b => cases rx; exact SeqAt.EqAt.str_bool a t' b
    | int b => obtain ⟨t, rfl⟩ := rx; exact SeqAt.EqAt.str_int a t' b t
    | str b => obtain ⟨t, rfl⟩ := rx; exact SeqAt.EqAt.str_str a t' b t
    | _ => exact absurd (show false = true from fx) Bool.false_ne_true
  | _ => exact absurd (show false = true from fy) Bool.false_ne_true
def eqU (x : V) (u : Value) : Bool := match u with
  | .none => eqV .non x
  | .bool b => eqV (.bl b) x
  | .int i _ => eqV (.int i) x
  | .str z _ => eqV (.str z) x
  | _ => false
theorem eqU_of {x y : V} {u : Value} (r : RelV y u) (f : flatV y = true) : eqU x u = eqV y x := by
  cases y with
  | non => cases r; rfl
  | bl b => cases r; rfl
  | int i => obtain ⟨t, rfl⟩ := r; rfl
  | str z => obtain ⟨t, rfl⟩ := r; rfl
  | _ => exact absurd (show false = true from f) Bool.false_ne_true
theorem any_eqU {x : V} : ∀ {xs : List V} {us : List Value}, Vals xs us → xs.all flatV = true → us.any (eqU x) = xs.any fun y => eqV y x
  | _, _, .nil, _ => rfl
  | y :: xs, u :: us, .cons r t, f => by
    rw [List.all_cons, Bool.and_eq_true] at f
    rw [List.any_cons, List.any_cons, eqU_of r f.1, any_eqU t f.2]
theorem mem_eqAt {A : Around} {s : Shared} {x : V} {v : Value} (rx : RelV x v) (fx : flatV x = true) : ∀ {xs : List V} {us : List Value}, Vals xs us → xs.all flatV = true → ∀ u ∈ us, SeqAt.EqAt A s u v (eqU x u)
  | _, _, .nil, _ => fun u hu => by cases hu
  | y :: xs, u :: us, .cons r t, f => fun u' hu => by
    rw [List.all_cons, Bool.and_eq_true] at f
    rcases List.mem_cons.mp hu with rfl | hu
    · rw [eqU_of r f.1]; exact eqAt_V r rx f.1 fx
    · exact mem_eqAt rx fx t f.2 u' hu
def inV (x : V) (xs : List V) : Bool := xs.any fun y => eqV y x
def rIn (K : PySem.W.Frag) (neg : Bool) : R2 := fun x y H Q => ∃ p xs, y = .ref p ∧ (SqL K H p xs ∨ SqT K H p xs) ∧ flatV x = true ∧ xs.all flatV = true ∧ Q (.bl (if neg then !inV x xs else inV x xs)) H
theorem op_in_seq : OpR X (compareOp .In) (rIn X.K false) := by
  intro pins s σ H x y v u Q I rx ry h
  obtain ⟨p, xs, rfl, hq, fx, fs, q⟩ := h
  cases ry
  rcases hq with hq | hq
  · obtain ⟨its, r, pl, hz⟩ := I.list hq
    refine SeqAt.in_listAt (eqU x) pl.isList (fun w hw => mem_eqAt rx fx r fs w (by simpa using hw)) ⟨.bl _, H, I, rfl, ?_⟩
    rw [show its.toArray.any (eqU x) = its.any (eqU x) by simp, any_eqU r fs]
    exact q
  · obtain ⟨its, r, pl, hz⟩ := I.tuple hq
    refine SeqAt.in_tupleAt (eqU x) pl (fun w hw => mem_eqAt rx fx r fs w (by simpa using hw)) ⟨.bl _, H, I, rfl, ?_⟩
    rw [show its.toArray.any (eqU x) = its.any (eqU x) by simp, any_eqU r fs]
    exact q
theorem call_len_seq : CallR X (.builtin "len") (fun xs H Q => ∃ p ys, xs = [.ref p] ∧ (SqL X.K H p ys ∨ SqT X.K H p ys) ∧ Q (.int ys.length) H) := by
  intro pins s σ H xs us Q I r h
  obtain ⟨p, ys, rfl, hq, q⟩ := h
  obtain ⟨u, rfl, rx⟩ := vals1 r
  cases rx
  have hn := line63
  rcases hq with hq | hq
  · obtain ⟨its, r', pl, hz⟩ := I.list hq
    have hlen := r'.length
    exact Calls.call_len_list pl.isList (by simp only [List.size_toArray] <;> omega) ⟨.int ys.length, H, I.tok _, ⟨s.toks + 1, by rw [List.size_toArray, hlen]⟩, q⟩
  · obtain ⟨its, r', pl, hz⟩ := I.tuple hq
    have hlen := r'.length
    exact len_tuple pl (by simp only [List.size_toArray] <;> omega) ⟨.int ys.length, H, I.tok _, ⟨s.toks + 1, by rw [List.size_toArray, hlen]⟩, q⟩
theorem call_list_of : CallR X (.type "list") (fun xs H Q => ∃ p ys, xs = [.ref p] ∧ (SqL X.K H p ys ∨ SqT X.K H p ys) ∧ ∀ l, H l = none → Q (.ref l) (upd H l (.lst ys))) := by
  intro pins s σ H xs us Q I r h
  obtain ⟨p, ys, rfl, hq, q⟩ := h
  obtain ⟨u, rfl, rx⟩ := vals1 r
  cases rx
  have fin : ∀ (its : List Value), Vals ys its → ys.length ≤ sizeLine → ∀ (h' : Heap) (c' : Nat), (∀ b o', s.heap.get? b = some o' → h'.get? b = some o') →
      h'.get? s.heap.objs.size = some { cls := .type "list", dict := none, data := .seq its.toArray c', slots := #[] } → EP X pins σ Q (.ref s.heap.objs.size) { s with heap := h' } := fun its r' hz h' c' kp e =>
    ⟨.ref s.heap.objs.size, _, I.laid (t' := s.toks) kp (Nat.le_refl _) (show ObjOk X.prog X.w _ h' _ (.lst ys) from ⟨hz, its, c', r', e⟩), rfl, q _ (I.hok.fresh (Nat.le_refl _))⟩
  rcases hq with hq | hq
  · obtain ⟨its, r', pl, hz⟩ := I.list hq
    have hlen := r'.length
    obtain ⟨o, ho, hc, n, hd⟩ := pl.isList
    exact call_list_seq p (.inl rfl) ho hc hd (fun h' c' kp e => fin its r' hz h' c' kp e) (by simp only [List.size_toArray] <;> omega)
  · obtain ⟨its, r', pl, hz⟩ := I.tuple hq
    have hlen := r'.length
    obtain ⟨o, ho, hc, n, hd⟩ := pl
    exact call_list_seq p (.inr rfl) ho hc hd (fun h' c' kp e => fin its r' hz h' c' kp e) (by simp only [List.size_toArray] <;> omega)
def tyV (K : PySem.W.Frag) (T : String) (x : V) (H : Hp) : Prop := match x with
  | .str _ => T = "str"
  | .int _ => T = "int"
  | .ref p => (T = "list" ∧ ∃ xs, SqL K H p xs) ∨ (T = "tuple" ∧ ∃ o, K.lookup p = some o ∧ o.cls = .type "tuple" ∧ o.dict = none) ∨
      (T = "dict" ∧ ((∃ kvs, H p = some (.dK kvs)) ∨ ∃ kvs, H p = some (.dT kvs))) ∨ (T = "set" ∧ ∃ S n, H p = some (.set S n))
  | _ => False
theorem tyV_is {pins : List (Addr × Obj)} {σ : St} {H : Hp} {s : Shared} {T : String} {x : V} {v : Value} (I : Inv X pins σ H s) (r : RelV x v) (ty : tyV X.K T x H) :
    s.TypeIs v T ∧ ∀ a, v = .ref a → ∃ ob, s.heap.get? a = some ob ∧ ob.dict = none := by
  cases x with
  | str z =>
    obtain ⟨t, rfl⟩ := r
    cases (show T = "str" from ty)
    exact ⟨typeIs_str s z t, fun _ e => nomatch e⟩
  | int i =>
    obtain ⟨t, rfl⟩ := r
    cases (show T = "int" from ty)
    exact ⟨typeIs_int s i t, fun _ e => nomatch e⟩
  | ref p =>
    cases r
    rcases ty with ⟨rfl, xs, hq⟩ | ⟨rfl, o, hk, hc, hd⟩ | ⟨rfl, hk⟩ | ⟨rfl, S, n, hk⟩
    · obtain ⟨its, _, pl, _⟩ := I.list hq
      refine ⟨pl.isList.typeIs, fun a e => ?_⟩
      cases e
      obtain ⟨o, n, e, c, hd, _⟩ := pl
      exact ⟨o, e, hd⟩
    · refine ⟨⟨o, I.kIn p o hk, hc⟩, fun a e => ?_⟩
      cases e
      exact ⟨o, I.kIn _ o hk, hd⟩
    · have z : ∃ o, s.heap.get? p = some o ∧ o.ExactDict := by
        rcases hk with ⟨kvs, hk⟩ | ⟨kvs, hk⟩
        · obtain ⟨_, _, _, _, o, _, _, e, ex, _⟩ := I.hok p _ hk
          exact ⟨o, e, ex⟩
        · obtain ⟨_, _, _, _, o, _, _, e, ex, _⟩ := I.hok p _ hk
          exact ⟨o, e, ex⟩
      obtain ⟨o, e, ex⟩ := z
      refine ⟨⟨o, e, ex.1⟩, fun a e2 => ?_⟩
      cases e2
      exact ⟨o, e, ex.2.1⟩
    · obtain ⟨o, _, _, _, e, ex, _⟩ := I.hok p _ hk
      refine ⟨⟨o, e, ex.1⟩, fun a e2 => ?_⟩
      cases e2
      exact ⟨o, e, ex.2.1⟩
  | _ => exact False.elim ty
def tBM (K : PySem.W.Frag) (T : String) (r : V → List V → Hp → VK → Prop) (to : TE) (t : TA) : TE := fun σ H Q => to σ H fun x H1 => tyV K T x H1 ∧ t σ H1 fun xs H2 => r x xs H2 Q
variable {o e : Expr} {es : List Expr} {to : TE} {t : TA} {name : Str} {apos cpos : Pos} {T id : String} {r : V → List V → Hp → VK → Prop}
theorem pe_bm (pa : PlainAttrs T) (slot : Slot T name id) (hty : typeOf (.builtin id) = pure (.type "method_descriptor")) (hm : MtR X id r) (ho : PE X o to) (ha : PA X (e :: es) t)
    (hbase : attributeBase o name X.env (eval o X.env) = eval o X.env := by rfl)
    (hfew : ((backTo cpos (starEach (e :: es) X.env)).all (fun x => !x.1) && (backToKw cpos (keywordEach [] X.env)).all (fun x => x.1.isSome)
      && decide ((e :: es).length + ([] : List Keyword).length + (if ([] : List Keyword).isEmpty then 0 else 1) < 30)) = true := by rfl)
    (hline : (apos.endLine == cpos.line) = true := by rfl) (hs : starEach (e :: es) X.env = (false, eval e X.env) :: starEach es X.env := by rfl) (hplain : (backTo cpos (starEach es X.env)).any (·.1) = false := by rfl) :
    PE X (.Call (.Attribute o name apos) (e :: es) [] cpos) (tBM X.K T r to t) := by
  intro pins s σ H Q I h
  refine wpAny_Call_method_late hbase hfew hline rfl (thn (ho pins s σ H _ I h) fun v s1 ⟨x, H1, I1, r1, ty, q1⟩ => ?_)
  obtain ⟨h1, h2⟩ := tyV_is I1 r1 ty
  refine ⟨T, id, pa, slot, hty, h1, h2, ?_⟩
  have hA := ha cpos pins s1 σ H1 _ I1 q1
  rw [hs] at hA ⊢
  refine Calls.callWith_builtin (by show (false || (backTo cpos (starEach es X.env)).any (·.1)) = false; rw [hplain] <;> rfl) (Calls.evalArgs_plain ?_)
  exact thn hA fun us s2 ⟨vs, H2, I2, r2, q2⟩ => hm pins s2 σ H2 x vs v us Q I2 r1 r2 q2
end
end L2
namespace L2
open PySem PySem.Spec PyProof.Rows
def MtM (X : Cx) (id : String) (r : V → List V → Hp → VK → Prop) : Prop :=
  ∀ (pins : List (Addr × Obj)) (s : Shared) (σ : St) (H : Hp) (x : V) (xs : List V) (v : Value) (us : List Value) (Q : VK), Inv X pins σ H s → RelV x v → Vals xs us → r x xs H Q →
    wpAny (model X.prog X.w) X.A (call (.builtin id) (v :: us)) (EP X pins σ Q) X.xe s
theorem Vals.one : ∀ {x : V} {us : List Value}, Vals [x] us → ∃ u, us = [u] ∧ RelV x u
  | _, _, .cons r .nil => ⟨_, rfl, r⟩
theorem Vals.rep {xs : List V} {us : List Value} (h : Vals xs us) : ∀ k : Nat, Vals (List.replicate k xs).flatten (List.replicate k us).flatten
  | 0 => .nil
  | k + 1 => by
    rw [List.replicate_succ, List.replicate_succ, List.flatten_cons, List.flatten_cons]
    exact Vals.append h (Vals.rep h k)
theorem foldl_rep (its : List Value) : ∀ (k : Nat) (acc : List Value),
    List.foldl (fun x1 x2 => x1 ++ x2) acc.toArray (List.replicate k its.toArray) = (acc ++ (List.replicate k its).flatten).toArray
  | 0, acc => by simp
  | k + 1, acc => by
    have e : acc.toArray ++ its.toArray = (acc ++ its).toArray := by simp
    have e2 : (acc ++ its) ++ (List.replicate k its).flatten = acc ++ (List.replicate (k + 1) its).flatten := by
      rw [List.replicate_succ, List.flatten_cons, List.append_assoc]
    rw [← e2, ← foldl_rep its k (acc ++ its), ← e, List.replicate_succ, List.foldl_cons]
section
variable {X : Cx} {pins : List (Addr × Obj)} {σ : St} {H : Hp} {s : Shared} {l b : Addr} {xs ys zs : List V}
theorem Inv.lset {its its' : List Value} {n : Nat} {f : Array Value → Array Value} {t' : Nat} (I : Inv X pins σ H s) (hH : H l = some (.lst xs))
    (e : s.heap.get? l = some { cls := .type "list", data := .seq its.toArray n }) (hf : f its.toArray = its'.toArray) (hv : Vals ys its') (hz : ys.length ≤ sizeLine) :
    Inv X pins σ (upd H l (.lst ys)) { s with heap := s.heap.update l (Obj.mapSeq f), toks := t' } := by
  have q := PySem.IsL.update e f
  rw [hf] at q
  refine I.write (x := l) (e := l) (by rw [hH]; exact trivial) (.inl rfl) (fun b' u hb hu => (Heap.get?_update_other s.heap (Obj.mapSeq f) (Ne.symm hb)).trans hu) ⟨_, q⟩ ?_
  exact ⟨hz, its', _, hv, q⟩
theorem Inv.lnew {its : List Value} {t' : Nat} (I : Inv X pins σ H s) (hv : Vals ys its) (hz : ys.length ≤ sizeLine) :
    Inv X pins σ (upd H s.heap.objs.size (.lst ys)) { s with heap := s.heap.push { cls := .type "list", data := .seq its.toArray }, toks := t' } :=
  I.laid (fun _ _ q => Heap.get?_push_of_some _ q) (Nat.le_refl _) ⟨hz, its, 0, hv, Heap.get?_push_size _ rfl⟩
theorem Inv.fresh (I : Inv X pins σ H s) : H s.heap.objs.size = none := I.hok.fresh (Nat.le_refl _)
theorem Inv.lstM (I : Inv X pins σ H s) (hH : H l = some (.lst xs)) : xs.length ≤ sizeLine ∧ ∃ (its : List Value) (n : Nat), Vals xs its ∧ xs.length = its.length ∧ s.heap.get? l = some { cls := .type "list", data := .seq its.toArray n } := by
  obtain ⟨z, its, n, r, e⟩ := I.hok l _ hH
  exact ⟨z, its, n, r, r.length, e⟩
theorem notLongL {n : Nat} (h : n ≤ sizeLine) : Builtin.List.listTooLong n = false := by
  unfold Builtin.List.listTooLong
  exact decide_eq_false (by omega)
end
section
variable {X : Cx}
def rAppend : V → List V → Hp → VK → Prop := fun x vs H Q => ∃ l xs y, x = .ref l ∧ vs = [y] ∧ H l = some (.lst xs) ∧ xs.length < sizeLine ∧ Q .non (upd H l (.lst (xs ++ [y])))
theorem mt_append : MtM X "list.append" rAppend := by
  intro pins s σ H x vs v us Q I rx rv h
  obtain ⟨l, xs, y, rfl, rfl, hH, hz, q⟩ := h
  cases rx
  obtain ⟨u, rfl, ru⟩ := rv.one
  obtain ⟨z, its, n, r, hl, e⟩ := I.lstM hH
  refine call_meets F.slot_list_append ⟨_, e, rfl⟩ F.entry_list_append (F.args_list_append_2 _ _) (PySem.list_append l its.toArray n u (by rw [List.size_toArray]; omega)) ⟨e, ?_⟩
  refine ⟨.non, _, I.lset (its' := its ++ [u]) hH e (by simp) (r.append (.cons ru .nil)) ?_, rfl, q⟩
  rw [List.length_append, List.length_singleton]
  omega
def rExtend : V → List V → Hp → VK → Prop := fun x vs H Q => ∃ l b xs zs, x = .ref l ∧ vs = [.ref b] ∧ H l = some (.lst xs) ∧ H b = some (.lst zs) ∧ xs.length + zs.length ≤ sizeLine ∧ Q .non (upd H l (.lst (xs ++ zs)))
theorem mt_extend : MtM X "list.extend" rExtend := by
  intro pins s σ H x vs v us Q I rx rv h
  obtain ⟨l, b, xs, zs, rfl, rfl, hH, hB, hz, q⟩ := h
  cases rx
  obtain ⟨u, rfl, ru⟩ := rv.one
  cases ru
  obtain ⟨z, its, n, r, hl, e⟩ := I.lstM hH
  obtain ⟨z2, its2, n2, r2, hl2, e2⟩ := I.lstM hB
  have hsz : its.toArray.size + its2.toArray.size ≤ sizeLine := by rw [List.size_toArray, List.size_toArray]; omega
  have hlong : ¬ (!its.toArray.isEmpty && Builtin.List.listTooLong (its.toArray.size + its2.toArray.size)) = true := by
    rw [notLongL hsz, Bool.and_false]
    exact Bool.false_ne_true
  refine call_meets F.slot_list_extend ⟨_, e, rfl⟩ F.entry_list_extend (F.args_list_extend_2 _ _)
    (AutoSeq1.list_extend_list_list_0 l its.toArray n b its2.toArray n2 hlong (by rw [List.size_toArray]; omega) (by omega)) ⟨e, e2, ?_⟩
  refine ⟨.non, _, I.lset (its' := its ++ its2) hH e (by simp) (r.append r2) ?_, rfl, q⟩
  rw [List.length_append]
  omega
def rCat : R2 := fun x y H Q => ∃ l b xs zs, x = .ref l ∧ y = .ref b ∧ H l = some (.lst xs) ∧ H b = some (.lst zs) ∧ xs.length + zs.length ≤ sizeLine ∧ ∀ p, H p = none → Q (.ref p) (upd H p (.lst (xs ++ zs)))
theorem op_cat : OpR X (binaryOp .Add) rCat := by
  intro pins s σ H x y v u Q I rx ry h
  obtain ⟨l, b, xs, zs, rfl, rfl, hH, hB, hz, q⟩ := h
  cases rx
  cases ry
  obtain ⟨z, its, n, r, hl, e⟩ := I.lstM hH
  obtain ⟨z2, its2, n2, r2, hl2, e2⟩ := I.lstM hB
  refine PySem.P.add_list e e2 ?_ (by rw [List.size_toArray, List.size_toArray]; omega)
  have ea : its.toArray ++ its2.toArray = (its ++ its2).toArray := by simp
  rw [ea]
  exact ⟨.ref _, _, I.lnew (t' := s.toks) (r.append r2) (by rw [List.length_append]; omega), rfl, q _ I.fresh⟩
def rRep : R2 := fun x y H Q => ∃ l k xs, x = .ref l ∧ y = .int k ∧ H l = some (.lst xs) ∧ -(2 ^ 63) ≤ k ∧ k < 2 ^ 63 ∧ xs.length * k.toNat ≤ sizeLine ∧
  ∀ p, H p = none → Q (.ref p) (upd H p (.lst (List.replicate k.toNat xs).flatten))
theorem len_rep {α : Type} (xs : List α) (k : Nat) : (List.replicate k xs).flatten.length = k * xs.length := by
  induction k with
  | zero => simp
  | succ k ih => rw [List.replicate_succ, List.flatten_cons, List.length_append, ih, Nat.succ_mul, Nat.add_comm]
theorem op_rep : OpR X (binaryOp .Mult) rRep := by
  intro pins s σ H x y v u Q I rx ry h
  obtain ⟨l, k, xs, rfl, rfl, hH, h1, h2, hz, q⟩ := h
  cases rx
  obtain ⟨t, rfl⟩ := ry
  obtain ⟨z, its, n, r, hl, e⟩ := I.lstM hH
  have hlen : its.toArray.size * k.toNat ≤ sizeLine := by rw [List.size_toArray, ← hl]; exact hz
  have hcap : ¬ its.toArray.size * k.toNat > (2 ^ 63 - 1) / 8 := by
    have : (sizeLine : Nat) ≤ (2 ^ 63 - 1) / 8 := by decide
    omega
  have hfit : ¬ (!Builtin.List.listFitsIndex k) = true := by
    rw [fitsIndex_both h1 h2]
    exact Bool.false_ne_true
  have hlong : ¬ Builtin.List.listTooLong (its.toArray.size * k.toNat) = true := by
    rw [notLongL hlen]
    exact Bool.false_ne_true
  have hnew : List.foldl (fun x1 x2 => x1 ++ x2) #[] (List.replicate (if its.toArray.isEmpty = true then 0 else k.toNat) its.toArray) = (List.replicate k.toNat its).flatten.toArray := by
    have f0 : ∀ m : Nat, List.foldl (fun x1 x2 => x1 ++ x2) #[] (List.replicate m its.toArray) = (List.replicate m its).flatten.toArray := fun m => by
      have := foldl_rep its m []
      rw [List.nil_append] at this
      exact this
    rw [f0]
    cases its with
    | nil => simp
    | cons a r' => rw [if_neg (by simp)]
  refine wpAny_binaryOp_repeat_ref (T := "list") (U := "int") (by decide) ⟨_, e, rfl⟩ (fun s' => typeIs_int s' k t) noFill_list_mul F.fills_int_mul F.slot_int_rmul repeat_list F.slot_int_index.lookup
    (call_meets F.slot_int_rmul (typeIs_int s k t) F.entry_int_rmul (F.args_int_rmul_2 _ _) (int___rmul___int_list k t l its.toArray n)
      ⟨e, rfl, ⟨_, e, rfl⟩, call_meets F.slot_list_mul ⟨_, e, rfl⟩ F.entry_list_mul (F.args_list_mul_2 _ _) (AutoListH.list___mul___list_int_3 l its.toArray n k t hfit hcap hlong) ⟨e, ?_⟩⟩)
  rw [hnew]
  exact ⟨.ref _, _, I.lnew (t' := s.toks) (r.rep k.toNat) (by rw [len_rep, Nat.mul_comm]; exact hz), rfl, q _ I.fresh⟩
end
section
variable {prog : Program} {w : World} {A : Around} {E : Value → Shared → Prop} {s : Shared}
end
section
variable {X : Cx}
end
end L2
namespace L2
open PySem PySem.Spec PyProof.Rows
theorem Vals.ints : ∀ {ns : List Int} {us : List Value}, Vals (ns.map V.int) us → IntsAre us ns
  | [], us, h => by
    rw [List.map_nil] at h
    cases h
    exact IntsAre.nil
  | n :: ns, us, h => by
    rw [List.map_cons] at h
    cases h with
    | cons r t =>
      obtain ⟨k, rfl⟩ := r
      exact IntsAre.cons n k (Vals.ints t)
theorem Vals.bls : ∀ {bs : List Bool} {us : List Value}, Vals (bs.map V.bl) us → us = bs.map Value.bool
  | [], us, h => by
    rw [List.map_nil] at h
    cases h
    rfl
  | b :: bs, us, h => by
    rw [List.map_cons] at h
    cases h with
    | cons r t =>
      cases r
      rw [Vals.bls t, List.map_cons]
theorem Vals.ref1 {a : Addr} {us : List Value} (r : Vals [V.ref a] us) : us = [Value.ref a] := by
  cases r with
  | cons r t =>
    cases t
    cases r
    rfl
section
variable {prog : Program} {w : World} {A : Around} {E : Value → Shared → Prop} {s : Shared} {l : Addr} {its : List Value} {ns : List Int} {Q : Value → Shared → Prop}
theorem sum_raw (hh : A.handled = none) (hl : s.heap.IsList l its.toArray) (hi : IntsAre its ns)
    (h : ∀ h' tk t', (∀ b o, s.heap.get? b = some o → h'.get? b = some o) → Q (.int ns.sum t') { s with heap := h', toks := tk }) : wpAny (model prog w) A (call (.builtin "sum") [.ref l]) Q E s := by
  obtain ⟨xs, e⟩ := hi.allInts.items
  have hn : numsOf (intItems xs).toList = ns := by rw [← e]; exact hi.numsOf
  rw [nums_intItems] at hn
  rw [e] at hl
  refine PySem.sum_intListG hh hl fun h' tk t' hk => ?_
  have := h h' tk t' hk
  rw [preSum_eq, List.take_of_length_le (by simp), hn]; exact this
end
section
variable {X : Cx}
def rSum (K : PySem.W.Frag) : List V → Hp → VK → Prop := fun vs H Q => ∃ (a : Addr) (ns : List Int), vs = [V.ref a] ∧ SqL K H a (ns.map V.int) ∧ Q (.int ns.sum) H
theorem cr_sum (hc : X.calm = true) : CallR X (.builtin "sum") (rSum X.K) := by
  intro pins s σ H vs us Q I r h
  obtain ⟨a, ns, rfl, hs, q⟩ := h
  obtain ⟨its, rv, hl, _⟩ := I.list hs
  rw [Vals.ref1 r]
  exact sum_raw (I.ok.hd hc) hl.isList rv.ints fun h' tk t' hk => ⟨.int _, H, I.kept hk, ⟨_, rfl⟩, q⟩
end
section
variable {X : Cx}
end
section
variable {X : Cx}
end
theorem iter_any {prog : Program} {w : World} {A : Around} {E : Value → Shared → Prop} {s : Shared} {l : Addr} {items : Array Value} {Q : Value → Shared → Prop} (hl : s.heap.IsList l items)
    (h : ∀ s₂ : Shared, s₂ = { s with heap := s.heap.push { cls := .type "list_iterator", data := .fields #[.ref l, .int 0 0] } } →
      (s₂.heap.IsListIter s.heap.objs.size l 0 ∧ s₂.heap.IsList l items) → l ≠ s.heap.objs.size → Q (.ref s.heap.objs.size) s₂) : wpAny (model prog w) A (pyIter (.ref l)) Q E s := by
  have hlt : l < s.heap.objs.size := by obtain ⟨_, e, _⟩ := hl; exact Heap.lt_size e
  exact wpAny_pyIter_list hl (h _ rfl ⟨⟨_, Heap.get?_push_size _ rfl, rfl, rfl⟩, hl.push _⟩ (Nat.ne_of_lt hlt))
theorem truth_bools {prog : Program} {w : World} {A : Around} {bs : List Bool} {its : List Value} (e : its = bs.map Value.bool) :
    TruthOf prog w A (fun i v => its.toArray[i]? = some v) (fun i => bs.getD i false) := fun i v s Q E hv hq => by
  have hv' : its[i]? = some v := by simpa using hv
  rw [e, List.getElem?_map] at hv'
  obtain ⟨b, hb, rfl⟩ := Option.map_eq_some_iff.mp hv'
  have hg : bs.getD i false = b := by rw [List.getD_eq_getElem?_getD, hb] <;> rfl
  have hq' : Q (bs.getD i false) s := hq
  rw [hg] at hq'
  exact wpAny_truthy_bool hq'
theorem any_range : ∀ bs : List Bool, (List.range bs.length).any (fun i => bs.getD i false) = bs.any id
  | [] => rfl
  | b :: bs => by
    rw [List.length_cons, List.range_succ_eq_map, List.any_cons, List.any_map, List.any_cons, ← any_range bs]
    all_goals rfl
section
variable {X : Cx}
def rAny (K : PySem.W.Frag) : List V → Hp → VK → Prop := fun vs H Q => ∃ (a : Addr) (bs : List Bool), vs = [V.ref a] ∧ SqL K H a (bs.map V.bl) ∧ Q (.bl (bs.any id)) H
theorem cr_any (hc : X.calm = true) : CallR X (.builtin "any") (rAny X.K) := by
  intro pins s σ H vs us Q I r h
  obtain ⟨a, bs, rfl, hs, q⟩ := h
  obtain ⟨its, rv, hl, _⟩ := I.list hs
  rw [Vals.ref1 r]
  have hb := rv.bls
  refine call_any_walk (iter_any hl.isList fun s₂ e2 st hne => ?_)
  subst e2
  refine ⟨_, _, _, _, _, _, _, rfl, Walks.list (A := X.A.in1) (I.ok.hd hc) _ a hne its.toArray, st, truth_bools hb, fun h' tk hk => ?_⟩
  refine ⟨.bl _, H, I.kept fun b o eo => hk b o (fun hmem => ?_) (Heap.get?_push_of_some _ eo), ?_, q⟩
  · rcases List.mem_cons.mp hmem with e1 | hmem
    · exact absurd (e1 ▸ Heap.lt_size eo) (Nat.lt_irrefl _)
    · cases hmem
  · show Value.bool _ = Value.bool _
    rw [← any_range, hb, List.size_toArray, List.length_map]
end
section
variable {X : Cx} {pins : List (Addr × Obj)} {σ : St} {H : Hp} {s : Shared}
end
section
variable {X : Cx}
end
end L2
namespace L2
open PySem PySem.Spec PyProof.Rows
abbrev CellAt (h : Heap) (c : Addr) (v : Option Value) : Prop := h.IsCell c v
def relS (scope sc : Scope) : Scope :=
  { scope with names := scope.names.map fun (n, k) => if (k == .free && sc.kind == .function && sc.names.lookup n == some .cell) then (n, .cell) else (n, k) }
def cloFrom (cells : List (Str × Addr)) : List (Str × NameKind) → List (Str × Addr) → List (Str × Addr)
  | [], acc => acc
  | (n, k) :: r, acc => if k == .free then cloFrom cells r ((n, (cells.lookup n).getD 0) :: acc) else cloFrom cells r acc
theorem closure_loop (env : Env) (f : Str × NameKind → List (Str × Addr) → Sem (ForInStep (List (Str × Addr))))
    (hf : ∀ n k c, f (n, k) c = if k == .free then (do let a ← cellOf env n; pure (.yield ((n, a) :: c))) else pure (.yield c)) :
    ∀ (names : List (Str × NameKind)) (acc : List (Str × Addr)), (∀ y ∈ names, y.2 = .free → ∃ c, env.cells.lookup y.1 = some c) → forIn names acc f = pure (cloFrom env.cells names acc)
  | [], acc, _ => by rw [List.forIn_nil]; rfl
  | (n, k) :: r, acc, h => by
    rw [List.forIn_cons, hf]
    have ih := fun acc => closure_loop env f hf r acc fun y hy => h y (List.mem_cons_of_mem _ hy)
    unfold cloFrom
    by_cases hk : (k == NameKind.free) = true
    · rw [if_pos hk, if_pos hk]
      obtain ⟨c, hc⟩ := h (n, k) List.mem_cons_self (by simpa using hk)
      have e : cellOf env n = pure c := by unfold cellOf; rw [hc]
      rw [e]
      have e2 : (env.cells.lookup n).getD 0 = c := by rw [hc]; rfl
      rw [e2]
      exact ih _
    · rw [if_neg hk, if_neg hk]
      exact ih _
theorem closure_ok {scope : Scope} {env : Env} (h : ∀ y ∈ scope.names, y.2 = .free → ∃ c, env.cells.lookup y.1 = some c) : closureFor scope env = pure (cloFrom env.cells scope.names []) := by
  simp only [closureFor]
  rw [closure_loop env _ (fun n k c => rfl) scope.names [] h]
  rfl
theorem mem_lookup {α : Type} : ∀ {l : List (Str × α)} {n : Str} {c : α}, (n, c) ∈ l → ∃ c', l.lookup n = some c'
  | (k, v) :: r, n, c, h => by
    rw [List.lookup_cons]
    cases hb : n == k with
    | true => exact ⟨_, rfl⟩
    | false =>
      rcases List.mem_cons.mp h with e | h
      · cases e; simp at hb
      · exact mem_lookup h
theorem cloFrom_mem {cells : List (Str × Addr)} : ∀ {names : List (Str × NameKind)} {acc : List (Str × Addr)} {n : Str} {c : Addr}, (n, c) ∈ cloFrom cells names acc → (n, c) ∈ acc ∨ ((n, .free) ∈ names ∧ c = (cells.lookup n).getD 0)
  | [], _, _, _, h => .inl h
  | (m, k) :: r, acc, n, c, h => by
    unfold cloFrom at h
    split at h
    · rename_i hk
      have hk : k = .free := by simpa using hk
      rcases cloFrom_mem h with h | ⟨h1, h2⟩
      · rcases List.mem_cons.mp h with e | h
        · cases e; exact .inr ⟨hk ▸ List.mem_cons_self, rfl⟩
        · exact .inl h
      · exact .inr ⟨List.mem_cons_of_mem _ h1, h2⟩
    · rcases cloFrom_mem h with h | ⟨h1, h2⟩
      · exact .inl h
      · exact .inr ⟨List.mem_cons_of_mem _ h1, h2⟩
theorem cloFrom_acc {cells : List (Str × Addr)} : ∀ {names : List (Str × NameKind)} {acc : List (Str × Addr)} {p : Str × Addr}, p ∈ acc → p ∈ cloFrom cells names acc
  | [], _, _, h => h
  | (m, k) :: r, acc, p, h => by
    unfold cloFrom
    split
    · exact cloFrom_acc (List.mem_cons_of_mem _ h)
    · exact cloFrom_acc h
theorem cloFrom_has {cells : List (Str × Addr)} : ∀ {names : List (Str × NameKind)} {acc : List (Str × Addr)} {n : Str}, (n, .free) ∈ names → (n, (cells.lookup n).getD 0) ∈ cloFrom cells names acc
  | (m, k) :: r, acc, n, h => by
    unfold cloFrom
    rcases List.mem_cons.mp h with e | h
    · cases e
      exact cloFrom_acc List.mem_cons_self
    · split
      · exact cloFrom_has h
      · exact cloFrom_has h
theorem cells_mem : ∀ {names : List (Str × NameKind)} {h : Heap} {acc : List (Str × Addr)} {x : Str} {c : Addr}, (x, c) ∈ cellsFrom h.objs.size names acc →
    (x, c) ∈ acc ∨ ((x, .cell) ∈ names ∧ h.objs.size ≤ c ∧ CellAt (pushCells h names) c none)
  | [], _, _, _, _, h => .inl h
  | (n, k) :: r, h, acc, x, c, hm => by
    unfold cellsFrom at hm
    unfold pushCells
    split at hm
    · rename_i hk
      rw [if_pos hk]
      have hk : k = .cell := by simpa using hk
      rw [← Heap.size_push h { cls := .type "cell", data := .cell none }] at hm
      rcases cells_mem hm with hm | ⟨h1, h2, h3⟩
      · rcases List.mem_cons.mp hm with e | hm
        · cases e
          exact .inr ⟨hk ▸ List.mem_cons_self, Nat.le_refl _, _, pushCells_keeps r _ _ _ (Heap.get?_push_size _ rfl), rfl⟩
        · exact .inl hm
      · rw [Heap.size_push] at h2
        exact .inr ⟨List.mem_cons_of_mem _ h1, Nat.le_of_succ_le h2, h3⟩
    · rename_i hk
      rw [if_neg hk]
      rcases cells_mem hm with hm | ⟨h1, h2, h3⟩
      · exact .inl hm
      · exact .inr ⟨List.mem_cons_of_mem _ h1, h2, h3⟩
theorem cells_acc : ∀ {names : List (Str × NameKind)} {n : Nat} {acc : List (Str × Addr)} {p : Str × Addr}, p ∈ acc → p ∈ cellsFrom n names acc
  | [], _, _, _, h => h
  | (m, k) :: r, n, acc, p, h => by
    unfold cellsFrom
    split
    · exact cells_acc (List.mem_cons_of_mem _ h)
    · exact cells_acc h
theorem cells_has : ∀ {names : List (Str × NameKind)} {n : Nat} {acc : List (Str × Addr)} {x : Str}, (x, .cell) ∈ names → ∃ c, (x, c) ∈ cellsFrom n names acc
  | (m, k) :: r, n, acc, x, h => by
    unfold cellsFrom
    rcases List.mem_cons.mp h with e | h
    · cases e
      exact ⟨n, cells_acc List.mem_cons_self⟩
    · split
      · exact cells_has h
      · exact cells_has h
theorem cells_inj : ∀ {names : List (Str × NameKind)} {h : Heap} {acc : List (Str × Addr)} {x y : Str} {c : Addr}, (∀ p ∈ acc, p.2 < h.objs.size) → (∀ x y c, (x, c) ∈ acc → (y, c) ∈ acc → x = y) →
    (x, c) ∈ cellsFrom h.objs.size names acc → (y, c) ∈ cellsFrom h.objs.size names acc → x = y
  | [], _, _, _, _, _, _, hi, h1, h2 => hi _ _ _ h1 h2
  | (n, k) :: r, h, acc, x, y, c, hl, hi, h1, h2 => by
    unfold cellsFrom at h1 h2
    split at h1
    · rename_i hk
      rw [if_pos hk] at h2
      rw [← Heap.size_push h { cls := .type "cell", data := .cell none }] at h1 h2
      refine cells_inj (h := h.push _) (fun p hp => ?_) (fun x y c a b => ?_) h1 h2
      · rw [Heap.size_push]
        rcases List.mem_cons.mp hp with rfl | hp
        · exact Nat.lt_succ_self _
        · exact Nat.lt_succ_of_lt (hl p hp)
      · rcases List.mem_cons.mp a with e | a <;> rcases List.mem_cons.mp b with e' | b
        · cases e; cases e'; rfl
        · cases e; exact absurd (hl _ b) (Nat.lt_irrefl _)
        · cases e'; exact absurd (hl _ a) (Nat.lt_irrefl _)
        · exact hi _ _ _ a b
    · rename_i hk
      rw [if_neg hk] at h2
      exact cells_inj hl hi h1 h2
theorem newEnv_comp {M : Model} {A : Around} {E : Value → Shared → Prop} {s : Shared} {scope : Scope} {globals : Addr} {closure : List (Str × Addr)} {qual : Str} {func : Option Addr} {code : Value} {around : Env} {builtins : Addr} {Q : Env → Shared → Prop}
    (h : Q (newEnv scope s.heap.objs.size globals (cellsFrom (s.heap.objs.size + 1) scope.names closure) qual func code (some around) builtins)
      { s with heap := pushCells (s.heap.push { cls := .type "dict", data := .dict #[] }) scope.names }) :
    wpAny M A (newFunctionEnv scope globals closure [] qual func code (some around) builtins) Q E s := by
  simp only [newFunctionEnv, Option.isSome_some, if_true]
  refine wpAny_bind (wpAny_alloc ?_)
  refine wpAny_bind (wpAny_layCells _ (fun n k c => rfl) scope.names closure _ _ ?_)
  rw [show ({ s with heap := s.heap.push { cls := .type "dict", data := .dict #[] } } : Shared).heap.objs.size = s.heap.objs.size + 1 from Heap.size_push ..]
  rw [List.forIn_nil]
  exact wpAny_bind (wpAny_pure (wpAny_pure h))
theorem lookup_relS {sc : Scope} : ∀ {names : List (Str × NameKind)} {x : Str} {k : NameKind},
    (names.map fun (n, k) => if (k == NameKind.free && sc.kind == .function && sc.names.lookup n == some .cell) then (n, NameKind.cell) else (n, k)).lookup x = some k →
    ∃ k', names.lookup x = some k' ∧ (k = k' ∨ (k' = .free ∧ k = .cell))
  | [], _, _, h => by simp at h
  | (n, k₀) :: r, x, k, h => by
    have ih := @lookup_relS sc r x k
    have h' : List.lookup x ((if (k₀ == NameKind.free && sc.kind == .function && sc.names.lookup n == some .cell) = true then (n, NameKind.cell) else (n, k₀)) :: (r.map _)) = some k := h
    cases hx : x == n with
    | true =>
      simp only [List.lookup_cons, hx]
      by_cases hc : (k₀ == NameKind.free && sc.kind == .function && sc.names.lookup n == some .cell) = true
      · rw [if_pos hc] at h'
        simp only [List.lookup_cons, hx] at h'
        cases h'
        simp only [Bool.and_eq_true, beq_iff_eq] at hc
        exact ⟨k₀, rfl, .inr ⟨hc.1.1, rfl⟩⟩
      · rw [if_neg hc] at h'
        simp only [List.lookup_cons, hx] at h'
        cases h'
        exact ⟨_, rfl, .inl rfl⟩
    | false =>
      simp only [List.lookup_cons, hx]
      by_cases hc : (k₀ == NameKind.free && sc.kind == .function && sc.names.lookup n == some .cell) = true
      · rw [if_pos hc] at h'
        simp only [List.lookup_cons, hx] at h'
        exact ih h'
      · rw [if_neg hc] at h'
        simp only [List.lookup_cons, hx] at h'
        exact ih h'
structure BlkOk (N : List Str) (sc scope : Scope) (own : List (Str × Nat)) : Prop where
  kind : scope.kind = .function
  uniq : ∀ y ∈ scope.names, scope.names.lookup y.1 = some y.2
  ix : ∀ p ∈ own, N[p.2]? = some p.1
  free : ∀ y ∈ scope.names, y.2 = .free → sc.names.lookup y.1 = some .cell ∨ sc.names.lookup y.1 = some .free
  own : ∀ y ∈ scope.names, y.2 = .local ∨ y.2 = .cell → y.1 ∈ own.map (·.1) ∨ y.1 ∉ N
def wipe (σ : St) : List Nat → St
  | [] => σ
  | v :: vs => (wipe σ vs).set v none
theorem wipe_length (σ : St) : ∀ vs : List Nat, (wipe σ vs).length = σ.length
  | [] => rfl
  | v :: vs => by unfold wipe; rw [List.length_set, wipe_length σ vs]
theorem wipe_some {σ : St} {i : Nat} {x : V} : ∀ {vs : List Nat}, (wipe σ vs)[i]? = some (some x) → σ[i]? = some (some x) ∧ i ∉ vs
  | [], h => ⟨h, by simp⟩
  | v :: vs, h => by
    unfold wipe at h
    by_cases hi : v = i
    · subst hi
      by_cases hv : v < (wipe σ vs).length
      · rw [List.getElem?_set_self hv] at h; cases h
      · rw [List.getElem?_eq_none (by simpa using hv)] at h; cases h
    · rw [List.getElem?_set_ne hi] at h
      obtain ⟨h1, h2⟩ := wipe_some h
      exact ⟨h1, by simp only [List.mem_cons, not_or]; exact ⟨fun e => hi e.symm, h2⟩⟩
abbrev Cx.blk (X : Cx) (s : Shared) (H : Hp) (scope : Scope) (cenv : Env) (fp : List Addr) : Cx := { X with s_0 := s, H_0 := H, env := cenv, outer := X.stack, ex := fp, fn := fun x => scope.names.lookup x == some .cell, pn := [], xe := fun _ _ => False }
section
variable {X : Cx} {pins : List (Addr × Obj)} {σ : St} {H : Hp} {s : Shared}
theorem block_start {scope : Scope} {own : List (Str × Nat)} {fp : List Addr} (I : Inv X pins σ H s) (ok : BlkOk X.N X.env.scope scope own) (hN : X.N.Nodup) (hfp : ∀ b ∈ fp, FpOk X pins H b ∧ b < s.heap.objs.size) :
    Inv (X.blk s H scope (compEnvC scope (cellsFrom (s.heap.objs.size + 1) scope.names (cloFrom X.env.cells scope.names [])) s.heap.objs.size X.env) fp) [] (wipe σ (own.map (·.2))) H { s with heap := pushCells (s.heap.push { cls := .type "dict", data := .dict #[] }) scope.names } := by
  have hfree : ∀ y ∈ scope.names, y.2 = .free → ∃ c, X.env.cells.lookup y.1 = some c := fun y hy e => by
    rcases ok.free y hy e with k | k
    · exact I.ok.has _ (.inl k)
    · exact I.ok.has _ (.inr k)
  generalize hcenv : compEnvC scope (cellsFrom (s.heap.objs.size + 1) scope.names (cloFrom X.env.cells scope.names [])) s.heap.objs.size X.env = cenv
  have kp : ∀ b o, s.heap.get? b = some o → (pushCells (s.heap.push { cls := .type "dict", data := .dict #[] }) scope.names).get? b = some o := fun b o e => pushCells_keeps _ _ _ _ (Heap.get?_push_of_some _ e)
  have hL : cenv.locals = s.heap.objs.size := by rw [← hcenv]; rfl
  have hcl : cenv.cells = cellsFrom (s.heap.objs.size + 1) scope.names (cloFrom X.env.cells scope.names []) := by rw [← hcenv]; rfl
  have hsc : cenv.scope = relS scope X.env.scope := by rw [← hcenv]; rfl
  rw [← Heap.size_push s.heap { cls := .type "dict", data := .dict #[] }] at hcl
  have cm : ∀ {y c}, (y, c) ∈ cloFrom X.env.cells scope.names [] → X.env.cells.lookup y = some c ∧ c < s.heap.objs.size := fun {y c} hm => by
    rcases cloFrom_mem hm with hm | ⟨h1, rfl⟩
    · cases hm
    · obtain ⟨c, hc⟩ := hfree _ h1 rfl
      rw [hc]
      obtain ⟨w, z⟩ := I.cell _ _ hc
      exact ⟨rfl, z.lt⟩
  have mem : ∀ {y c}, cenv.cells.lookup y = some c → (X.env.cells.lookup y = some c ∧ c < s.heap.objs.size) ∨ (s.heap.objs.size + 1 ≤ c ∧ CellAt (pushCells (s.heap.push { cls := .type "dict", data := .dict #[] }) scope.names) c none) := fun {y c} e => by
    rw [hcl] at e
    rcases cells_mem (PySem.mem_of_lookup e) with hm | ⟨_, h2, h3⟩
    · exact .inl (cm hm)
    · rw [Heap.size_push] at h2; exact .inr ⟨h2, h3⟩
  have look : ∀ {y}, scope.names.lookup y = some .free → ∃ c, cenv.cells.lookup y = some c ∧ X.env.cells.lookup y = some c := fun {y} hl => by
    have hy : (y, NameKind.free) ∈ scope.names := PySem.mem_of_lookup hl
    obtain ⟨c', e'⟩ := mem_lookup (cells_acc (names := scope.names) (n := (s.heap.push { cls := .type "dict", data := .dict #[] }).objs.size) (cloFrom_has (cells := X.env.cells) (acc := []) hy))
    rw [← hcl] at e'
    refine ⟨c', e', ?_⟩
    rw [hcl] at e'
    rcases cells_mem (PySem.mem_of_lookup e') with hm | ⟨h1, _, _⟩
    · exact (cm hm).1
    · have := ok.uniq _ h1
      rw [hl] at this; cases this
  have okB : (X.blk s H scope cenv fp).Ok := by
    refine ⟨I.ok.mod, by show cenv.scope.kind = _; rw [hsc]; exact ok.kind, by show cenv.globals = _; rw [← hcenv]; exact I.ok.glob, by show cenv.builtins = _; rw [← hcenv]; exact I.ok.blt, by show s.heap.objs.size ≤ cenv.locals; rw [hL]; exact Nat.le_refl _,
      fun y z c e1 e2 => ?_, fun y hy => ?_, fun y c z e => ?_, I.ok.hd, I.ok.frames, .inl rfl, fun b hb => ⟨?_, fun y c e z => ?_⟩, I.bs, Nat.le_trans I.ok.bsz I.sz, fun b o e hb => ?_, fun b hb z => ?_, I.stack, I.stkFree⟩
    · have e1 : cenv.cells.lookup y = some c := e1
      have e2 : cenv.cells.lookup z = some c := e2
      rw [hcl] at e1 e2
      refine cells_inj (fun p hp => ?_) (fun y z c a b => I.ok.inj y z c (cm a).1 (cm b).1) (PySem.mem_of_lookup e1) (PySem.mem_of_lookup e2)
      rw [Heap.size_push]
      exact Nat.lt_succ_of_lt (cm (y := p.1) (c := p.2) hp).2
    · show ∃ c, cenv.cells.lookup y = some c
      have key : ∀ k, cenv.kindOf y = some k → (k = .cell ∨ k = .free) → ∃ c, cenv.cells.lookup y = some c := fun k hk hk' => by
        unfold Env.kindOf at hk
        rw [hsc] at hk
        obtain ⟨k', e, r⟩ := lookup_relS hk
        have : k' = .cell ∨ k' = .free := by
          rcases r with rfl | ⟨rfl, _⟩
          · exact hk'
          · exact .inr rfl
        rcases this with rfl | rfl
        · obtain ⟨c, hm⟩ := cells_has (n := (s.heap.push { cls := .type "dict", data := .dict #[] }).objs.size) (acc := cloFrom X.env.cells scope.names []) (PySem.mem_of_lookup e)
          obtain ⟨c', e'⟩ := mem_lookup hm
          exact ⟨c', by rw [hcl]; exact e'⟩
        · obtain ⟨c, h1, _⟩ := look e
          exact ⟨c, h1⟩
      rcases hy with hy | hy
      · exact key _ hy (.inl rfl)
      · exact key _ hy (.inr rfl)
    · have z : (scope.names.lookup y == some NameKind.cell) = true := z
      have z : scope.names.lookup y = some .cell := by simpa using z
      have e : cenv.cells.lookup y = some c := e
      rw [hcl] at e
      rcases cells_mem (PySem.mem_of_lookup e) with hm | ⟨_, h2, _⟩
      · rcases cloFrom_mem hm with hm | ⟨h1, _⟩
        · cases hm
        · have q := ok.uniq _ h1
          rw [z] at q; cases q
      · rw [Heap.size_push] at h2
        exact Nat.le_of_succ_le h2
    · show b ≠ cenv.locals
      rw [hL]; exact Nat.ne_of_lt (hfp b hb).2
    · have e : cenv.cells.lookup y = some c := e
      rcases mem e with ⟨h1, _⟩ | ⟨h1, _⟩
      · exact (hfp b hb).1.2.2.2.2.1 y c h1 z
      · have h2 : s.heap.objs.size + 1 ≤ b := by rw [← z]; exact h1
        exact absurd (Nat.lt_of_lt_of_le (hfp b hb).2 (Nat.le_of_succ_le h2)) (Nat.lt_irrefl _)
    · rcases (hfp b hb).1.2.2.2.1 with z | z
      · exact I.ok.noex b o e z
      · exact absurd (Nat.lt_of_lt_of_le (Heap.lt_size e) (Nat.le_trans I.ok.bsz z)) (Nat.lt_irrefl _)
    · rcases List.mem_cons.mp (I.stkSub b z) with z | z
      · exact (hfp b hb).1.2.1 z
      · exact (hfp b hb).1.2.2.1 z
  refine ⟨okB, rfl, I.bare, Un.kept kp, ⟨fun _ => none, ?_, fun i y av e1 e2 e3 => ?_⟩, fun y c e => ?_, ?_, fun y c e => ?_, fun p hp => ?_, I.hok.kept kp, by rw [wipe_length]; exact I.len⟩
  · show Heap.Ns _ cenv.locals _
    rw [hL]
    exact Heap.Ns.keeps (Heap.Ns.new ..) fun b o e => pushCells_keeps _ _ _ _ e
  · obtain ⟨e2, hne⟩ := wipe_some e2
    have hfr : scope.names.lookup y = some .free ∧ (cenv.kindOf y = some .cell ∨ cenv.kindOf y = some .free) := by
      have key : ∀ k, cenv.scope.names.lookup y = some k → k = .local ∨ k = .cell ∨ k = .free → scope.names.lookup y = some .free ∧ (cenv.kindOf y = some .cell ∨ cenv.kindOf y = some .free) := fun k hk hk' => by
        have hk0 := hk
        rw [hsc] at hk
        obtain ⟨k', e, r⟩ := lookup_relS hk
        have no : ¬ (k' = .local ∨ k' = .cell) := fun hh => by
          rcases ok.own _ (PySem.mem_of_lookup e) hh with e' | e'
          · obtain ⟨p, hp, hpy⟩ := List.mem_map.mp e'
            have e3 := ok.ix p hp
            have : p.1 = y := hpy
            rw [this] at e3
            exact hne (List.mem_map.mpr ⟨p, hp, nodup_ix hN e3 e1⟩)
          · exact e' (List.mem_of_getElem? e1)
        rcases r with rfl | ⟨rfl, rfl⟩
        · rcases hk' with rfl | rfl | rfl
          · exact absurd (.inl rfl) no
          · exact absurd (.inr rfl) no
          · exact ⟨e, .inr hk0⟩
        · exact ⟨e, .inl hk0⟩
      have e3 : Vis cenv.scope y := e3
      rcases e3 with e3 | e3 | e3
      · exact key _ e3 (.inl rfl)
      · exact key _ e3 (.inr (.inl rfl))
      · exact key _ e3 (.inr (.inr rfl))
    obtain ⟨m, hn, hl⟩ := I.loc
    have hvis : Vis X.env.scope y := (ok.free _ (PySem.mem_of_lookup hfr.1) rfl).elim (fun k => .inr (.inl k)) (fun k => .inr (.inr k))
    obtain ⟨w, r, q⟩ := hl i y av e1 e2 hvis
    refine ⟨w, r, .inr ⟨hfr.2, ?_⟩⟩
    obtain ⟨c, h1, h2⟩ := look hfr.1
    rcases q with ⟨k, _⟩ | ⟨_, c', e', z⟩
    · have k : X.env.scope.names.lookup y = some .local := k
      rcases ok.free _ (PySem.mem_of_lookup hfr.1) rfl with k' | k' <;> rw [show X.env.scope.names.lookup y = _ from k'] at k <;> cases k
    · rw [h2] at e'; cases e'
      exact ⟨c, h1, z.keeps kp⟩
  · have e : cenv.cells.lookup y = some c := e
    rcases mem e with ⟨h1, _⟩ | ⟨_, z⟩
    · obtain ⟨w, z⟩ := I.cell y c h1
      exact ⟨w, z.keeps kp⟩
    · exact ⟨_, z⟩
  · show H cenv.locals = none
    rw [hL]; exact I.hok.fresh (Nat.le_refl _)
  · have e : cenv.cells.lookup y = some c := e
    rcases mem e with ⟨h1, _⟩ | ⟨h1, _⟩
    · exact I.freeC y c h1
    · exact I.hok.fresh (Nat.le_of_succ_le h1)
  · exact absurd (show p ∈ ([] : List (Addr × Obj)) ++ [] from hp) (by simp)
theorem app_ok {E : Value → Shared → Prop} {D : Addr} {xs : List V} {y : V} {v : Value} {Q : Value → Shared → Prop} (I : Inv X pins σ H s) (hD : H D = some (.lst xs)) (hz : xs.length < sizeLine) (r : RelV y v)
    (h : ∀ s', Inv X pins σ (upd H D (.lst (xs ++ [y]))) s' → Q .none s') : wpAny (model X.prog X.w) X.A (call (.builtin "list.append") [.ref D, v]) Q E s := by
  obtain ⟨hz', its, n, ri, e⟩ := I.hok D _ hD
  have hl := ri.length
  refine append_at (hsz := by rw [List.size_toArray]; omega) e fun h' sb ho' => ?_
  refine h { s with heap := h' } (I.write (t' := s.toks) (by rw [hD]; trivial) (.inl rfl) (fun b u hb q => (sb.2 b hb).trans q) ⟨_, ho'⟩ ⟨by rw [List.length_append]; exact hz, its ++ [v], n + 1, ri.append (.cons r .nil), ?_⟩)
  rw [ho']
  simp
def PTs (X : Cx) (ifs : List Expr) (t : TT) : Prop :=
  ∀ (pins : List (Addr × Obj)) (s : Shared) (σ : St) (H : Hp) (Q : Bool → Hp → Prop), Inv X pins σ H s → t σ H Q →
    wpAny (model X.prog X.w) X.A (forIn ifs true fun c r => if r = true then do let ok ← isTrue c X.env (eval c X.env); pure (ForInStep.yield ok) else pure (ForInStep.yield r)) (TP X pins σ Q) X.xe s
def tYes : TT := fun _ H Q => Q true H
theorem pts_nil : PTs X [] tYes := fun _ _ _ H _ I h => wpAny_tests_nil ⟨H, I, h⟩
theorem pts_one {c : Expr} {t : TT} (h : PT X c t) : PTs X [c] t := fun pins s σ H Q I hw => wpAny_tests_one (h pins s σ H Q I hw)
end
theorem thnF {α : Type} {t : Sem α} {Q Q' : α → Shared → Prop} {M : Model} {A : Around} {E : Value → Shared → Prop} {s : Shared} (h : wpAny M A t Q (fun _ _ => False) s) (hQ : ∀ a s, Q a s → Q' a s) : wpAny M A t Q' E s := wpAny_mono h hQ fun _ _ z => False.elim z
theorem compLoop_any {prog : Program} {w : World} {A : Around} {R : Result → Shared → Prop} {s : Shared} {elt target iter : Expr} {ifs : List Expr} {scope : Scope} {pos : Pos} {it acc : Value} {env : Env} (I : Nat → Shared → Prop)
    (turn : ∀ n s, I n s → wpAny (model prog w) A (pyNext it) (fun r s₁ => match r with
      | none => R (.ok .next) s₁
      | some v => wpAny (model prog w) A (letOwnedTupleGo target it v) (fun _ s₁' => wpAny (model prog w) A (assign target env v) (fun _ s₂ =>
          wpAny (model prog w) A (forIn ifs true fun c r => if r = true then do let ok ← isTrue c env (eval c env); pure (ForInStep.yield ok) else pure (ForInStep.yield r)) (fun ok s₃ =>
            if ok = true then wpAny (model prog w) A (eval elt env) (fun x s₄ =>
              wpAny (model prog w) A (call (.builtin "list.append") [acc, x]) (fun _ s₅ => ∃ m, m < n ∧ I m s₅) (notedBy (model prog w) A env fun e s' => R (.error e) s') s₄) (notedBy (model prog w) A env fun e s' => R (.error e) s') s₃
            else ∃ m, m < n ∧ I m s₃) (notedBy (model prog w) A env fun e s' => R (.error e) s') s₂) (notedBy (model prog w) A env fun e s' => R (.error e) s') s₁') (notedBy (model prog w) A env fun e s' => R (.error e) s') s₁) (notedBy (model prog w) A env fun e s' => R (.error e) s') s)
    (n : Nat) (h : I n s) :
    codeAny (model prog w) A (.compLoop (.ListComp elt [⟨target, iter, ifs, 0⟩] scope pos) 0 it acc env) R s := by
  refine codeAny_loop rfl I (fun n s hI => ?_) n h
  show wpAny _ A ((compTurn (.ListComp elt [⟨target, iter, ifs, 0⟩] scope pos) 0 it acc env).onRaise (fun x => do noteFrame x env; theTreesLotGoes x)) _ _ s
  refine wpAny_noted ?_
  rw [compTurn_list]
  refine wpAny_bind (wpAny_standAt (wpAny_bind (wpAny_mono (turn n s hI) (fun r s₁ h₁ => ?_) fun _ _ h' => h')))
  cases r with
  | none => exact wpAny_pure h₁
  | some v =>
    refine wpAny_bind (wpAny_mono h₁ (fun _ s₁' h₁' => ?_) fun _ _ h' => h')
    refine wpAny_bind (wpAny_mono h₁' (fun _ s₂ h₂ => wpAny_bind (wpAny_mono h₂ (fun ok s₃ h₃ => ?_) fun _ _ h' => h')) fun _ _ h' => h')
    cases ok with
    | false => exact wpAny_pure ⟨rfl, h₃⟩
    | true =>
      exact wpAny_bind (wpAny_bind (wpAny_mono h₃ (fun x s₄ h₄ => wpAny_bind (wpAny_mono h₄ (fun _ s₅ h₅ => wpAny_pure (wpAny_pure ⟨rfl, h₅⟩)) fun _ _ h' => h')) fun _ _ h' => h'))
section
variable {X : Cx}
def tLc (wi : TI) (g : TG) (tt : TT) (te : TE) (vs : List Nat) : TE := fun σ H Q => wi σ H fun J H1 => ∀ D, H1 D = none → ∃ W : Nat → Nat → Hp → Prop, (∃ m, W 0 m (upd H1 D (.lst []))) ∧ ∀ i m H, W i m H →
  (J.stop i H ∧ Q (.ref D) H) ∨ (J.go i H ∧ ∃ Nx : Hp → Prop, (∀ H', Nx H' → ∃ m', m' < m ∧ W (i + 1) m' H') ∧ ∀ x H', J.yld i H x H' → g x (wipe σ vs) H' fun σ2 H2 => wipe σ2 vs = wipe σ vs ∧ tt σ2 H2 fun b H3 =>
    if b = true then te σ2 H3 fun y H4 => ∃ acc, H4 D = some (.lst acc) ∧ acc.length < sizeLine ∧ Nx (upd H4 D (.lst (acc ++ [y]))) else Nx H3)
theorem lc_core {pins : List (Addr × Obj)} {s : Shared} {σ : St} {H : Hp} {Q : VK} {elt tg iter : Expr} {ifs : List Expr} {scope : Scope} {own : List (Str × Nat)} {pos pos' : Pos} {wi : TI} {g : TG} {tt : TT} {te : TE} {use : Option (Value → Sem Unit)} {Qf : Value → Shared → Prop}
    (hc : X.calm = true) (hN : X.N.Nodup) (I : Inv X pins σ H s) (hi : PI X tg iter wi) (ok : BlkOk X.N X.env.scope scope own)
    (hg : ∀ (s : Shared) (H : Hp) (C : Addr) (cl : List (Str × Addr)) (fp : List Addr), PG (X.blk s H scope (compEnvC scope cl C X.env) fp) tg g) (ht : ∀ (s : Shared) (H : Hp) (C : Addr) (cl : List (Str × Addr)) (fp : List Addr), PTs (X.blk s H scope (compEnvC scope cl C X.env) fp) ifs tt)
    (he : ∀ (s : Shared) (H : Hp) (C : Addr) (cl : List (Str × Addr)) (fp : List Addr), PE (X.blk s H scope (compEnvC scope cl C X.env) fp) elt te) (hs : ∀ x, foldedSetIterable iter X.env x = pure x)
    (h : tLc wi g tt te (own.map (·.2)) σ H Q)
    (hRR : ∀ D C s' m H', Inv X pins σ H' s' → Q (.ref D) H' → s'.heap.Ns C m → FpOk X pins H' C → compPost (model X.prog X.w) X.A X.xe use Qf (.ref D) C (.ok .next) s') :
    wpAny (model X.prog X.w) X.A (comprehension (.ListComp elt [⟨tg, iter, ifs, 0⟩] scope pos) scope X.env pos' (newList []) false (eval iter X.env) use) Qf X.xe s := by
  have hfree : ∀ y ∈ scope.names, y.2 = .free → ∃ c, X.env.cells.lookup y.1 = some c := fun y hy e => by
    rcases ok.free y hy e with k | k
    · exact I.ok.has _ (.inl k)
    · exact I.ok.has _ (.inr k)
  refine wpAny_comprehension_free (use := use) rfl hs (closure_ok hfree) ok.kind (fun y hy e => by rw [ok.uniq y hy, e])
    (thn (hi pins s σ H _ I h) fun xv s1 hx => thn hx fun itv s2 h2 => ?_)
  obtain ⟨it, fp, tn, J, H2, e, I2, T, st2, f2, q⟩ := h2
  subst e
  refine wpAny_newObj_type (newEnv_comp ?_) (by show 0 ≤ sizeLine; decide)
  generalize hD : s2.heap.objs.size = D
  have hDn : H2 D = none := I2.hok.fresh (Nat.le_of_eq hD)
  obtain ⟨W, ⟨m0, w0⟩, turn⟩ := q D hDn
  -- the new list
  generalize hs3 : ({ s2 with heap := s2.heap.push { cls := .type "list", data := .seq ([] : List Value).toArray } } : Shared) = s3
  have I3 : Inv X pins σ (upd H2 D (.lst [])) s3 := by
    rw [← hs3]
    refine I2.laid (t' := s2.toks) (fun b o e => Heap.get?_push_of_some _ e) (Nat.le_of_eq hD) ⟨Nat.zero_le _, [], 0, .nil, ?_⟩
    rw [← hD]
    exact Heap.get?_push_size _ rfl
  have h3 : s3.heap = s2.heap.push { cls := .type "list", data := .seq ([] : List Value).toArray } := by rw [← hs3]
  have sz : ∀ b ∈ fp, b < s2.heap.objs.size := fun b hb => by
    obtain ⟨o, e, _⟩ := T.obj _ _ st2 b hb
    exact Heap.lt_size e
  have f3 : ∀ b ∈ fp, FpOk X pins (upd H2 D (.lst [])) b ∧ b < s3.heap.objs.size := fun b hb => by
    have hlt := sz b hb
    refine ⟨⟨?_, (f2 b hb).2⟩, by rw [h3, Heap.size_push]; exact Nat.lt_succ_of_lt hlt⟩
    rw [upd_ne (by rw [← hD]; exact Nat.ne_of_lt hlt)]
    exact (f2 b hb).1
  have st3 : tn 0 s3.heap := T.keep _ _ _ st2 fun b _ o e => by rw [h3]; exact Heap.get?_push_of_some _ e
  have I4 := block_start I3 ok hN f3
  have pg := hg s3 (upd H2 D (.lst [])) s3.heap.objs.size (cellsFrom (s3.heap.objs.size + 1) scope.names (cloFrom X.env.cells scope.names [])) fp
  have pt := ht s3 (upd H2 D (.lst [])) s3.heap.objs.size (cellsFrom (s3.heap.objs.size + 1) scope.names (cloFrom X.env.cells scope.names [])) fp
  have pe := he s3 (upd H2 D (.lst [])) s3.heap.objs.size (cellsFrom (s3.heap.objs.size + 1) scope.names (cloFrom X.env.cells scope.names [])) fp
  show codeAny _ _ (.compStart (.ListComp elt [⟨tg, iter, ifs, 0⟩] scope pos) 0 (.ref it) (.ref D) (compEnvC scope (cellsFrom (s3.heap.objs.size + 1) scope.names (cloFrom X.env.cells scope.names [])) s3.heap.objs.size X.env)) (compPost (model X.prog X.w) X.A X.xe use Qf (.ref D) s3.heap.objs.size) { s3 with heap := pushCells (s3.heap.push { cls := .type "dict", data := .dict #[] }) scope.names }
  have nfp : ∀ b ∈ fp, (upd H2 D (.lst [])) b = none := fun b hb => (f3 b hb).1.1
  generalize hce : compEnvC scope (cellsFrom (s3.heap.objs.size + 1) scope.names (cloFrom X.env.cells scope.names [])) s3.heap.objs.size X.env = ce at I4 pg pt pe ⊢
  have cL : ce.locals = s3.heap.objs.size := by subst hce; rfl
  generalize hH3 : upd H2 D (.lst []) = H3 at I3 I4 pg pt pe w0 nfp f3
  generalize hs4 : ({ s3 with heap := pushCells (s3.heap.push { cls := .type "dict", data := .dict #[] }) scope.names } : Shared) = s4 at I4 ⊢
  have st4 : tn 0 s4.heap := T.keep _ _ _ st3 fun b _ o e => by rw [← hs4]; exact pushCells_keeps _ _ _ _ (Heap.get?_push_of_some _ e)
  have stat : ∀ {σ' : St} {H' : Hp} {s' : Shared}, Inv (X.blk s3 H3 scope ce fp) [] σ' H' s' → (∀ b ∈ fp, H' b = none) → ∀ b ∈ fp, FpOk (X.blk s3 H3 scope ce fp) [] H' b := fun {σ' H' s'} I' hn b hb =>
    ⟨hn b hb, (I'.ok.exf b hb).1, I'.ok.exfs b hb, .inl hb, fun x c e => (I'.ok.exf b hb).2 x c e, fun p hp => absurd (show p ∈ ([] : List (Addr × Obj)) ++ [] from hp) (by simp)⟩
  have loop : codeAny (model X.prog X.w) X.A (.compLoop (.ListComp elt [⟨tg, iter, ifs, 0⟩] scope pos) 0 (.ref it) (.ref D) ce) (compPost (model X.prog X.w) X.A X.xe use Qf (.ref D) s3.heap.objs.size) s4 := by
    refine compLoop_any (fun n s' => ∃ i H', Inv (X.blk s3 H3 scope ce fp) [] (wipe σ (own.map (·.2))) H' s' ∧ tn i s'.heap ∧ (∀ b ∈ fp, H' b = none) ∧ W i n H') ?_ m0 ⟨0, H3, I4, st4, nfp, w0⟩
    rintro n s5 ⟨i, H5, I5, st5, n5, w5⟩
    rcases turn i n H5 w5 with ⟨stop, qq⟩ | ⟨go, Nx, hNx, step⟩
    · have td := T.done (X.blk s3 H3 scope ce fp) rfl rfl rfl hc i [] s5 _ H5 (fun _ _ => False) I5 (stat I5 n5) st5 stop
      refine thnF td fun r s6 ⟨hr, I6⟩ => ?_
      subst hr
      -- back in the def's context
      have I7 : Inv X pins σ H5 s6 := I3.call' (ch := fp) I6.os I6.base I6.hok I6.bare fun b hb => ⟨(f3 b hb).1.2.2.2.1, (f3 b hb).1.2.1, (f3 b hb).1.2.2.2.2.1, (f3 b hb).1.2.2.2.2.2⟩
      have nC : H5 s3.heap.objs.size = none := by
        have z : H5 ce.locals = none := I6.free
        rw [cL] at z
        exact z
      obtain ⟨m, hn, _⟩ := I6.loc
      have hn : s6.heap.Ns ce.locals m := hn
      rw [cL] at hn
      exact hRR D s3.heap.objs.size s6 m H5 I7 qq hn (I3.fpOk (Nat.le_refl _) nC)
    · have ti := T.item (X.blk s3 H3 scope ce fp) rfl rfl rfl hc i [] s5 _ H5 (fun _ _ => False) I5 (stat I5 n5) st5 go
      refine thnF ti fun r s6 ⟨u, hr, h6⟩ => ?_
      subst hr
      refine thnF h6 fun _ s7 ⟨x, H7, I7, r7, y7, st7, n7⟩ => ?_
      have I7' := I7.pinned (stat I7 n7) (T.obj _ _ st7)
      refine thnF (pg _ s7 _ H7 x u _ I7' r7 (step x H7 y7)) fun _ s8 ⟨σ8, H8, I8, hw8, q8⟩ => ?_
      refine thnF (pt _ s8 σ8 H8 _ I8 q8) fun b s9 ⟨H9, I9, q9⟩ => ?_
      -- the turn's end
      have fin : ∀ {s' : Shared} {H' : Hp}, Inv (X.blk s3 H3 scope ce fp) ([] ++ pinsAt fp s7.heap) σ8 H' s' → Nx H' → ∃ m, m < n ∧ ∃ i H', Inv (X.blk s3 H3 scope ce fp) [] (wipe σ (own.map (·.2))) H' s' ∧ tn i s'.heap ∧ (∀ b ∈ fp, H' b = none) ∧ W i m H' := fun {s' H'} I' nx => by
        obtain ⟨m', hm, w'⟩ := hNx H' nx
        have pin' : ∀ b ∈ fp, ∀ o, s7.heap.get? b = some o → s'.heap.get? b = some o ∧ H' b = none := fun b hb o e =>
          let z := I'.pin (b, o) (List.mem_append_right _ (List.mem_append_right _ (mem_pinsAt hb e)))
          ⟨z.1, z.2.1⟩
        have hl : (wipe σ (own.map (·.2))).length = σ8.length := by rw [← hw8, wipe_length]
        refine ⟨m', hm, i + 1, H', (I'.unpinned (pins := [])).weak hl (fun j v e => ?_), T.keep _ _ _ st7 fun b hb o e => (pin' b hb o e).1, fun b hb => ?_, w'⟩
        · rw [← hw8] at e
          exact (wipe_some e).1
        · obtain ⟨o, e, _⟩ := T.obj _ _ st7 b hb
          exact (pin' b hb o e).2
      cases b with
      | false =>
        simp only [Bool.false_eq_true, if_false] at q9 ⊢
        exact fin I9 q9
      | true =>
        simp only [if_true] at q9 ⊢
        refine thnF (pe _ s9 σ8 H9 _ I9 q9) fun z s10 ⟨yv, H10, I10, r10, acc, hD10, hz10, nx⟩ => ?_
        exact app_ok (X := X.blk s3 H3 scope ce fp) I10 hD10 hz10 r10 fun s11 I11 => fin I11 nx
  exact codeAny_compStart_list loop (T.self X.A 0 _ _ _ st4 loop)
theorem pe_lc {elt tg iter : Expr} {ifs : List Expr} {scope : Scope} {own : List (Str × Nat)} {pos : Pos} {wi : TI} {g : TG} {tt : TT} {te : TE} (hc : X.calm = true) (hN : X.N.Nodup) (hi : PI X tg iter wi) (ok : BlkOk X.N X.env.scope scope own)
    (hg : ∀ (s : Shared) (H : Hp) (C : Addr) (cl : List (Str × Addr)) (fp : List Addr), PG (X.blk s H scope (compEnvC scope cl C X.env) fp) tg g) (ht : ∀ (s : Shared) (H : Hp) (C : Addr) (cl : List (Str × Addr)) (fp : List Addr), PTs (X.blk s H scope (compEnvC scope cl C X.env) fp) ifs tt)
    (he : ∀ (s : Shared) (H : Hp) (C : Addr) (cl : List (Str × Addr)) (fp : List Addr), PE (X.blk s H scope (compEnvC scope cl C X.env) fp) elt te) (hs : ∀ x, foldedSetIterable iter X.env x = pure x := by intro _; rfl) :
    PE X (.ListComp elt [⟨tg, iter, ifs, 0⟩] scope pos) (tLc wi g tt te (own.map (·.2))) := by
  intro pins s σ H Q I h
  rw [eval_ListComp]
  refine lc_core hc hN I hi ok hg ht he hs h fun D C s' m H' I' q hn f => ⟨m, hn, fun h'' sb => ?_⟩
  obtain ⟨f0, f1, f2, f3, f4, f5⟩ := f
  exact ⟨.ref D, H', I'.turned (t' := s'.toks) (fun b o hb e => (sb.2 b hb).trans e) f0 f1 f3 f4 f5, rfl, q⟩
theorem ps_setLc {i : Nat} {y : Str} {py : Pos} {elt tg iter : Expr} {ifs : List Expr} {scope : Scope} {own : List (Str × Nat)} {pos spos : Pos} {wi : TI} {g : TG} {tt : TT} {te : TE} (hc : X.calm = true) (hN : X.N.Nodup) (hy : X.N[i]? = some y) (hyl : X.env.scope.names.lookup y = some .local)
    (hsw : swapsWith (.ListComp elt [⟨tg, iter, ifs, 0⟩] scope pos) (some (.Name y py)) spos.line X.env = pure true) (hi : PI X tg iter wi) (ok : BlkOk X.N X.env.scope scope own)
    (hg : ∀ (s : Shared) (H : Hp) (C : Addr) (cl : List (Str × Addr)) (fp : List Addr), PG (X.blk s H scope (compEnvC scope cl C X.env) fp) tg g) (ht : ∀ (s : Shared) (H : Hp) (C : Addr) (cl : List (Str × Addr)) (fp : List Addr), PTs (X.blk s H scope (compEnvC scope cl C X.env) fp) ifs tt)
    (he : ∀ (s : Shared) (H : Hp) (C : Addr) (cl : List (Str × Addr)) (fp : List Addr), PE (X.blk s H scope (compEnvC scope cl C X.env) fp) elt te) (hs : ∀ x, foldedSetIterable iter X.env x = pure x := by intro _; rfl) :
    PS X (.Assign [.Name y py] (.ListComp elt [⟨tg, iter, ifs, 0⟩] scope pos) spos) (tAsg (tLc wi g tt te (own.map (·.2))) (gName i)) := by
  intro pins s σ H D I h
  rw [exec_Assign_Name_used _ _ _ _ hsw]
  refine wpAny_bind (wpAny_standAt (wpAny_bind ?_))
  show wpAny _ X.A (do let _ ← comprehension (.ListComp elt [⟨tg, iter, ifs, 0⟩] scope pos) scope X.env (firstIterPos [⟨tg, iter, ifs, 0⟩] pos) (newList []) false (eval iter X.env) (some (assign (.Name y py) X.env))) _ _ s
  have h : tLc wi g tt te (own.map (·.2)) σ H (fun x H1 => gName i x σ H1 D.nx) := h
  refine wpAny_bind (thn (lc_core (Qf := fun _ s' => SP X pins D .next s') hc hN I hi ok hg ht he hs h fun L C s' m H' I' q hn f => ?_) fun _ s' hq => wpAny_pure (wpAny_pure hq))
  show wpAny _ _ (assign (.Name y py) X.env (.ref L)) _ _ _
  refine wpAny_assign_Name (store_ok2 (v := V.ref L) I' hN hy (.inl hyl) rfl (fun s2 I2 ⟨a, sb, ha⟩ => ?_) (.inr hyl))
  obtain ⟨f0, f1, f2, f3, f4, f5⟩ := f
  have haC : C ≠ a := by
    rcases ha with z | z
    · rw [z]; exact f1
    · exact fun e => f4 y a z e.symm
  refine ⟨m, hn.sameBut sb haC, fun h3 sb3 => ?_⟩
  exact ⟨_, H', I2.turned (t' := s2.toks) (fun b o hb e => (sb3.2 b hb).trans e) f0 f1 f3 f4 f5, q⟩
theorem sw_true {elt : Expr} {gs : List Comprehension} {scope : Scope} {pos py : Pos} {y : Str} {l : Nat} {env : Env} (hk : env.scope.kind = .function) (hy : env.scope.names.lookup y = some .local) (hl : (py.line == pos.line) = true)
    (ha : (scope.names.any fun (n, k) => n == y && (k == .local || k == .cell)) = false) : swapsWith (.ListComp elt gs scope pos) (some (.Name y py)) l env = pure true := by
  have ky : env.kindOf y = some .local := hy
  have hb : env.blockKind = .function := by unfold Env.blockKind; rw [hk]; rfl
  unfold swapsWith
  simp only [hb, ky, ha, Expr.pos, hl]
  rfl
end
theorem lc_list {K : PySem.W.Frag} {a : Addr} {xs : List V} {g : TG} {tt : TT} {te : TE} {vs : List Nat} {σ : St} {H1 : Hp} {D : Addr} {Qd : Hp → Prop} (Pv : Nat → Hp → Prop) (h0 : Pv 0 (upd H1 D (.lst []))) (hl : ∀ i H, i ≤ xs.length → Pv i H → SqL K H a xs)
    (hs : ∀ i x H, xs[i]? = some x → Pv i H → g x (wipe σ vs) H fun σ2 H2 => wipe σ2 vs = wipe σ vs ∧ tt σ2 H2 fun b H3 =>
      if b = true then te σ2 H3 fun y H4 => ∃ acc, H4 D = some (.lst acc) ∧ acc.length < sizeLine ∧ Pv (i + 1) (upd H4 D (.lst (acc ++ [y]))) else Pv (i + 1) H3) (hd : ∀ H, Pv xs.length H → Qd H) :
    ∃ W : Nat → Nat → Hp → Prop, (∃ m, W 0 m (upd H1 D (.lst []))) ∧ ∀ i m H, W i m H →
      ((Itl K a).stop i H ∧ Qd H) ∨ ((Itl K a).go i H ∧ ∃ Nx : Hp → Prop, (∀ H', Nx H' → ∃ m', m' < m ∧ W (i + 1) m' H') ∧ ∀ x H', (Itl K a).yld i H x H' → g x (wipe σ vs) H' fun σ2 H2 => wipe σ2 vs = wipe σ vs ∧ tt σ2 H2 fun b H3 =>
        if b = true then te σ2 H3 fun y H4 => ∃ acc, H4 D = some (.lst acc) ∧ acc.length < sizeLine ∧ Nx (upd H4 D (.lst (acc ++ [y]))) else Nx H3) := by
  refine ⟨fun i m H => m = xs.length - i ∧ i ≤ xs.length ∧ Pv i H, ⟨xs.length, by simp, Nat.zero_le _, h0⟩, ?_⟩
  rintro i m H ⟨rfl, hi, p⟩
  have q := hl i H hi p
  by_cases hlt : i < xs.length
  · refine .inr ⟨⟨xs, xs[i], q, by simp [hlt]⟩, Pv (i + 1), fun H' p' => ⟨xs.length - (i + 1), by omega, rfl, hlt, p'⟩, fun x H' y => ?_⟩
    obtain ⟨e, y⟩ := y
    subst e
    exact hs i x _ (y xs q) p
  · have e : i = xs.length := by omega
    subst e
    exact .inl ⟨⟨xs, q, Nat.le_refl _⟩, hd H p⟩
end L2
namespace L2
open PySem PySem.Spec PyProof.Rows
section
variable {prog : Program} {w : World} {A : Around} {R : Result → Shared → Prop} {s : Shared} {elt t0 i0 t1 i1 : Expr} {ifs0 ifs1 : List Expr} {scope : Scope} {pos : Pos} {it acc : Value} {env : Env}
end
section
variable {X : Cx}
end
end L2
namespace L2
open PySem PySem.Spec PyProof.Rows
section
variable {κ : Type} [DecidableEq κ]
def valV (kvs : List (κ × V)) (k : κ) : Option V := (kvs.find? fun kv => decide (kv.1 = k)).map (·.2)
def putK (kvs : List (κ × V)) (k : κ) (v : V) : List (κ × V) :=
  if (kvs.any fun kv => decide (kv.1 = k)) = true then kvs.map (fun kv => if kv.1 = k then (kv.1, v) else kv) else kvs ++ [(k, v)]
theorem valV_pos {p : κ × V} {r : List (κ × V)} {k : κ} (e : p.1 = k) : valV (p :: r) k = some p.2 := by simp [valV, List.find?_cons, e]
theorem valV_neg {p : κ × V} {r : List (κ × V)} {k : κ} (e : ¬ p.1 = k) : valV (p :: r) k = valV r k := by simp [valV, List.find?_cons, e]
theorem valV_any (k : κ) : ∀ kvs : List (κ × V), (kvs.any fun kv => decide (kv.1 = k)) = (valV kvs k).isSome
  | [] => rfl
  | p :: r => by
    rw [List.any_cons]
    by_cases e : p.1 = k
    · simp only [valV_pos e, decide_eq_true e, Bool.true_or, Option.isSome_some]
    · rw [valV_neg e, decide_eq_false e, Bool.false_or]; exact valV_any k r
theorem length_putK (kvs : List (κ × V)) (k : κ) (v : V) : (putK kvs k v).length ≤ kvs.length + 1 := by
  unfold putK
  split
  · rw [List.length_map]; omega
  · rw [List.length_append, List.length_cons, List.length_nil]; omega
theorem putK_new {kvs : List (κ × V)} {k : κ} (v : V) (h : valV kvs k = none) : putK kvs k v = kvs ++ [(k, v)] := by
  unfold putK
  rw [valV_any, h]
  exact if_neg (by decide)
theorem RelO.isSome_eq {o : Option V} {u : Option Value} (r : RelO o u) : o.isSome = u.isSome := by
  cases o with
  | none => cases u with
    | none => rfl
    | some _ => exact (show False from r).elim
  | some _ => cases u with
    | none => exact (show False from r).elim
    | some _ => rfl
theorem KV.val {kvs : List (κ × V)} {vs : List (κ × Value)} (r : KV kvs vs) (k : κ) : RelO (valV kvs k) (valueAt vs k) := by
  unfold KV at r
  induction r with
  | nil => exact True.intro
  | @cons p q ps qs h t ih =>
    obtain ⟨h1, h2⟩ := h
    by_cases e : p.1 = k
    · have e' : q.1 = k := h1.symm.trans e
      have b : valueAt (q :: qs) k = some q.2 := by simp [valueAt, List.find?_cons, e']
      rw [valV_pos e, b]; exact h2
    · have e' : ¬ q.1 = k := fun z => e (h1.trans z)
      have b : valueAt (q :: qs) k = valueAt qs k := by simp [valueAt, List.find?_cons, e']
      rw [valV_neg e, b]; exact ih
theorem KV.any {kvs : List (κ × V)} {vs : List (κ × Value)} (r : KV kvs vs) (k : κ) : (kvs.any fun kv => decide (kv.1 = k)) = vs.any fun kv => decide (kv.1 = k) := by
  unfold KV at r
  induction r with
  | nil => rfl
  | cons h t ih => rw [List.any_cons, List.any_cons, ih, h.1]
theorem KV.repl {kvs : List (κ × V)} {vs : List (κ × Value)} (r : KV kvs vs) (k : κ) {y : V} {u : Value} (ry : RelV y u) :
    KV (kvs.map fun kv => if kv.1 = k then (kv.1, y) else kv) (vs.map fun kv => if kv.1 = k then (kv.1, u) else kv) := by
  unfold KV at r ⊢
  induction r with
  | nil => exact .nil
  | @cons p q ps qs h t ih =>
    rw [List.map_cons, List.map_cons]
    refine .cons ?_ ih
    obtain ⟨h1, h2⟩ := h
    by_cases e : p.1 = k
    · rw [if_pos e, if_pos (h1.symm.trans e)]; exact ⟨h1, ry⟩
    · rw [if_neg e, if_neg (fun z => e (h1.trans z))]; exact ⟨h1, h2⟩
theorem KV.put {kvs : List (κ × V)} {vs : List (κ × Value)} (r : KV kvs vs) (k : κ) {y : V} {u : Value} (ry : RelV y u) : KV (putK kvs k y) (stored vs k u) := by
  unfold putK stored
  rw [r.any k]
  by_cases e : (vs.any fun kv => decide (kv.1 = k)) = true
  · rw [if_pos e, if_pos e]; exact r.repl k ry
  · rw [if_neg e, if_neg e]; exact Paired.snoc r ⟨rfl, ry⟩
theorem KV.length {kvs : List (κ × V)} {vs : List (κ × Value)} (r : KV kvs vs) : kvs.length = vs.length := Paired.length r
end
theorem kV_is {P : Program} {w : World} {k : Key} {u : Value} (r : RelV (kV k) u) : (mixKind P w).is k u = true := by
  cases k with
  | inl i => obtain ⟨t, e⟩ := (show ∃ t, u = Value.int i t from r); subst e; exact mixKind_int P w i t
  | inr x => obtain ⟨t, e⟩ := (show ∃ t, u = Value.str x t from r); subst e; exact mixKind_str P w x t
theorem items_are {P : Program} {w : World} : ∀ {ks : List Key} {us : List Value}, Vals (ks.map kV) us → ItemsAre (mixKind P w) ks us
  | [], _, r => by rw [List.map_nil] at r; cases r; exact .nil
  | k :: ks, _, r => by
    rw [List.map_cons] at r
    cases r with
    | cons h t => exact .cons (kV_is h) (items_are t)
abbrev KT (H : Hp) : List (List Key × V) → List (List Key × Addr × Value) → Prop := Paired fun p q => p.1 = q.1 ∧ H q.2.1 = some (.tup (p.1.map kV)) ∧ RelV p.2 q.2.2
theorem KT.val {H : Hp} {kvs : List (List Key × V)} {xs : List (List Key × Addr × Value)} (r : KT H kvs xs) (k : List Key) : RelO (valV kvs k) ((atKey xs k).map (·.2)) := by
  induction r with
  | nil => exact True.intro
  | @cons p q ps qs h t ih =>
    obtain ⟨h1, _, h2⟩ := h
    by_cases e : p.1 = k
    · have e' : q.1 = k := h1.symm.trans e
      have b : atKey (q :: qs) k = some q.2 := by simp [atKey, List.find?_cons, e']
      rw [valV_pos e, b]; exact h2
    · have e' : ¬ q.1 = k := fun z => e (h1.trans z)
      have b : atKey (q :: qs) k = atKey qs k := by simp [atKey, List.find?_cons, e']
      rw [valV_neg e, b]; exact ih
theorem KT.repl {H : Hp} {kvs : List (List Key × V)} {xs : List (List Key × Addr × Value)} (r : KT H kvs xs) (k : List Key) {y : V} {u : Value} (ry : RelV y u) :
    KT H (kvs.map fun kv => if kv.1 = k then (kv.1, y) else kv) (xs.map (putAt k u)) := by
  induction r with
  | nil => exact .nil
  | @cons p q ps qs h t ih =>
    rw [List.map_cons, List.map_cons]
    refine .cons ?_ ih
    obtain ⟨h1, h2, h3⟩ := h
    unfold putAt
    by_cases e : p.1 = k
    · rw [if_pos e, if_pos (h1.symm.trans e)]; exact ⟨h1, h2, ry⟩
    · rw [if_neg e, if_neg (fun z => e (h1.trans z))]; exact ⟨h1, h2, h3⟩
theorem KT.put {H : Hp} {kvs : List (List Key × V)} {xs : List (List Key × Addr × Value)} (r : KT H kvs xs) (k : List Key) {b : Addr} {y : V} {u : Value} (hb : H b = some (.tup (k.map kV))) (ry : RelV y u) :
    KT H (putK kvs k y) (storedH xs k b u) := by
  have e : (kvs.any fun kv => decide (kv.1 = k)) = (atKey xs k).isSome := by
    rw [valV_any, (r.val k).isSome_eq, Option.isSome_map]
  unfold putK storedH
  rw [e]
  by_cases q : (atKey xs k).isSome = true
  · rw [if_pos q, if_pos q]; exact r.repl k ry
  · rw [if_neg q, if_neg q]; exact Paired.snoc r ⟨rfl, hb, ry⟩
theorem KT.keeps {H H' : Hp} {kvs : List (List Key × V)} {xs : List (List Key × Addr × Value)} (r : KT H kvs xs) (ht : ∀ b ys, H b = some (.tup ys) → H' b = some (.tup ys)) : KT H' kvs xs :=
  Paired.mapP r fun _ _ z => ⟨z.1, ht _ _ z.2.1, z.2.2⟩
section
variable {P : Program} {w : World} {H : Hp} {h : Heap} {a : Addr}
theorem rd_of {u : HO} (ok : HOk P w H h) (e : Rd H a u) : ObjOk P w H h a u := e.ok ok
theorem dk_rd {kvs : List (Key × V)} (ok : HOk P w H h) (e : Rd H a (.dK kvs)) : kvs.length ≤ sizeLine ∧ (a == sysModules) = false ∧ ∃ vs, KV kvs vs ∧ h.DictOf (mixKind P w) a vs :=
  show ObjOk P w H h a (.dK kvs) from rd_of ok e
theorem dk_of {kvs : List (Key × V)} (ok : HOk P w H h) (e : H a = some (.dK kvs)) : kvs.length ≤ sizeLine ∧ (a == sysModules) = false ∧ ∃ vs, KV kvs vs ∧ h.DictOf (mixKind P w) a vs := dk_rd ok (.inl e)
theorem key_of {ks : List Key} (ok : HOk P w H h) (e : H a = some (.tup (ks.map kV))) : (tupleKind (mixKind P w)).is h ks a := by
  obtain ⟨_, its, r, o, h1, h2, n, h3⟩ := (show ObjOk P w H h a (.tup (ks.map kV)) from ok a _ e)
  exact ⟨o, its.toArray, n, h1, h2, h3, by simpa using items_are r⟩
theorem dt_rd {kvs : List (List Key × V)} (ok : HOk P w H h) (e : Rd H a (.dT kvs)) : kvs.length ≤ sizeLine ∧ (a == sysModules) = false ∧
    ∃ xs, KT H kvs xs ∧ h.DictOfH (tupleKind (mixKind P w)) a xs := by
  obtain ⟨z, y, xs, r, o, es, ep, h1, h2, h3, h4, h5⟩ := (show ObjOk P w H h a (.dT kvs) from rd_of ok e)
  refine ⟨z, y, xs, r, o, es, ep, h1, h2, h3, h4, fun x hx => ?_, h5⟩
  have all : ∀ {l : List (List Key × V)} {m : List (List Key × Addr × Value)}, KT H l m → ∀ x ∈ m, (tupleKind (mixKind P w)).is h x.1 x.2.1 := by
    intro l m q
    induction q with
    | nil => intro x hx; exact nomatch hx
    | @cons p q ps qs hq t ih =>
      intro x hx
      rcases List.mem_cons.mp hx with e | hx
      · subst e
        exact key_of ok (by rw [← hq.1]; exact hq.2.1)
      · exact ih x hx
  exact all r x hx
theorem dt_of {kvs : List (List Key × V)} (ok : HOk P w H h) (e : H a = some (.dT kvs)) : kvs.length ≤ sizeLine ∧ (a == sysModules) = false ∧
    ∃ xs, KT H kvs xs ∧ h.DictOfH (tupleKind (mixKind P w)) a xs := dt_rd ok (.inl e)
end
def DGet (H : Hp) (a : Addr) (y : V) (r : Option V) : Prop :=
  (∃ kvs k, Rd H a (.dK kvs) ∧ y = kV k ∧ r = valV kvs k) ∨ ∃ kvs k b, Rd H a (.dT kvs) ∧ y = .ref b ∧ H b = some (.tup (k.map kV)) ∧ r = valV kvs k
def DPut (H : Hp) (a : Addr) (y v : V) (H' : Hp) : Prop :=
  (∃ kvs k, H a = some (.dK kvs) ∧ y = kV k ∧ kvs.length < sizeLine ∧ H' = upd H a (.dK (putK kvs k v))) ∨
  ∃ kvs k b, H a = some (.dT kvs) ∧ y = .ref b ∧ H b = some (.tup (k.map kV)) ∧ kvs.length < sizeLine ∧ H' = upd H a (.dT (putK kvs k v))
theorem DPut.k {H : Hp} {a : Addr} {kvs : List (Key × V)} {k : Key} {v : V} (e : H a = some (.dK kvs)) (hl : kvs.length < sizeLine) : DPut H a (kV k) v (upd H a (.dK (putK kvs k v))) := .inl ⟨kvs, k, e, rfl, hl, rfl⟩
section
variable {X : Cx} {pins : List (Addr × Obj)} {σ : St} {H : Hp} {s : Shared} {a : Addr} {y v : V} {u r : Value} {o : Option V} {A : Around} {E : Value → Shared → Prop}
theorem Inv.big (I : Inv X pins σ H s) : sysModules < s.heap.objs.size := by
  have h : mainGlobals < s.heap.objs.size := (I.mod.glob.keeps I.bk).lt
  exact Nat.lt_trans (by decide) h
theorem d_getItem {Q : Value → Shared → Prop} (hu : A.units + 1 < cLine) (I : Inv X pins σ H s) (g : DGet H a y (some v)) (ry : RelV y u) (h : ∀ w' s', Inv X pins σ H s' → RelV v w' → Q w' s') :
    wpAny (model X.prog X.w) A (getItem (.ref a) u) Q E s := by
  rcases g with ⟨kvs, k, e, ey, l⟩ | ⟨kvs, k, b, e, ey, eb, l⟩
  · subst ey
    obtain ⟨z, hd, vs, rel, dd⟩ := dk_rd I.hok e
    obtain ⟨w', hw, rw'⟩ := RelO.some_of (v := v) (o := valueAt vs k) (by rw [l]; exact rel.val k)
    exact wpAny_getItem_of (kV_is ry) dd.mapOf hw (h w' _ (I.tok _) rw')
  · subst ey
    cases (show u = Value.ref b from ry)
    obtain ⟨z, hd, xs, rel, dd⟩ := dt_rd I.hok e
    obtain ⟨w', hw, rw'⟩ := RelO.some_of (v := v) (o := (atKey xs k).map (·.2)) (by rw [l]; exact rel.val k)
    obtain ⟨p, hp, hp2⟩ := Option.map_eq_some_iff.mp hw
    refine wpAny_getItem_heap (tupleKind_room_in1 hu) (key_of I.hok eb) dd hp ?_
    rw [hp2]
    exact h w' _ (I.tok _) rw'
theorem d_write {h' : Heap} {t' : Nat} {ob : HO} (I : Inv X pins σ H s) (mu : Mut (H a)) (hs : Heap.SameBut a s.heap h') (he : ∃ q, h'.get? a = some q) (new : ObjOk X.prog X.w (upd H a ob) h' a ob) :
    Inv X pins σ (upd H a ob) { s with heap := h', toks := t' } :=
  I.write (x := a) (e := a) mu (.inl rfl) (fun b q hb z => (hs.2 b hb).trans z) he new
theorem dk_new {P : Program} {w : World} {H' : Hp} {h' : Heap} {kvs : List (Key × V)} {vs : List (Key × Value)} (z : kvs.length ≤ sizeLine) (hd : (a == sysModules) = false) (rel : KV kvs vs) (dd : h'.DictOf (mixKind P w) a vs) :
    ObjOk P w H' h' a (.dK kvs) := ⟨z, hd, vs, rel, dd⟩
theorem d_setItem {H' : Hp} {Q : Unit → Shared → Prop} (hu : A.units + 1 < cLine) (I : Inv X pins σ H s) (g : DPut H a y v H') (ry : RelV y u) (rv : RelV v r) (h : ∀ s', Inv X pins σ H' s' → Q () s') :
    wpAny (model X.prog X.w) A (setItem (.ref a) u r) Q E s := by
  rcases g with ⟨kvs, k, e, ey, l, eH⟩ | ⟨kvs, k, b, e, ey, eb, l, eH⟩
  · subst ey eH
    obtain ⟨z, hd, vs, rel, dd⟩ := dk_of I.hok e
    have hz : vs.length ≤ sizeLine := by rw [← rel.length]; exact z
    have hl : (putK kvs k v).length ≤ sizeLine := by have := length_putK kvs k v; omega
    refine wpAny_setItem_pairs (hsz := hz) (kV_is ry) dd fun h' dd' hs => h _ ?_
    have he : ∃ q, h'.get? a = some q := let ⟨q, _, _, hq, _⟩ := dd'; ⟨q, hq⟩
    exact d_write I (by rw [e]; exact True.intro) hs he (dk_new hl hd (rel.put k rv) dd')
  · subst ey eH
    cases (show u = Value.ref b from ry)
    obtain ⟨z, hd, xs, rel, dd⟩ := dt_of I.hok e
    have hz : xs.length ≤ sizeLine := by rw [← Paired.length rel]; exact z
    have hl : (putK kvs k v).length ≤ sizeLine := by have := length_putK kvs k v; omega
    refine wpAny_setItem_heap (hsz := hz) (tupleKind_room_in1 hu) (key_of I.hok eb) dd fun h' dd' hs => h _ ?_
    obtain ⟨q, es, ep, hq, h2, h3, h4, _, h5⟩ := dd'
    refine d_write I (by rw [e]; exact True.intro) hs ⟨q, hq⟩ ⟨hl, hd, _, (rel.put k eb rv).keeps fun c ys ec => ?_, q, es, ep, hq, h2, h3, h4, h5⟩
    rw [upd_ne (ne_of ec e (fun z => nomatch z))]
    exact ec
end
section
variable {X : Cx} {pins : List (Addr × Obj)} {σ : St} {H : Hp} {s : Shared} {a : Addr} {kvs : List (Key × V)} {k : Key} {u : Value} {A : Around} {E : Value → Shared → Prop}
end
def NoSl (i : Expr) : Prop := ∀ ov iv, subscripted i false ov iv = operate [ov, iv] (getItem ov iv)
theorem subD_of {prog : Program} {w : World} {A : Around} {E : Value → Shared → Prop} {s : Shared} {env : Env} {value slice : Expr} {pos : Pos} {T id : String} {Q : Value → Shared → Prop}
    (hl : typeLookup (.type T) "__getitem__" = pure (some (.builtin id))) (hs : NoSl slice)
    (h : wpAny (model prog w) A (eval value env) (fun o s₁ => wpAny (model prog w) A (eval slice env) (fun i s₂ => s₂.TypeIs o T ∧ wpAny (model prog w) A (getItem o i) Q E s₂) E s₁) E s) :
    wpAny (model prog w) A (eval (.Subscript value slice pos) env) Q E s := by
  refine Subscript_ (wpAny_mono h (fun o s₁ h₁ => wpAny_mono h₁ (fun i s₂ h₂ => ?_) fun _ _ x => x) fun _ _ x => x)
  obtain ⟨hT, h₂⟩ := h₂
  unfold subscriptTail
  refine wpAny_bind ?_
  rw [getitemInPython_of_ne hT.not_modules]
  refine wpAny_bind (wpAny_specialOf hT hl ?_)
  have fin : wpAny (model prog w) A (subscripted slice false o i) (fun r s₃ => wpAny (model prog w) A (letTemporaryGo value o r >>= fun _ => pure r) Q E s₃) E s₂ := by
    rw [hs o i]
    exact wpAny_operating (wpAny_mono h₂ (fun r s₃ h₃ => wpAny_bind (wpAny_letTemporaryGo (wpAny_pure h₃))) fun _ _ x => x)
  first
    | exact wpAny_pure (wpAny_bind fin)
    | exact wpAny_bind (wpAny_pure (wpAny_bind fin))
    | exact wpAny_bind fin
theorem dict_typeIs {X : Cx} {pins : List (Addr × Obj)} {σ : St} {H : Hp} {s : Shared} {a : Addr} {y : V} {o : Option V} (I : Inv X pins σ H s) (g : DGet H a y o) : s.TypeIs (.ref a) "dict" := by
  rcases g with ⟨kvs, k, e, _, _⟩ | ⟨kvs, k, b, e, _, _, _⟩
  · obtain ⟨_, _, vs, _, dd⟩ := dk_rd I.hok e
    exact dd.typeIs
  · obtain ⟨_, _, xs, _, dd⟩ := dt_rd I.hok e
    exact dd.typeIs
def tDGet (td ty : TE) : TE := fun σ H Q => td σ H fun x H1 => ty σ H1 fun y H2 => ∃ a v, x = .ref a ∧ DGet H2 a y (some v) ∧ Q v H2
def sDPut (td ty tv : TE) : TS := fun D σ H => tv σ H fun v H1 => td σ H1 fun x H2 => ty σ H2 fun y H3 => ∃ a H4, x = .ref a ∧ DPut H3 a y v H4 ∧ D.nx σ H4
section
variable {X : Cx} {o i e value : Expr} {pos pos' tpos : Pos} {td ty tv : TE}
theorem pe_dget (hu : X.A.units + 1 < cLine) (ho : PE X o td) (hi : PE X i ty) (hs : NoSl i) : PE X (.Subscript o i pos) (tDGet td ty) := by
  intro pins s σ H Q I h
  refine subD_of PySem.F.slot_dict_getitem.lookup hs (thn (ho pins s σ H _ I h) fun u s1 ⟨x, H1, I1, rx, q1⟩ => thn (hi pins s1 σ H1 _ I1 q1) fun iv s2 ⟨y, H2, I2, ry, a, v, ex, g, q2⟩ => ?_)
  subst ex
  obtain rfl : u = Value.ref a := rx
  exact ⟨dict_typeIs I2 g, d_getItem hu I2 g ry fun w' s3 I3 rw' => ⟨v, H2, I3, rw', q2⟩⟩
theorem ps_dput (hu : X.A.units + 1 < cLine) (ho : PE X o td) (hi : PE X i ty) (hv : PE X value tv) (hs : swapsWith value (some (.Subscript o i pos')) pos.line X.env = pure false) :
    PS X (.Assign [.Subscript o i pos'] value pos) (sDPut td ty tv) := by
  intro pins s σ H D I h
  refine wpAny_Assign_Subscript (thn (hv pins s σ H _ I h) fun r s1 ⟨v, H1, I1, rv, q1⟩ => thn (ho pins s1 σ H1 _ I1 q1) fun u s2 ⟨x, H2, I2, rx, q2⟩ => thn (hi pins s2 σ H2 _ I2 q2) fun iv s3 ⟨y, H3, I3, ry, a, H4, ex, g, q3⟩ => ?_) hs
  subst ex
  obtain rfl : u = Value.ref a := rx
  exact d_setItem hu I3 g ry rv fun s4 I4 => ⟨σ, H4, I4, q3⟩
end
theorem dk_empty {P : Program} {w : World} {H : Hp} (h : Heap) (hb : sysModules < h.objs.size) : ObjOk P w H (h.push { cls := .type "dict", data := .dict #[] }) h.objs.size (.dK []) :=
  ⟨Nat.zero_le _, beq_eq_false_iff_ne.mpr (Ne.symm (Nat.ne_of_lt hb)), [], .nil, Heap.DictOf.new h⟩
def tDNewK : TE := fun _ H Q => ∀ p, H p = none → Q (.ref p) (upd H p (.dK []))
section
variable {X : Cx} {pos : Pos}
theorem pe_dnewK : PE X (.Dict [] [] pos) tDNewK := fun pins s σ H Q I h =>
  wpAny_Dict_empty ⟨.ref s.heap.objs.size, _, I.laid (a := s.heap.objs.size) (o := .dK []) (t' := s.toks) (fun _ _ q => Heap.get?_push_of_some _ q) (Nat.le_refl _) (dk_empty s.heap I.big), rfl, h _ (I.hok.fresh (Nat.le_refl _))⟩
end
section
variable {X : Cx} {pins : List (Addr × Obj)} {σ : St} {H : Hp} {s : Shared} {a : Addr} {y d : V} {u r : Value} {o : Option V} {A : Around} {E : Value → Shared → Prop}
end
section
variable {X : Cx} {o e f : Expr} {apos cpos : Pos} {td ty tx : TE}
end
section
variable {X : Cx} {pins : List (Addr × Obj)} {σ : St} {H : Hp} {s : Shared} {a : Addr} {kvs : List (Key × V)} {A : Around} {E : Value → Shared → Prop}
end
section
variable {X : Cx} {pins : List (Addr × Obj)} {σ : St} {H : Hp} {s : Shared} {a : Addr} {y : V} {u : Value} {A : Around} {E : Value → Shared → Prop}
end
end L2
namespace L2
open PySem PySem.Spec PyProof.Rows
section
variable {prog : Program} {w : World} {A : Around} {E : Value → Shared → Prop}
end
section
variable {X : Cx}
end
end L2
namespace L2
open PySem PySem.Spec PyProof.Rows
section
variable {X : Cx} {pins : List (Addr × Obj)} {σ : St} {H : Hp} {s : Shared} {h' : Heap}
theorem Inv.turnedL {t' : Nat} {ch : List Addr} (I : Inv X pins σ H s) (k : ∀ b o, b ∉ ch → s.heap.get? b = some o → h'.get? b = some o) (hf : ∀ b ∈ ch, FpOk X pins H b) : Inv X pins σ H { s with heap := h', toks := t' } := by
  have nit : ∀ b u, H b = some u → b ∉ ch := fun b u e z => by
    have q := (hf b z).1
    rw [q] at e; cases e
  refine I.step (g' := s.gens) (d' := s.drawn) (ch := ch) (fun b hb => ⟨(hf b hb).2.2.2.1, (hf b hb).2.1, (hf b hb).2.2.2.2.1, (hf b hb).2.2.2.2.2⟩) (fun b o _ _ hc e _ => k b o hc e) (fun b o _ _ hc e _ => ⟨o.slots, k b o hc e⟩)
    (fun _ _ _ _ n => n) (fun b o hc e => ⟨o, k b o hc e⟩) (fun _ _ e => e) (fun _ _ _ e => e) (fun b ps e => ⟨#[], by rw [e]; simp⟩) (fun m hm => ?_) (fun b u e => ?_) I.bare
  · obtain ⟨o, es, ep, ho, r⟩ := hm
    exact ⟨o, es, ep, k _ o (fun z => (hf _ z).2.1 rfl) ho, r⟩
  · refine (I.hok b u e).stay (fun c v hc q => k c v ?_ q) (fun _ q => q) fun _ _ q => q
    rcases hc with z | z
    · rw [z]; exact nit b u e
    · exact nit c _ z
theorem Inv.turnedNew {t' : Nat} {ch : List Addr} {T : Addr} {ob : HO} (I : Inv X pins σ H s) (k : ∀ b o, b ∉ ch → s.heap.get? b = some o → h'.get? b = some o) (hf : ∀ b ∈ ch, FpOk X pins H b) (hT : s.heap.objs.size ≤ T)
    (new : ObjOk X.prog X.w (upd H T ob) h' T ob) : Inv X pins σ (upd H T ob) { s with heap := h', toks := t' } := by
  have hn : H T = none := I.hok.fresh hT
  have nit : ∀ b u, H b = some u → b ∉ ch := fun b u e z => by
    have q := (hf b z).1
    rw [q] at e; cases e
  refine I.step (g' := s.gens) (d' := s.drawn) (ch := ch) (fun b hb => ⟨(hf b hb).2.2.2.1, (hf b hb).2.1, (hf b hb).2.2.2.2.1, (hf b hb).2.2.2.2.2⟩) (fun b o _ _ hc e _ => k b o hc e) (fun b o _ _ hc e _ => ⟨o.slots, k b o hc e⟩)
    (fun b o _ e n => ?_) (fun b o hc e => ⟨o, k b o hc e⟩) (fun b xs e => ?_) (fun b o u e => ?_) (fun b ps e => ⟨#[], ?_⟩) (fun m hm => ?_) (fun b u e => ?_) I.bare
  · rw [upd_ne (Nat.ne_of_lt (Nat.lt_of_lt_of_le (Heap.lt_size e) hT))]; exact n
  · rw [upd_ne (ne_of_none e hn)]; exact e
  · rw [upd_ne (ne_of_none e hn)]; exact e
  · rw [upd_ne (ne_of_none e hn), e]; simp
  · obtain ⟨o, es, ep, ho, r⟩ := hm
    exact ⟨o, es, ep, k _ o (fun z => (hf _ z).2.1 rfl) ho, r⟩
  · by_cases hb : b = T
    · subst hb
      rw [upd_same] at e
      cases e
      exact new
    · rw [upd_ne hb] at e
      refine (I.hok b u e).stay (fun c v hc q => k c v ?_ q) (fun c q => by rw [upd_ne (ne_of_none q hn)]; exact q) fun c xs q => by rw [upd_ne (ne_of_none q hn)]; exact q
      rcases hc with z | z
      · rw [z]; exact nit b u e
      · exact nit c _ z
theorem Inv.lock {d : Addr} {u : HO} (I : Inv X pins σ H s) (h : H d = some u) (mu : Mut (some u)) : ∃ od, Inv X pins σ (upd H d (.frz od u)) s := by
  have x := I.hok d u h
  have ex : ∃ od, s.heap.get? d = some od := by
    cases u with
    | lst xs => obtain ⟨_, _, _, _, e⟩ := x; exact ⟨_, e⟩
    | dK kvs => obtain ⟨_, _, _, _, o, _, _, e, _⟩ := x; exact ⟨o, e⟩
    | dT kvs => obtain ⟨_, _, _, _, o, _, _, e, _⟩ := x; exact ⟨o, e⟩
    | set S n => obtain ⟨o, _, _, _, e, _⟩ := x; exact ⟨o, e⟩
    | ins C dx fs => obtain ⟨_, _, _, e, _⟩ := x; exact ⟨_, e⟩
    | ext φ => obtain ⟨_, ⟨_, e⟩, _⟩ := x; exact ⟨_, e⟩
    | _ => exact False.elim mu
  obtain ⟨od, e⟩ := ex
  have new : ObjOk X.prog X.w (upd H d (.frz od u)) s.heap d (.frz od u) := by
    refine ⟨e, x.stay (fun b v _ q => q) (fun b q => ?_) fun b xs q => ?_⟩
    · rw [upd_ne (fun z => by rw [z, h] at q; cases q; exact mu)]; exact q
    · rw [upd_ne (fun z => by rw [z, h] at q; cases q; exact mu)]; exact q
  exact ⟨od, I.write (x := d) (e := d) (t' := s.toks) (h' := s.heap) (by rw [h]; exact mu) (.inl rfl) (fun b v _ q => q) ⟨od, e⟩ new⟩
theorem Inv.nofrz {d : Addr} {u : HO} (I : Inv X pins σ H s) (h : H d = some u) (mu : Mut (some u)) : ∀ o' u', X.H_0 d ≠ some (.frz o' u') := fun o' u' e => by
  have q := I.base.frzs d o' u' e
  rw [h] at q
  cases q
  exact mu
theorem Inv.unlock {d : Addr} {od : Obj} {u : HO} (I : Inv X pins σ H s) (h : H d = some (.frz od u)) (hn : ∀ o' u', X.H_0 d ≠ some (.frz o' u')) : Inv X pins σ (upd H d u) s := by
  have neH : ∀ b o, H b = some o → (∀ o' u', o ≠ .frz o' u') → b ≠ d := fun b o e hne z => by
    rw [z, h] at e
    cases e
    exact hne _ _ rfl
  have neN : ∀ b, H b = none → b ≠ d := fun b e z => by rw [z, h] at e; cases e
  refine ⟨I.ok, I.os, I.bare, ⟨I.base.keep, I.base.slot, fun b o e n hx => ?_, I.base.there, fun b xs e => ?_, fun b o x e => ?_, fun b ps e => ?_⟩, I.loc, I.cell, ?_, fun x c e => ?_, fun p hp => ?_, fun b o e => ?_, I.len⟩
  · rw [upd_ne (neN b (I.base.free b o e n hx))]; exact I.base.free b o e n hx
  · have q := I.base.tups b xs e
    rw [upd_ne (neH b _ q (fun _ _ z => nomatch z))]; exact q
  · have q := I.base.frzs b o x e
    rw [upd_ne (fun z => by rw [z] at e; exact hn _ _ e)]; exact q
  · obtain ⟨m, q⟩ := I.base.tbls b ps e
    exact ⟨m, by rw [upd_ne (neH b _ q (fun _ _ z => nomatch z))]; exact q⟩
  · rw [upd_ne (neN _ I.free)]; exact I.free
  · rw [upd_ne (neN c (I.freeC x c e))]; exact I.freeC x c e
  · obtain ⟨e, n, r⟩ := I.pin p hp
    exact ⟨e, by rw [upd_ne (neN _ n)]; exact n, r⟩
  · by_cases hb : b = d
    · rw [hb, upd_same] at e
      cases e
      rw [hb]
      obtain ⟨_, x⟩ := I.hok d _ h
      exact x.stay (fun c v _ q => q) (fun c q => by rw [upd_ne (neH c _ q (fun _ _ z => nomatch z))]; exact q) fun c xs q => by rw [upd_ne (neH c _ q (fun _ _ z => nomatch z))]; exact q
    · rw [upd_ne hb] at e
      exact (I.hok b o e).stay (fun c v _ q => q) (fun c q => by rw [upd_ne (neH c _ q (fun _ _ z => nomatch z))]; exact q) fun c xs q => by rw [upd_ne (neH c _ q (fun _ _ z => nomatch z))]; exact q
end
def tLock (t : TS) : TS := fun D σ H => ∃ d u, H d = some u ∧ Mut (some u) ∧ ∀ od, t ⟨fun σ' H' => H' d = some (.frz od u) ∧ D.nx σ' (upd H' d u), fun v H' => H' d = some (.frz od u) ∧ D.rt v (upd H' d u), fun σ' H' => H' d = some (.frz od u) ∧ D.bk σ' (upd H' d u), fun σ' H' => H' d = some (.frz od u) ∧ D.ct σ' (upd H' d u)⟩ σ (upd H d (.frz od u))
section
variable {X : Cx}
theorem ps_lock {st : Stmt} {t : TS} (h : PS X st t) : PS X st (tLock t) := by
  intro pins s σ H D I hw
  obtain ⟨d, u, hd, mu, hw⟩ := hw
  obtain ⟨od, I1⟩ := I.lock hd mu
  refine thn (h pins s σ _ _ I1 (hw od)) fun f s1 q => ?_
  cases f with
  | next => obtain ⟨σ', H', I2, e, q⟩ := q; exact ⟨σ', _, I2.unlock e (I.nofrz hd mu), q⟩
  | brk => obtain ⟨σ', H', I2, e, q⟩ := q; exact ⟨σ', _, I2.unlock e (I.nofrz hd mu), q⟩
  | cont => obtain ⟨σ', H', I2, e, q⟩ := q; exact ⟨σ', _, I2.unlock e (I.nofrz hd mu), q⟩
  | ret v => obtain ⟨x, σ', H', I2, r, e, q⟩ := q; exact ⟨x, σ', _, I2.unlock e (I.nofrz hd mu), r, q⟩
theorem pi_one {tg : Expr} {pins : List (Addr × Obj)} {σ : St} {H : Hp} {s : Shared} {R : It → Hp → Prop} {J : It} {tn : Nat → Heap → Prop} {tk : Nat} (I : Inv X pins σ H s) (o : Obj)
    (T : Turn X.prog X.w X.K tg J [s.heap.objs.size] s.heap.objs.size tn) (st : tn 0 (s.heap.push o)) (q : R J H) : PIE X pins σ tg R (.ref s.heap.objs.size) { s with heap := s.heap.push o, toks := tk } := by
  refine ⟨s.heap.objs.size, [s.heap.objs.size], tn, J, H, rfl, I.kept fun b ob e => Heap.get?_push_of_some _ e, T, st, fun b hb => ?_, q⟩
  have e : b = s.heap.objs.size := by simpa using hb
  subst e
  exact I.fpOk (Nat.le_refl _) (I.hok.fresh (Nat.le_refl _))
end
section
variable {X : Cx} {tg : Expr}
end
section
variable {X : Cx} {tg : Expr}
end
section
variable {prog : Program} {w : World} {A : Around} {E : Value → Shared → Prop} {s : Shared}
theorem iter_keys {d : Addr} {o : Obj} {es : Array DictEntry} {ep : Nat} {Q : Value → Shared → Prop} (hd : (d == sysModules) = false) (ho : s.heap.get? d = some o) (hc : o.ExactDict) (hdat : o.data = .dict es ep)
    (hQ : Q (.ref s.heap.objs.size) { s with heap := s.heap.push { cls := .type "dict_keyiterator", data := .fields #[.ref d, .int 0 0, .int es.size 0, .int ep 0] } }) :
    wpAny (model prog w) A (pyIter (.ref d)) Q E s := by
  have hT : s.TypeIs (.ref d) "dict" := ⟨o, ho, hc.1⟩
  refine wpAny_pyIter_slot hT F.slot_dict_iter (wpAny_call_entry F.slot_dict_iter hT F.entry_dict_iter ?_ (F.args_dict_iter_1 _))
  unfold Builtin.«dict.__iter__»
  refine wpAny_bind ?_
  unfold Builtin.Dict.dictSlotNone
  refine wpAny_bind (wpAny_notOrdered_dict hT ?_)
  show wpAny _ _ (pure (Value.ref d)) _ _ s
  refine wpAny_pure ?_
  show wpAny _ _ (Builtin.Dict.showsAll d >>= _) _ _ s
  unfold Builtin.Dict.showsAll
  rw [if_neg (by rw [hd]; exact Bool.false_ne_true)]
  refine wpAny_bind (wpAny_pure ?_)
  refine wpAny_bind (wpAny_dictEntries ho hdat ?_)
  refine wpAny_bind (wpAny_dictEpoch ho hdat ?_)
  refine wpAny_bind (wpAny_newObj_type (wpAny_pure ⟨_, rfl, "dict_keyiterator", _, ⟨_, Heap.get?_push_size _ rfl, rfl⟩, F.slot_dict_keyiterator_next.lookup, ?_⟩))
  simpa [rawInt] using hQ
theorem next_key_item {it d : Addr} {i n ep : Nat} {od : Obj} {es : Array DictEntry} {en : DictEntry} {Q : Option Value → Shared → Prop} (hit : s.heap.IsKeyIter it d i n ep) (hod : s.heap.get? d = some od) (hdd : od.data = .dict es ep)
    (hsz : es.size = n) (hx : es[i]? = some en) (hQ : ∀ h', h'.IsKeyIter it d (i + 1) n ep → Heap.SameBut it s.heap h' → Q (some en.key) { s with heap := h' }) : wpAny (model prog w) A (pyNext (.ref it)) Q E s := by
  obtain ⟨o, ho, hc, hd⟩ := id hit
  unfold pyNext
  refine wpAny_bind (wpAny_attempt (wpAny_callSpecial?_slot (name := Str.ofString "__next__") hit.typeIs F.slot_dict_keyiterator_next
    (wpAny_call_entry F.slot_dict_keyiterator_next hit.typeIs F.entry_dict_keyiterator_next ?_ (F.args_dict_keyiterator_next_1 _))))
  refine wpAny_bind (wpAny_pure ?_)
  refine wpAny_bind ?_
  refine wpAny_bind ?_
  first | refine wpAny_bind (wpAny_typeNameOfWhole_keyiter hit.typeIs (wpAny_pure ?_)) | refine wpAny_bind (wpAny_typeNameOf_keyiter hit.typeIs (wpAny_pure ?_))
  refine wpAny_bind (wpAny_fieldsOf ho hd ?_)
  have hown : Builtin.Dict_items.ownsTuple "dict_keyiterator" = false := by decide
  simp only [hown, Bool.false_eq_true, if_false]
  show wpAny _ _ (if (Value.ref d == Value.none) = true then _ else _) _ _ s
  rw [if_neg (show ¬ ((Value.ref d == Value.none) = true) from Bool.false_ne_true)]
  refine wpAny_bind (wpAny_pure ?_)
  refine wpAny_bind (wpAny_dictEntries hod hdd ?_)
  rw [if_neg (by rw [hsz]; simp)]
  refine wpAny_bind (wpAny_pure ?_)
  refine wpAny_bind (wpAny_dictEpoch hod hdd ?_)
  rw [if_neg (by simp)]
  refine wpAny_pure ?_
  obtain ⟨hlt', hen⟩ := Array.getElem?_eq_some_iff.mp hx
  simp only [show ¬ ((i : Int) < 0) from by omega, if_false, Int.toNat_natCast, Array.getElem?_eq_getElem hlt']
  refine wpAny_bind ?_
  first | refine wpAny_bind (wpAny_typeNameOfWhole_keyiter hit.typeIs (wpAny_pure ?_)) | refine wpAny_bind (wpAny_typeNameOf_keyiter hit.typeIs (wpAny_pure ?_))
  refine wpAny_bind (wpAny_isOneOf_keyiter hit.typeIs ?_)
  show wpAny _ _ (setField (.ref it) 1 (rawInt ((i : Int) + 1)) >>= _) _ _ s
  refine wpAny_bind (wpAny_setField ho hd (by simp) ?_)
  have hit' : (s.heap.update it (Obj.mapFields (·.setIfInBounds 1 (rawInt ((i : Int) + 1))))).IsKeyIter it d (i + 1) n ep :=
    ⟨_, Heap.get?_update_self _ ho (Obj.isFreed_of_fields (Obj.data_mapFields hd _)), (Obj.cls_mapFields ..).trans hc, by rw [Obj.data_mapFields hd]; simp [rawInt]⟩
  refine wpAny_bind (wpAny_holding ?_)
  refine wpAny_bind (wpAny_isOneOf_keyiter (s := { s with heap := s.heap.update it (Obj.mapFields (·.setIfInBounds 1 (rawInt ((i : Int) + 1)))) }) hit'.typeIs ?_)
  show wpAny _ _ (pure es[i].key) _ _ _
  rw [hen]
  exact wpAny_pure (wpAny_pure ⟨_, rfl, wpAny_pure (hQ _ hit' (Heap.SameBut.update ..))⟩)
theorem next_key_end {it d : Addr} {i n ep : Nat} {od : Obj} {es : Array DictEntry} {Q : Option Value → Shared → Prop} (hh : A.handled = none) (hit : s.heap.IsKeyIter it d i n ep) (hod : s.heap.get? d = some od) (hdd : od.data = .dict es ep)
    (hsz : es.size = n) (hge : n ≤ i) (hQ : ∀ h', Heap.ExtBut it s.heap h' → Q none { s with heap := h' }) : wpAny (model prog w) A (pyNext (.ref it)) Q E s := by
  obtain ⟨o, ho, hc, hd⟩ := id hit
  unfold pyNext
  refine wpAny_bind (wpAny_attempt (wpAny_callSpecial?_slot (name := Str.ofString "__next__") hit.typeIs F.slot_dict_keyiterator_next
    (wpAny_call_entry F.slot_dict_keyiterator_next hit.typeIs F.entry_dict_keyiterator_next ?_ (F.args_dict_keyiterator_next_1 _))))
  refine wpAny_bind (wpAny_pure ?_)
  refine wpAny_bind ?_
  refine wpAny_bind ?_
  first | refine wpAny_bind (wpAny_typeNameOfWhole_keyiter hit.typeIs (wpAny_pure ?_)) | refine wpAny_bind (wpAny_typeNameOf_keyiter hit.typeIs (wpAny_pure ?_))
  refine wpAny_bind (wpAny_fieldsOf ho hd ?_)
  have hown : Builtin.Dict_items.ownsTuple "dict_keyiterator" = false := by decide
  simp only [hown, Bool.false_eq_true, if_false]
  show wpAny _ _ (if (Value.ref d == Value.none) = true then _ else _) _ _ s
  rw [if_neg (show ¬ ((Value.ref d == Value.none) = true) from Bool.false_ne_true)]
  refine wpAny_bind (wpAny_pure ?_)
  refine wpAny_bind (wpAny_dictEntries hod hdd ?_)
  rw [if_neg (by rw [hsz]; simp)]
  refine wpAny_bind (wpAny_pure ?_)
  refine wpAny_bind (wpAny_dictEpoch hod hdd ?_)
  rw [if_neg (by simp)]
  refine wpAny_pure ?_
  have hge' : es.size ≤ i := by rw [hsz]; exact hge
  simp only [show ¬ ((i : Int) < 0) from by omega, if_false, Int.toNat_natCast, Array.getElem?_eq_none hge']
  refine wpAny_bind ?_
  first | refine wpAny_bind (wpAny_typeNameOfWhole_keyiter hit.typeIs (wpAny_pure ?_)) | refine wpAny_bind (wpAny_typeNameOf_keyiter hit.typeIs (wpAny_pure ?_))
  show wpAny _ _ (setField (.ref it) 0 .none >>= _) _ _ s
  refine wpAny_bind (wpAny_setField ho hd (by simp) ?_)
  show wpAny _ _ (newExc (.type "StopIteration") [] >>= _) _ _ _
  refine wpAny_bind ?_
  simp only [newExc, newTuple]
  refine wpAny_bind (wpAny_newObj_type ?_ (by size_fits))
  refine wpAny_bind (m := firstArgMember _ _) (wpAny_of_eq (a := Value.none) (by first | rfl | (simp only [firstArgMember]; rfl)) ?_)
  refine wpAny_newObj_type ?_ (by size_fits)
  simp only [raiseNew]
  refine wpAny_bind (wpAny_handled ?_)
  rw [show A.in1.handled = none from hh]
  refine wpAny_bind (wpAny_pure (wpAny_throw ?_))
  refine wpAny_bind (wpAny_isInstance (T := "StopIteration") (b := true) ⟨_, Heap.get?_push_size _ rfl, rfl⟩ isSubtype_stop ?_)
  exact wpAny_pure (hQ _ (((Heap.SameBut.update ..).extBut.push _).push _))
end
theorem kv_get {κ : Type} {kvs : List (κ × V)} {vs : List (κ × Value)} (h : KV kvs vs) : ∀ {i : Nat} {k : κ} {v : V}, kvs[i]? = some (k, v) → ∃ u, vs[i]? = some (k, u) ∧ RelV v u := by
  unfold KV at h
  induction h with
  | nil => intro i k v e; simp at e
  | @cons a b l₁ l₂ r t ih =>
    intro i k v e
    cases i with
    | zero =>
      simp only [List.getElem?_cons_zero, Option.some.injEq] at e
      subst e
      refine ⟨b.2, ?_, r.2⟩
      simp only [List.getElem?_cons_zero]
      exact congrArg some (Prod.ext r.1.symm rfl)
    | succ j =>
      simp only [List.getElem?_cons_succ] at e ⊢
      exact ih e
theorem paired_get {α β : Type} {G : α → β → Prop} {l₁ : List α} {l₂ : List β} (h : Paired G l₁ l₂) : ∀ {i : Nat} {a : α}, l₁[i]? = some a → ∃ b, l₂[i]? = some b ∧ G a b := by
  induction h with
  | nil => intro i a e; simp at e
  | @cons a b l₁ l₂ r t ih =>
    intro i a' e
    cases i with
    | zero =>
      simp only [List.getElem?_cons_zero, Option.some.injEq] at e
      subst e
      exact ⟨b, rfl, r⟩
    | succ j =>
      simp only [List.getElem?_cons_succ] at e ⊢
      exact ih e
theorem relV_key {k : Key} {u : Value} (h : keyIs k u = true) : RelV (kV k) u := by
  rcases keyIs_shape h with ⟨i, t, rfl, rfl⟩ | ⟨x, t, rfl, rfl⟩
  · exact ⟨t, rfl⟩
  · exact ⟨t, rfl⟩
section
variable {X : Cx} {pins : List (Addr × Obj)} {σ : St} {H : Hp} {s : Shared} {d : Addr} {o : Obj}
theorem Inv.frzK {kvs : List (Key × V)} (I : Inv X pins σ H s) (h : H d = some (.frz o (.dK kvs))) :
    (d == sysModules) = false ∧ s.heap.get? d = some o ∧ o.ExactDict ∧ ∃ (es : Array DictEntry) (ep : Nat) (vs : List (Key × Value)), o.data = .dict es ep ∧ es.size = kvs.length ∧ KV kvs vs ∧ s.heap.DictAt (mixKind X.prog X.w) d vs ep := by
  obtain ⟨hd, z, hs, vs, kv, o', es, ep, ho, hx, hdt, r⟩ := I.hok d _ h
  rw [hd] at ho
  cases ho
  refine ⟨hs, hd, hx, es, ep, vs, hdt, ?_, kv, o, es, hd, hx, hdt, r⟩
  have l1 := r.2.1.length
  have l2 : kvs.length = vs.length := Paired.length kv
  rw [Array.length_toList] at l1
  omega
theorem Inv.frzT {kvs : List (List Key × V)} (I : Inv X pins σ H s) (h : H d = some (.frz o (.dT kvs))) :
    (d == sysModules) = false ∧ s.heap.get? d = some o ∧ o.ExactDict ∧ ∃ (es : Array DictEntry) (ep : Nat), o.data = .dict es ep ∧ es.size = kvs.length ∧
      ∀ (i : Nat) (k : List Key) (v : V), kvs[i]? = some (k, v) → ∃ (en : DictEntry) (q : Addr), es[i]? = some en ∧ en.key = .ref q ∧ H q = some (.tup (k.map kV)) := by
  obtain ⟨hd, z, hs, xs, pr, o', es, ep, ho, hx, hdt, he, _⟩ := I.hok d _ h
  rw [hd] at ho
  cases ho
  refine ⟨hs, hd, hx, es, ep, hdt, ?_, fun i k v e => ?_⟩
  · have l1 : es.size = xs.length := size_of_entries he
    have l2 : kvs.length = xs.length := Paired.length pr
    omega
  · obtain ⟨b, hb, e1, e2, _⟩ := paired_get pr e
    have q := entry_at he i
    rw [hb] at q
    exact ⟨_, b.2.1, q, rfl, e2⟩
end
def Itk (d : Addr) (o : Obj) (kvs : List (Key × V)) : It :=
  ⟨fun i H => H d = some (.frz o (.dK kvs)) ∧ i < kvs.length, fun i H x H' => H' = H ∧ ∃ k v, kvs[i]? = some (k, v) ∧ x = kV k, fun i H => H d = some (.frz o (.dK kvs)) ∧ kvs.length ≤ i⟩
def Itkt (d : Addr) (o : Obj) (kvs : List (List Key × V)) : It :=
  ⟨fun i H => H d = some (.frz o (.dT kvs)) ∧ i < kvs.length, fun i H x H' => H' = H ∧ ∃ (k : List Key) (v : V) (q : Addr), kvs[i]? = some (k, v) ∧ x = .ref q ∧ H q = some (.tup (k.map kV)), fun i H => H d = some (.frz o (.dT kvs)) ∧ kvs.length ≤ i⟩
theorem dict_ep {o : Obj} {es es' : Array DictEntry} {ep ep' : Nat} (h : o.data = .dict es ep) (h' : o.data = .dict es' ep') : es' = es ∧ ep' = ep := by
  rw [h] at h'
  cases h'
  exact ⟨rfl, rfl⟩
section
variable {P : Program} {w : World} {K : PySem.W.Frag} {tg : Expr} {d : Addr} {o : Obj} {es : Array DictEntry} {ep : Nat}
theorem turn_keys {kvs : List (Key × V)} (it : Addr) (hod : o.data = .dict es ep) : Turn P w K tg (Itk d o kvs) [it] it (fun i h => h.IsKeyIter it d i kvs.length ep) where
  mem := by simp
  obj := fun i h st b hb => by
    have e : b = it := by simpa using hb
    subst e
    obtain ⟨oi, e, c, dd⟩ := st
    exact ⟨oi, e, fun v z => by rw [dd] at z; cases z⟩
  keep := fun i h h' st k => st.at fun oi e => k it (by simp) oi e
  item := by
    intro X hP hw hK hc i pins s σ H E I hf st hg
    subst hP hw hK
    obtain ⟨hd, hi⟩ := hg
    obtain ⟨f0, f1, f2, f3, f4, f5⟩ := hf it (by simp)
    obtain ⟨hs, hgd, hx, es', ep', vs, hdt, hsz, kv, hm⟩ := I.frzK hd
    obtain ⟨rfl, rfl⟩ := dict_ep hod hdt
    obtain ⟨⟨k, v⟩, hkv⟩ : ∃ p, kvs[i]? = some p := ⟨kvs[i], List.getElem?_eq_getElem hi⟩
    obtain ⟨u, hu, ru⟩ := kv_get kv hkv
    have hl : kvs.length = vs.length := Paired.length kv
    rw [hl] at st
    refine wpAny_pyNext_dict_item st hm hu fun key h' hkey st' sb => ?_
    have I1 : Inv X pins σ H { s with heap := h' } := I.turned (t' := s.toks) (fun b ob hb e => (sb.2 b hb).trans e) f0 f1 f3 f4 f5
    obtain ⟨oi, e, c, dd⟩ := id st'
    refine ⟨key, rfl, go_of (s := { s with heap := h' }) e c dd (by decide) ⟨kV k, H, I1, relV_key (show keyIs k key = true from hkey), ⟨rfl, k, v, hkv, rfl⟩, ?_, fun b hb => (hf b hb).1⟩⟩
    show h'.IsKeyIter it d (i + 1) kvs.length _
    rw [hl]
    exact st'
  done := by
    intro X hP hw hK hc i pins s σ H E I hf st hg
    subst hP hw hK
    obtain ⟨hd, hi⟩ := hg
    obtain ⟨f0, f1, f2, f3, f4, f5⟩ := hf it (by simp)
    obtain ⟨hs, hgd, hx, es', ep', vs, hdt, hsz, kv, hm⟩ := I.frzK hd
    obtain ⟨rfl, rfl⟩ := dict_ep hod hdt
    exact next_key_end (I.ok.hd hc) st hgd hdt hsz hi fun h' eb => ⟨rfl, I.turned (t' := s.toks) (fun b ob hb e => eb b ob hb e) f0 f1 f3 f4 f5⟩
  self := fun A i s Q E st h => wpAny_pyIter_keyiter st h
theorem turn_keysT {kvs : List (List Key × V)} (it : Addr) (hod : o.data = .dict es ep) : Turn P w K tg (Itkt d o kvs) [it] it (fun i h => h.IsKeyIter it d i kvs.length ep) where
  mem := by simp
  obj := fun i h st b hb => by
    have e : b = it := by simpa using hb
    subst e
    obtain ⟨oi, e, c, dd⟩ := st
    exact ⟨oi, e, fun v z => by rw [dd] at z; cases z⟩
  keep := fun i h h' st k => st.at fun oi e => k it (by simp) oi e
  item := by
    intro X hP hw hK hc i pins s σ H E I hf st hg
    subst hP hw hK
    obtain ⟨hd, hi⟩ := hg
    obtain ⟨f0, f1, f2, f3, f4, f5⟩ := hf it (by simp)
    obtain ⟨hs, hgd, hx, es', ep', hdt, hsz, ent⟩ := I.frzT hd
    obtain ⟨rfl, rfl⟩ := dict_ep hod hdt
    obtain ⟨⟨k, v⟩, hkv⟩ : ∃ p, kvs[i]? = some p := ⟨kvs[i], List.getElem?_eq_getElem hi⟩
    obtain ⟨en, q, hen, hkey, hq⟩ := ent i k v hkv
    refine next_key_item st hgd hdt hsz hen fun h' st' sb => ?_
    have I1 : Inv X pins σ H { s with heap := h' } := I.turned (t' := s.toks) (fun b ob hb e => (sb.2 b hb).trans e) f0 f1 f3 f4 f5
    obtain ⟨oi, e, c, dd⟩ := id st'
    exact ⟨en.key, rfl, go_of (s := { s with heap := h' }) e c dd (by decide) ⟨.ref q, H, I1, hkey, ⟨rfl, k, v, q, hkv, rfl, hq⟩, st', fun b hb => (hf b hb).1⟩⟩
  done := by
    intro X hP hw hK hc i pins s σ H E I hf st hg
    subst hP hw hK
    obtain ⟨hd, hi⟩ := hg
    obtain ⟨f0, f1, f2, f3, f4, f5⟩ := hf it (by simp)
    obtain ⟨hs, hgd, hx, es', ep', hdt, hsz, ent⟩ := I.frzT hd
    obtain ⟨rfl, rfl⟩ := dict_ep hod hdt
    exact next_key_end (I.ok.hd hc) st hgd hdt hsz hi fun h' eb => ⟨rfl, I.turned (t' := s.toks) (fun b ob hb e => eb b ob hb e) f0 f1 f3 f4 f5⟩
  self := fun A i s Q E st h => by
    refine wpAny_pyIter_slot st.typeIs F.slot_dict_keyiterator_iter (wpAny_call_entry F.slot_dict_keyiterator_iter st.typeIs F.entry_dict_keyiterator_iter ?_ (F.args_dict_keyiterator_iter_1 _))
    show wpAny _ _ (ret (.ref it)) _ _ s
    exact wpAny_pure ⟨_, rfl, "dict_keyiterator", _, st.typeIs, F.slot_dict_keyiterator_next.lookup, h⟩
end
def iKeys (td : TE) : TI := fun σ H R => td σ H fun x H1 => ∃ d o, x = .ref d ∧ ((∃ kvs, H1 d = some (.frz o (.dK kvs)) ∧ R (Itk d o kvs) H1) ∨ ∃ kvs, H1 d = some (.frz o (.dT kvs)) ∧ R (Itkt d o kvs) H1)
section
variable {X : Cx} {tg e : Expr} {td : TE} {apos cpos : Pos}
theorem pi_keys (he : PE X e td) : PI X tg e (iKeys td) := by
  intro pins s σ H R I h
  refine thn (he pins s σ H _ I h) fun u s1 ⟨x, H1, I1, rx, d, o, ex, q⟩ => ?_
  subst ex
  obtain rfl : u = Value.ref d := rx
  rcases q with ⟨kvs, hd, q⟩ | ⟨kvs, hd, q⟩
  · obtain ⟨hs, hgd, hx, es, ep, vs, hdt, hsz, kv, hm⟩ := I1.frzK hd
    refine iter_keys hs hgd hx hdt (pi_one (tk := s1.toks) I1 _ (turn_keys _ hdt) ⟨_, Heap.get?_push_size _ rfl, rfl, ?_⟩ q)
    rw [hsz] <;> rfl
  · obtain ⟨hs, hgd, hx, es, ep, hdt, hsz, ent⟩ := I1.frzT hd
    refine iter_keys hs hgd hx hdt (pi_one (tk := s1.toks) I1 _ (turn_keysT _ hdt) ⟨_, Heap.get?_push_size _ rfl, rfl, ?_⟩ q)
    rw [hsz] <;> rfl
end
theorem boot_zip5 : bootBuiltins "zip" = some (.type "zip") := by decide +kernel
def Itz (K : PySem.W.Frag) (a b : Addr) : It :=
  ⟨fun i H => ∃ (xs ys : List V) (x y : V), SqL K H a xs ∧ SqL K H b ys ∧ xs[i]? = some x ∧ ys[i]? = some y,
    fun i H v H' => ∃ T x y, v = .ref T ∧ H T = none ∧ H' = upd H T (.tup [x, y]) ∧ (∀ xs, SqL K H a xs → xs[i]? = some x) ∧ ∀ ys, SqL K H b ys → ys[i]? = some y,
    fun i H => ∃ xs ys : List V, SqL K H a xs ∧ SqL K H b ys ∧ (xs.length ≤ i ∨ ys.length ≤ i)⟩
theorem turn_zip {P : Program} {w : World} {K : PySem.W.Frag} {elts : List Expr} {kk : Nat} {tpos : Pos} {a b z TI TO i1 i2 : Addr} (D : ZipApart z TI TO i1 i2 a b) :
    Turn P w K (.Tuple elts kk tpos) (Itz K a b) [z, TI, TO, i1, i2] z (fun i h => IsZip h z TI TO .none ∧ IsPair h TI (.ref i1) (.ref i2) ∧ (∃ x y, IsPair h TO x y) ∧ h.IsListIter i1 a i ∧ h.IsListIter i2 b i) where
  mem := by simp
  obj := fun i h st c hc => by
    obtain ⟨hz, hTI, ⟨x, y, hTO⟩, ⟨o1, e1, _, d1⟩, ⟨o2, e2, _, d2⟩⟩ := st
    have e' : c = z ∨ c = TI ∨ c = TO ∨ c = i1 ∨ c = i2 := by simpa using hc
    rcases e' with q | q | q | q | q
    · rw [q]; exact ⟨_, hz, fun v q => nomatch q⟩
    · rw [q]; exact ⟨_, hTI, fun v q => nomatch q⟩
    · rw [q]; exact ⟨_, hTO, fun v q => nomatch q⟩
    · rw [q]; exact ⟨o1, e1, fun v q => by rw [d1] at q; cases q⟩
    · rw [q]; exact ⟨o2, e2, fun v q => by rw [d2] at q; cases q⟩
  keep := fun i h h' st k => by
    obtain ⟨hz, hTI, ⟨x, y, hTO⟩, h1, h2⟩ := st
    exact ⟨k z (by simp) _ hz, k TI (by simp) _ hTI, ⟨x, y, k TO (by simp) _ hTO⟩, h1.at fun o q => k i1 (by simp) o q, h2.at fun o q => k i2 (by simp) o q⟩
  item := by
    intro X hP hw hK hc i pins s σ H E I hf st hg
    subst hP hw hK
    obtain ⟨hz, hTI, ⟨x0, y0, hTO⟩, h1, h2⟩ := st
    obtain ⟨xs, ys, x, y, hqx, hqy, hx, hy⟩ := hg
    obtain ⟨its, rv, p, _⟩ := I.list hqx
    obtain ⟨its2, rv2, p2, _⟩ := I.list hqy
    obtain ⟨u, hu, ru⟩ := rv.get hx
    obtain ⟨u2, hu2, ru2⟩ := rv2.get hy
    have hzl : z < s.heap.objs.size := Heap.lt_size hz
    refine wpAny_pyNext_zip_item D hz hTI hTO h1 h2 p.isList p2.isList (x := u) (y := u2) (by simpa using hu) (by simpa using hu2) fun h' z' TO' h1' h2' hT hsz hk => ?_
    refine ⟨_, rfl, wpAny_letOwnedTupleGo_zip (s := { s with heap := h' }) z' fun h'' z'' sb => ?_⟩
    have hT2 : h''.get? s.heap.objs.size = some { cls := .type "tuple", data := .seq #[u, u2] } := (sb.2 _ (Nat.ne_of_gt hzl)).trans hT
    have new : ObjOk X.prog X.w (upd H s.heap.objs.size (.tup [x, y])) h'' s.heap.objs.size (.tup [x, y]) :=
      ⟨by show 2 ≤ sizeLine; decide, [u, u2], .cons ru (.cons ru2 .nil), ⟨_, hT2, rfl, _, rfl⟩⟩
    have I1 : Inv X pins σ (upd H s.heap.objs.size (.tup [x, y])) { s with heap := h'' } :=
      I.turnedNew (t' := s.toks) (ch := [z, TI, TO, i1, i2]) (fun c o hb q => (sb.2 c (fun q' => hb (by simp [q']))).trans (hk c o (fun q' => hb (by simp [q'])) (fun q' => hb (by simp [q'])) (fun q' => hb (by simp [q'])) (fun q' => hb (by simp [q'])) q)) hf (Nat.le_refl _) new
    refine ⟨.ref s.heap.objs.size, _, I1, rfl, ⟨_, x, y, rfl, I.hok.fresh (Nat.le_refl _), rfl, fun l hl => by rw [I.list_inj hl hqx]; exact hx, fun l hl => by rw [I.list_inj hl hqy]; exact hy⟩, ⟨z'', ?_, ⟨u, u2, ?_⟩, ?_, ?_⟩, fun c hcm => ?_⟩
    · exact (sb.2 _ D.TIz).trans (hk _ _ D.TIz D.TITO D.TIi1 D.TIi2 hTI)
    · exact (sb.2 _ D.TOz).trans TO'
    · exact h1'.at fun o q => (sb.2 _ D.i1z).trans q
    · exact h2'.at fun o q => (sb.2 _ D.i2z).trans q
    · have hlt : c < s.heap.objs.size := by
        have e' : c = z ∨ c = TI ∨ c = TO ∨ c = i1 ∨ c = i2 := by simpa using hcm
        rcases e' with q | q | q | q | q
        · rw [q]; exact hzl
        · rw [q]; exact Heap.lt_size hTI
        · rw [q]; exact Heap.lt_size hTO
        · rw [q]; obtain ⟨_, e1, _⟩ := h1; exact Heap.lt_size e1
        · rw [q]; obtain ⟨_, e2, _⟩ := h2; exact Heap.lt_size e2
      rw [upd_ne (Nat.ne_of_lt hlt)]
      exact (hf c hcm).1
  done := by
    intro X hP hw hK hc i pins s σ H E I hf st hg
    subst hP hw hK
    obtain ⟨hz, hTI, ⟨x0, y0, hTO⟩, h1, h2⟩ := st
    obtain ⟨xs, ys, hqx, hqy, hend⟩ := hg
    obtain ⟨its, rv, p, _⟩ := I.list hqx
    obtain ⟨its2, rv2, p2, _⟩ := I.list hqy
    have l1 := rv.length
    have l2 := rv2.length
    have he : its.toArray[i]? = none ∨ its2.toArray[i]? = none := by
      rcases hend with q | q
      · exact .inl (by simp; omega)
      · exact .inr (by simp; omega)
    exact wpAny_pyNext_zip_end (I.ok.hd hc) D hz hTI hTO h1 h2 p.isList p2.isList he fun h' hk => ⟨rfl, I.turnedL (t' := s.toks) (ch := [z, TI, TO, i1, i2]) (fun c o hb q =>
      hk c o (fun q' => hb (by simp [q'])) (fun q' => hb (by simp [q'])) (fun q' => hb (by simp [q'])) (fun q' => hb (by simp [q'])) q) hf⟩
  self := fun A i s Q E st h => wpAny_pyIter_zip st.1 h
def iZip (K : PySem.W.Frag) (ta : TA) : TI := fun σ H R => ta σ H fun vs H1 => ∃ a b xs ys, vs = [.ref a, .ref b] ∧ SqL K H1 a xs ∧ SqL K H1 b ys ∧ R (Itz K a b) H1
theorem pi_zip {X : Cx} {e e2 : Expr} {ta : TA} {p pos tpos : Pos} {elts : List Expr} {kk : Nat} (hg : Gl X "zip") (hm : X.mg "zip" = none) (ha : PA X [e, e2] ta)
    (hs : starEach [e, e2] X.env = (false, eval e X.env) :: starEach [e2] X.env := by rfl) (hpl : (backTo pos (starEach [e2] X.env)).any (·.1) = false := by rfl) :
    PI X (.Tuple elts kk tpos) (.Call (.Name "zip" p) [e, e2] [] pos) (iZip X.K ta) := by
  intro pins s σ H R I h
  refine Call_ (ld_blt I hg hm boot_zip5 (PyProof.Rows.callWith_type1 (thn (ha pos pins s σ H _ I h) fun us s1 ⟨vs, H1, I1, r1, q1⟩ => ?_) hs hpl))
  obtain ⟨a, b, xs, ys, ex, hqx, hqy, q⟩ := q1
  subst ex
  cases r1 with
  | cons r rr =>
    cases rr with
    | cons r' rr =>
      cases rr
      cases r
      cases r'
      obtain ⟨its, rv, p1, _⟩ := I1.list hqx
      obtain ⟨its2, rv2, p2, _⟩ := I1.list hqy
      have la : a < s1.heap.objs.size := p1.lt
      have lb : b < s1.heap.objs.size := p2.lt
      refine call_zip_2 p1.isList p2.isList fun h' hz hTI hTO h1 h2 hsz hk => wpAny_pyIter_zip hz ?_
      have I2 : Inv X pins σ H1 { s1 with heap := h' } := I1.kept (t' := s1.toks) hk
      refine ⟨s1.heap.objs.size + 4, [s1.heap.objs.size + 4, s1.heap.objs.size + 2, s1.heap.objs.size + 3, s1.heap.objs.size, s1.heap.objs.size + 1], _, _, H1, rfl, I2, turn_zip (PySem.W.ktu_apart s1.heap.objs.size a b la lb), ⟨hz, hTI, ⟨_, _, hTO⟩, h1, h2⟩, fun c hcm => ?_, q⟩
      have e' : c = s1.heap.objs.size + 4 ∨ c = s1.heap.objs.size + 2 ∨ c = s1.heap.objs.size + 3 ∨ c = s1.heap.objs.size ∨ c = s1.heap.objs.size + 1 := by simpa using hcm
      have hle : s1.heap.objs.size ≤ c := by
        rcases e' with z | z | z | z | z
        · rw [z]; exact Nat.le_add_right _ _
        · rw [z]; exact Nat.le_add_right _ _
        · rw [z]; exact Nat.le_add_right _ _
        · rw [z]; exact Nat.le_refl _
        · rw [z]; exact Nat.le_add_right _ _
      exact I1.fpOk hle (I1.hok.fresh hle)
end L2
section 
namespace Bits
open PySem PyProof.Rows
end Bits
end 
section 
namespace TL
open PySem PySem.Builtin PySem.Builtin.Str PySem.StrLaws
end TL
end 
namespace L2
open PySem PySem.Spec PyProof.Rows
section
variable {X : Cx} {pins : List (Addr × Obj)} {σ : St} {H : Hp} {s : Shared} {Q : VK}
end
section
variable {X : Cx}
end
section
variable {X : Cx} {o e : Expr} {to te : TE}
end
end L2
namespace L2
open PySem PySem.Spec PyProof.Rows
section
variable {X : Cx}
end
end L2
namespace Att
open PySem PySem.W PySem.Calls PyProof.Rows
section
variable {prog : Program} {w : World} {A : Around} {E : Value → Shared → Prop} {s : Shared} {K : Frag}
end
end Att
namespace L2
open PySem PySem.Spec PyProof.Rows
end L2
namespace L2
open PySem PySem.Spec PyProof.Rows
end L2
namespace L2
open PySem PySem.Spec PyProof.Rows
def inClass (s : Stmt) (j : Nat) : Stmt := match s with
  | .ClassDef _ _ _ body _ _ _ _ _ _ _ => body.getD j (.Pass ⟨0, 0, 0, 0⟩)
  | _ => .Pass ⟨0, 0, 0, 0⟩
def defArgs (s : Stmt) : Arguments := match s with
  | .FunctionDef _ a _ _ _ _ _ _ _ _ => a
  | _ => { posonlyargs := [], args := [], vararg := none, kwonlyargs := [], kw_defaults := [], kwarg := none, defaults := [] }
def defBody (s : Stmt) : List Stmt := match s with
  | .FunctionDef _ _ b _ _ _ _ _ _ _ => b
  | _ => []
def defScope (s : Stmt) : Scope := match s with
  | .FunctionDef _ _ _ _ _ _ sc _ _ _ => sc
  | _ => { kind := .function, names := [], isGenerator := false, isCoroutine := false }
abbrev CX0 : CXT := fun _ _ _ _ _ _ => False
abbrev E0 : XK := fun _ _ _ => False
theorem pass0 {X : Cx} : Passes CX0 X E0 := fun _ _ _ _ _ _ _ h => h.elim
structure Fun (K : PySem.W.Frag) (x qual : Str) (st : Stmt) (f : Addr) (fd : FuncData) : Prop where
  ex : ∃ (oc : Value) (od : Option Addr) (kV doc pm : Value) (an : Option Addr) (cdv ct : Value) (osl : Array (Option Value)),
    fd = PySem.W.fnOf x qual (defArgs st) (defBody st) (defScope st) .none kV doc pm an cdv ct ∧ K.lookup f = some ⟨oc, od, .func fd, osl⟩ ∧ PySem.W.codeIn K cdv qual = true
  kp : PySem.W.keepIn K (.ref f) = true
section
variable {P : Program} {w : World} {K : PySem.W.Frag} {mg : Str → Option Value} {base : Heap}
theorem Fun.ok {x qual : Str} {st : Stmt} {f : Addr} {fd : FuncData} {N ps : List Str} {k : Nat} {sp : Sp} (F : Fun K x qual st f fd) (S : FnScope N ps (defScope st)) (len : ∀ vs H Q E, sp vs H Q E → vs.length = ps.length)
    (hbody : ∀ (cdv : Value) (A : Around) (outer : List Env) (s : Shared) (H : Hp) (vs : List V) (Q : VK) (E : XK), Room k (A.deeper (envOfC qual (defScope st) s.heap.objs.size f cdv)) → sp vs H Q E →
      ∃ t, PSs (cxOf CX0 P w K mg base N qual (defScope st) f cdv A outer s H E).nox (defBody st) t ∧ t { nx := fun _ H' => Q .non H', rt := Q } (start N vs) H) : FnOk P w K mg base CX0 (k + 1) f fd ps sp := by
  obtain ⟨oc, od, kV, doc, pm, an, cdv, ct, osl, rfl, lk, hcd⟩ := F.ex
  refine fn_of lk hcd S len fun A outer s H vs Q E hr hsp => ?_
  obtain ⟨t, h, q⟩ := hbody cdv A outer s H vs Q E hr hsp
  exact ⟨t, h.nox, q⟩
theorem Fun.binds {x qual : Str} {st : Stmt} {f : Addr} {fd : FuncData} {ps : List Str} (F : Fun K x qual st f fd)
    (h : ∀ (kV doc pm : Value) (an : Option Addr) (cdv ct : Value) (us : List Value), us.length = ps.length → bindArgs (PySem.W.fnOf x qual (defArgs st) (defBody st) (defScope st) .none kV doc pm an cdv ct) ⟨us, []⟩ = pure (ps.zip us)) : Binds K fd ps [] := by
  obtain ⟨oc, od, kV, doc, pm, an, cdv, ct, osl, rfl, lk, hcd⟩ := F.ex
  exact .all (h kV doc pm an cdv ct)
theorem fun_mk {x qual : Str} {st : Stmt} {f : Addr} {oc : Value} {od an : Option Addr} {osl : Array (Option Value)} {kV doc pm cdv ct : Value} (l : K.lookup f = some ⟨oc, od, .func (PySem.W.fnOf x qual (defArgs st) (defBody st) (defScope st) .none kV doc pm an cdv ct), osl⟩)
    (c : PySem.W.codeIn K cdv qual = true) (k : PySem.W.keepIn K (.ref f) = true) : Fun K x qual st f (PySem.W.fnOf x qual (defArgs st) (defBody st) (defScope st) .none kV doc pm an cdv ct) := ⟨⟨oc, od, kV, doc, pm, an, cdv, ct, osl, rfl, l, c⟩, k⟩
end
theorem hu_of {A : Around} {k : Nat} (hr : Room k A) : A.units + 1 < cLine := Nat.lt_of_le_of_lt (Nat.add_le_add_left (by decide : 1 ≤ 64) _) hr.units
section
variable {X : Cx}
theorem pv (i : Nat) {x : Str} {pos : Pos} (hN : X.N[i]? = some x := by rfl) (hv : Vis X.env.scope x := by first | exact Or.inl rfl | exact Or.inr (Or.inl rfl) | exact Or.inr (Or.inr rfl)) (hd : (x == ("__debug__" : Str)) = false := by decide)
    (hcd : (x == ("__classdict__" : Str)) = false := by decide) : PE X (.Name x pos) (tVar i) := pe_var hN hv hd hcd
end
theorem iteF {A B : Prop} (h : B) : if false = true then A else B := by
  rw [if_neg Bool.false_ne_true]
  exact h
theorem iteT {A B : Prop} (h : A) : if true = true then A else B := by
  rw [if_pos rfl]
  exact h
def Same (H H' : Hp) : Prop := ∀ b o, H b = some o → H' b = some o
theorem Same.refl (H : Hp) : Same H H := fun _ _ h => h
theorem Same.trans {H H1 H2 : Hp} (a : Same H H1) (b : Same H1 H2) : Same H H2 := fun c o h => b c o (a c o h)
theorem Same.free {H H' : Hp} (e : Same H H') {l : Addr} (h : H' l = Option.none) : H l = Option.none := by
  cases q : H l with
  | none => rfl
  | some o =>
    rw [e l o q] at h
    cases h
theorem Same.seq {K : PySem.W.Frag} {H H' : Hp} {a : Addr} {xs : List V} (e : Same H H') (h : SqL K H a xs) : SqL K H' a xs := by
  rcases h with (h | ⟨o, h⟩) | h
  · exact .inl (.inl (e _ _ h))
  · exact .inl (.inr ⟨o, e _ _ h⟩)
  · exact .inr h
section
variable {κ : Type} [DecidableEq κ]
end
theorem at_of {xs : List V} {z : Int} {j : Nat} {v : V} (e : z = (j : Int)) (h : xs[j]? = some v) : atI xs z = some v := by
  rw [e]
  exact atI_nat h
theorem Same.made {H H1 : Hp} {x dx C : Addr} (nx : H x = Option.none) (nd : H dx = Option.none) (k : ∀ b o, (upd (upd H dx (.own x)) x (.ins C dx [])) b = some o → b ≠ x → H1 b = some o) : Same H H1 := fun b o e =>
  k b o (by rw [upd_ne (ne_of_none e nx), upd_ne (ne_of_none e nd)]; exact e) (ne_of_none e nx)
end L2
end
section
set_option Elab.async false
set_option linter.all false
set_option maxRecDepth 100000
set_option maxHeartbeats 2000000
set_option maxHeartbeats 2000000
namespace L2
open PySem PySem.Spec PyProof.Rows
open PySem.W (WData Codec OpenSpec Well WellAll ReadsW ReadsAllW)
/-! ### an answer as data -/
mutual
/-- x stands for the datum d, lists and tuples all the way -/
inductive Dw (K : PySem.W.Frag) (H : Hp) : V → WData → Prop
  | non : Dw K H .non .none
  | bl (b : Bool) : Dw K H (.bl b) (.bool b)
  | int (i : Int) : Dw K H (.int i) (.int i)
  | str (x : Str) : Dw K H (.str x) (.str x)
  | byt (b : Array UInt8) : Dw K H (.byt b) (.bytes b.toList)
  | lst {a : Addr} {xs : List V} {ds : List WData} : SqL K H a xs → DwAll K H xs ds → Dw K H (.ref a) (.list ds)
  | tup {a : Addr} {xs : List V} {ds : List WData} : SqT K H a xs → DwAll K H xs ds → Dw K H (.ref a) (.tuple ds)
inductive DwAll (K : PySem.W.Frag) (H : Hp) : List V → List WData → Prop
  | nil : DwAll K H [] []
  | cons {v : V} {vs : List V} {d : WData} {ds : List WData} : Dw K H v d → DwAll K H vs ds → DwAll K H (v :: vs) (d :: ds)
end
theorem dw_ints {K : PySem.W.Frag} {H : Hp} : ∀ ns : List Int, DwAll K H (ns.map V.int) (ns.map WData.int)
  | [] => .nil
  | n :: r => .cons (.int n) (dw_ints r)
theorem ints_dw {K : PySem.W.Frag} {H : Hp} : ∀ (ns : List Int) (xs : List V), DwAll K H xs (ns.map WData.int) → xs = ns.map V.int
  | [], xs, h => by
    cases h
    rfl
  | n :: r, xs, h => by
    cases h with
    | cons h1 h2 =>
      cases h1
      rw [ints_dw r _ h2] <;> rfl
section
variable {P : Program} {w : World} {K : PySem.W.Frag} {H : Hp} {h : Heap} {R : PySem.W.WRecords} {cl : Str → Option Addr}
theorem sqL_at {a : Addr} {xs : List V} (hok : HOk P w H h) (KX : K.In h) (q : SqL K H a xs) : ∃ (its : List Value) (o : Obj) (n : Nat), Vals xs its ∧ h.get? a = some o ∧ o.cls = .type "list" ∧ o.data = .seq its.toArray n := by
  rcases q with q | ⟨o, its, n, e, hc, _, hd, _, hv⟩
  · obtain ⟨_, its, n, hv, e⟩ := (show ObjOk P w H h a (.lst xs) from q.ok hok)
    exact ⟨its, _, n, hv, e, rfl, rfl⟩
  · exact ⟨its.toList, o, n, hv, KX _ _ e, hc, by simp [hd]⟩
theorem sqT_at {a : Addr} {xs : List V} (hok : HOk P w H h) (KX : K.In h) (q : SqT K H a xs) : ∃ (its : List Value) (o : Obj) (n : Nat), Vals xs its ∧ h.get? a = some o ∧ o.cls = .type "tuple" ∧ o.data = .seq its.toArray n := by
  rcases q with q | ⟨o, its, n, e, hc, hd, _, hv⟩
  · obtain ⟨_, its, hv, o, e, hc, n, hd⟩ := (show ObjOk P w H h a (.tup xs) from q.ok hok)
    exact ⟨its, o, n, hv, e, hc, hd⟩
  · exact ⟨its.toList, o, n, hv, KX _ _ e, hc, by simp [hd]⟩
mutual
theorem Dw.reads (hok : HOk P w H h) (KX : K.In h) : ∀ (d : WData) (v : V) (u : Value), Dw K H v d → RelV v u → ∃ as, ReadsW R cl h u d as
  | .none, _, _, x, r => by
    cases x
    cases r
    exact ⟨_, ReadsW.none⟩
  | .bool b, _, _, x, r => by
    cases x
    cases r
    exact ⟨_, ReadsW.bool b⟩
  | .int i, _, _, x, r => by
    cases x
    obtain ⟨t, rfl⟩ := r
    exact ⟨_, ReadsW.int i t⟩
  | .str s, _, _, x, r => by
    cases x
    obtain ⟨t, rfl⟩ := r
    exact ⟨_, ReadsW.str s t⟩
  | .bytes b, _, _, x, r => by
    cases x
    obtain ⟨t, rfl⟩ := r
    exact ⟨_, ReadsW.bytes _ t⟩
  | .list ds, _, _, x, r => by
    cases x with
    | lst hs ha =>
      cases r
      obtain ⟨its, o, n, rv, ho, hc, hd⟩ := sqL_at hok KX hs
      obtain ⟨as, hr⟩ := Dw.readsAll hok KX ds _ its ha rv
      exact ⟨_, ReadsW.list ho hc hd hr⟩
  | .tuple ds, _, _, x, r => by
    cases x with
    | tup hs ha =>
      cases r
      obtain ⟨its, o, n, rv, ho, hc, hd⟩ := sqT_at hok KX hs
      obtain ⟨as, hr⟩ := Dw.readsAll hok KX ds _ its ha rv
      exact ⟨_, ReadsW.tuple ho hc hd hr⟩
  | .float _, _, _, x, _ => by cases x
  | .dict _, _, _, x, _ => by cases x
  | .bytearray _, _, _, x, _ => by cases x
  | .set _, _, _, x, _ => by cases x
  | .frozenset _, _, _, x, _ => by cases x
  | .obj _ _, _, _, x, _ => by cases x
theorem Dw.readsAll (hok : HOk P w H h) (KX : K.In h) : ∀ (ds : List WData) (vs : List V) (us : List Value), DwAll K H vs ds → Vals vs us → ∃ as, ReadsAllW R cl h us ds as
  | [], _, _, x, r => by
    cases x
    cases r
    exact ⟨_, ReadsAllW.nil⟩
  | d :: ds, _, _, x, r => by
    cases x with
    | cons h1 h2 =>
      cases r with
      | cons r1 r2 =>
        obtain ⟨as, q1⟩ := Dw.reads hok KX d _ _ h1 r1
        obtain ⟨bs, q2⟩ := Dw.readsAll hok KX ds _ _ h2 r2
        exact ⟨_, ReadsAllW.cons q1 q2⟩
end
end
/-! ### the arguments -/
mutual
/-- data that a codec tells -/
def plW : WData → Bool
  | .none => true
  | .bool _ => true
  | .int _ => true
  | .str _ => true
  | .bytes _ => true
  | .list xs => plWs xs
  | .tuple xs => plWs xs
  | _ => false
def plWs : List WData → Bool
  | [] => true
  | x :: r => plW x && plWs r
end
theorem plWs_map {α : Type} {f : α → WData} (h : ∀ a, plW (f a) = true) : ∀ l : List α, plWs (l.map f) = true
  | [] => rfl
  | x :: r => by
    show (plW (f x) && plWs (r.map f)) = true
    rw [h x, plWs_map h r] <;> rfl
theorem pl_enc : ∀ (c : Codec) (a : c.denote), plW (c.enc a) = true
  | .unit, _ => rfl
  | .bool, _ => rfl
  | .int _ _, _ => rfl
  | .nat _ _, _ => rfl
  | .u8, _ => rfl
  | .bytes _ _, _ => rfl
  | .text _ _ _ _, _ => rfl
  | .list _ _ c, a => plWs_map (fun x => pl_enc c x) a
  | .pair c d, a => by
    show (plW (c.enc a.1) && (plW (d.enc a.2) && true)) = true
    rw [pl_enc c a.1, pl_enc d a.2] <;> rfl
  | .triple c d e, a => by
    show (plW (c.enc a.1) && (plW (d.enc a.2.1) && (plW (e.enc a.2.2) && true))) = true
    rw [pl_enc c a.1, pl_enc d a.2.1, pl_enc e a.2.2] <;> rfl
  | .option c, none => rfl
  | .option c, some x => pl_enc c x
theorem pl_encAll : ∀ (cs : List Codec) (a : Codec.denoteAll cs), plWs (Codec.encAll cs a) = true
  | [], _ => rfl
  | c :: cs, a => by
    show (plW (c.enc a.1) && plWs (Codec.encAll cs a.2)) = true
    rw [pl_enc c a.1, pl_encAll cs a.2] <;> rfl
theorem weight_mem : ∀ {xs : List WData} {d : WData}, d ∈ xs → d.weight ≤ WData.weightAll xs
  | [], d, h => absurd h (by simp)
  | x :: r, d, h => by
    show d.weight ≤ x.weight + 1 + WData.weightAll r
    rcases List.mem_cons.mp h with e | m
    · rw [e]
      omega
    · have z := weight_mem m
      omega
def toV : Value → V
  | .none => .non
  | .bool b => .bl b
  | .int i _ => .int i
  | .str x _ => .str x
  | .bytes b _ => .byt b
  | .ref a => .ref a
  | _ => .non
/-- a value of the arguments, its objects among A -/
def OkU (A : List Addr) : Value → Prop
  | .none => True
  | .bool _ => True
  | .int _ _ => True
  | .str _ _ => True
  | .bytes _ _ => True
  | .ref a => a ∈ A
  | _ => False
theorem OkU.mono {A B : List Addr} (h : ∀ a ∈ A, a ∈ B) : ∀ {u : Value}, OkU A u → OkU B u := fun {u} x => by
  cases u with
  | ref a => exact h a x
  | none => trivial
  | bool b => trivial
  | int i t => trivial
  | str s t => trivial
  | bytes b t => trivial
  | _ => exact False.elim x
theorem relV_toV {A : List Addr} {u : Value} (x : OkU A u) : RelV (toV u) u := by
  cases u with
  | ref a => rfl
  | none => rfl
  | bool b => rfl
  | int i t => exact ⟨t, rfl⟩
  | str s t => exact ⟨t, rfl⟩
  | bytes b t => exact ⟨t, rfl⟩
  | _ => exact False.elim x
theorem vals_toV {A : List Addr} : ∀ {vs : List Value}, (∀ u ∈ vs, OkU A u) → Vals (vs.map toV) vs
  | [], _ => .nil
  | u :: r, h => .cons (relV_toV (h u (List.mem_cons_self ..))) (vals_toV fun x hx => h x (List.mem_cons_of_mem _ hx))
/-- an object of the arguments -/
def ArgOb (h : Heap) (A : List Addr) (a : Addr) : Prop := ∃ vs : List Value, vs.length ≤ sizeLine ∧ (∀ u ∈ vs, OkU A u) ∧
  (h.get? a = some { cls := .type "list", data := .seq vs.toArray } ∨ h.get? a = some { cls := .type "tuple", data := .seq vs.toArray })
theorem ArgOb.mono {h : Heap} {A B : List Addr} {a : Addr} (k : ∀ a ∈ A, a ∈ B) (x : ArgOb h A a) : ArgOb h B a := by
  obtain ⟨vs, h1, h2, h3⟩ := x
  exact ⟨vs, h1, fun u hu => (h2 u hu).mono k, h3⟩
theorem wellAll_len {P : Params} {h : Heap} : ∀ {vs : List Value} {ds : List WData}, WellAll P h vs ds → vs.length = ds.length
  | _, _, .nil => rfl
  | _, _, .cons _ b => by
    show _ + 1 = _ + 1
    rw [wellAll_len b]
theorem well_list {P : Params} {h : Heap} {v : Value} {ds : List WData} (x : Well P h v (.list ds)) : ∃ (a : Addr) (vs : List Value), v = .ref a ∧ h.get? a = some { cls := .type "list", data := .seq vs.toArray } ∧ WellAll P h vs ds := by
  cases x with
  | list ho hall => exact ⟨_, _, rfl, ho, hall⟩
theorem well_tuple {P : Params} {h : Heap} {v : Value} {ds : List WData} (x : Well P h v (.tuple ds)) : ∃ (a : Addr) (vs : List Value), v = .ref a ∧ h.get? a = some { cls := .type "tuple", data := .seq vs.toArray } ∧ WellAll P h vs ds := by
  cases x with
  | tuple ho hall => exact ⟨_, _, rfl, ho, hall⟩
theorem well_cons {P : Params} {h : Heap} {us : List Value} {d : WData} {ds : List WData} (x : WellAll P h us (d :: ds)) : ∃ (v : Value) (vs : List Value), us = v :: vs ∧ Well P h v d ∧ WellAll P h vs ds := by
  cases x with
  | cons a b => exact ⟨_, _, rfl, a, b⟩
theorem line_of {n : Nat} (h : n ≤ 1048576) : n ≤ sizeLine := Nat.le_trans h (by decide)
section
variable {P : Params} {h : Heap}
mutual
theorem area_one : ∀ (d : WData) (v : Value), Well P h v d → plW d = true → d.weight ≤ 1048576 → ∃ A : List Addr, OkU A v ∧ ∀ a ∈ A, ArgOb h A a
  | .none, _, x, _, _ => by
    cases x
    exact ⟨[], trivial, fun a m => absurd m (by simp)⟩
  | .bool b, _, x, _, _ => by
    cases x
    exact ⟨[], trivial, fun a m => absurd m (by simp)⟩
  | .int i, _, x, _, _ => by
    cases x
    exact ⟨[], trivial, fun a m => absurd m (by simp)⟩
  | .str s, _, x, _, _ => by
    cases x
    exact ⟨[], trivial, fun a m => absurd m (by simp)⟩
  | .bytes b, _, x, _, _ => by
    cases x
    exact ⟨[], trivial, fun a m => absurd m (by simp)⟩
  | .list ds, _, x, p, z => by
    obtain ⟨a, vs, rfl, ho, hall⟩ := well_list x
    have z2 : WData.weightAll ds ≤ 1048576 := z
    obtain ⟨A, h1, h2⟩ := area_all ds _ hall p fun d hd => Nat.le_trans (weight_mem hd) z2
    have k : ∀ b ∈ A, b ∈ a :: A := fun b hb => List.mem_cons_of_mem _ hb
    refine ⟨a :: A, List.mem_cons_self .., fun b hb => ?_⟩
    rcases List.mem_cons.mp hb with e | m
    · rw [e]
      exact ⟨vs, line_of (by rw [wellAll_len hall]; exact Nat.le_trans (PySem.W.length_le_weightAllW ds) z2), fun u hu => (h1 u hu).mono k, .inl ho⟩
    · exact (h2 b m).mono k
  | .tuple ds, _, x, p, z => by
    obtain ⟨a, vs, rfl, ho, hall⟩ := well_tuple x
    have z2 : WData.weightAll ds ≤ 1048576 := z
    obtain ⟨A, h1, h2⟩ := area_all ds _ hall p fun d hd => Nat.le_trans (weight_mem hd) z2
    have k : ∀ b ∈ A, b ∈ a :: A := fun b hb => List.mem_cons_of_mem _ hb
    refine ⟨a :: A, List.mem_cons_self .., fun b hb => ?_⟩
    rcases List.mem_cons.mp hb with e | m
    · rw [e]
      exact ⟨vs, line_of (by rw [wellAll_len hall]; exact Nat.le_trans (PySem.W.length_le_weightAllW ds) z2), fun u hu => (h1 u hu).mono k, .inr ho⟩
    · exact (h2 b m).mono k
  | .float _, _, _, p, _ => Bool.noConfusion (show false = true from p)
  | .dict _, _, _, p, _ => Bool.noConfusion (show false = true from p)
  | .bytearray _, _, _, p, _ => Bool.noConfusion (show false = true from p)
  | .set _, _, _, p, _ => Bool.noConfusion (show false = true from p)
  | .frozenset _, _, _, p, _ => Bool.noConfusion (show false = true from p)
  | .obj _ _, _, _, p, _ => Bool.noConfusion (show false = true from p)
theorem area_all : ∀ (ds : List WData) (vs : List Value), WellAll P h vs ds → plWs ds = true → (∀ d ∈ ds, d.weight ≤ 1048576) → ∃ A : List Addr, (∀ u ∈ vs, OkU A u) ∧ ∀ a ∈ A, ArgOb h A a
  | [], _, x, _, _ => by
    cases x
    exact ⟨[], fun u m => absurd m (by simp), fun a m => absurd m (by simp)⟩
  | d :: ds, _, x, p, z => by
    obtain ⟨v, vs, rfl, x1, x2⟩ := well_cons x
    have q : plW d = true ∧ plWs ds = true := Bool.and_eq_true_iff.mp p
    obtain ⟨A, a1, a2⟩ := area_one d v x1 q.1 (z d (List.mem_cons_self ..))
    obtain ⟨B, b1, b2⟩ := area_all ds vs x2 q.2 fun e he => z e (List.mem_cons_of_mem _ he)
    have kA : ∀ b ∈ A, b ∈ A ++ B := fun b hb => List.mem_append.mpr (.inl hb)
    have kB : ∀ b ∈ B, b ∈ A ++ B := fun b hb => List.mem_append.mpr (.inr hb)
    refine ⟨A ++ B, fun u hu => ?_, fun b hb => ?_⟩
    · rcases List.mem_cons.mp hu with e | m
      · rw [e]
        exact a1.mono kA
      · exact (b1 u m).mono kB
    · rcases List.mem_append.mp hb with m | m
      · exact (a2 b m).mono kA
      · exact (b2 b m).mono kB
end
end
/-- what is tracked of an argument's object -/
def hoOf (o : Obj) : Option HO := match o.data with
  | .seq vs _ => if (o.cls == Value.type "list") = true then some (.frz o (.lst (vs.toList.map toV))) else some (.frz o (.tup (vs.toList.map toV)))
  | _ => none
def argH (K : PySem.W.Frag) (h : Heap) (A : List Addr) : Hp := fun b => if b ∈ A then (if (K.lookup b).isNone = true then (h.get? b).bind hoOf else none) else none
/-- nothing is tracked but what is known to the object -/
def OnlyF (H : Hp) : Prop := ∀ b, H b = none ∨ ∃ o u, H b = some (.frz o u)
theorem hoOf_lst (vs : List Value) : hoOf { cls := .type "list", data := .seq vs.toArray } = some (.frz { cls := .type "list", data := .seq vs.toArray } (.lst (vs.map toV))) := by
  show (if (Value.type "list" == Value.type "list") = true then some (HO.frz { cls := .type "list", data := .seq vs.toArray } (.lst (vs.toArray.toList.map toV))) else some (HO.frz { cls := .type "list", data := .seq vs.toArray } (.tup (vs.toArray.toList.map toV)))) = _
  rw [if_pos (beq_self_eq_true _)]
theorem hoOf_tup (vs : List Value) : hoOf { cls := .type "tuple", data := .seq vs.toArray } = some (.frz { cls := .type "tuple", data := .seq vs.toArray } (.tup (vs.map toV))) := by
  show (if (Value.type "tuple" == Value.type "list") = true then some (HO.frz { cls := .type "tuple", data := .seq vs.toArray } (.lst (vs.toArray.toList.map toV))) else some (HO.frz { cls := .type "tuple", data := .seq vs.toArray } (.tup (vs.toArray.toList.map toV)))) = _
  rw [if_neg (by decide)]
section
variable {P : Program} {w : World} {K : PySem.W.Frag} {h : Heap} {A : List Addr}
theorem argH_at {b : Addr} {o : Obj} (hb : b ∈ A) (hk : K.lookup b = none) (e : h.get? b = some o) : argH K h A b = hoOf o := by
  unfold argH
  rw [if_pos hb, hk, if_pos (show (none : Option Obj).isNone = true from rfl), e] <;> rfl
theorem of_argH {b : Addr} {u : HO} (q : argH K h A b = some u) : b ∈ A ∧ K.lookup b = none := by
  unfold argH at q
  by_cases hb : b ∈ A
  · rw [if_pos hb] at q
    cases hk : K.lookup b with
    | none => exact ⟨hb, rfl⟩
    | some o =>
      rw [hk, if_neg (by simp)] at q
      cases q
  · rw [if_neg hb] at q
    cases q
/-- what stands tracked -/
theorem argH_is (ar : ∀ a ∈ A, ArgOb h A a) {b : Addr} {u : HO} (q : argH K h A b = some u) : K.lookup b = none ∧ ∃ vs : List Value, vs.length ≤ sizeLine ∧ (∀ u ∈ vs, OkU A u) ∧
    ((h.get? b = some { cls := .type "list", data := .seq vs.toArray } ∧ u = .frz { cls := .type "list", data := .seq vs.toArray } (.lst (vs.map toV))) ∨
     (h.get? b = some { cls := .type "tuple", data := .seq vs.toArray } ∧ u = .frz { cls := .type "tuple", data := .seq vs.toArray } (.tup (vs.map toV)))) := by
  obtain ⟨hb, hk⟩ := of_argH q
  obtain ⟨vs, h1, h2, h3⟩ := ar b hb
  refine ⟨hk, vs, h1, h2, ?_⟩
  rcases h3 with e | e
  · rw [argH_at hb hk e, hoOf_lst] at q
    exact .inl ⟨e, (Option.some.inj q).symm⟩
  · rw [argH_at hb hk e, hoOf_tup] at q
    exact .inr ⟨e, (Option.some.inj q).symm⟩
theorem argH_only (ar : ∀ a ∈ A, ArgOb h A a) : OnlyF (argH K h A) := fun b => by
  cases q : argH K h A b with
  | none => exact .inl rfl
  | some u =>
    obtain ⟨_, vs, _, _, ⟨_, e⟩ | ⟨_, e⟩⟩ := argH_is ar q
    · exact .inr ⟨_, _, by rw [e]⟩
    · exact .inr ⟨_, _, by rw [e]⟩
theorem argH_ok (ar : ∀ a ∈ A, ArgOb h A a) : HOk P w (argH K h A) h := fun b u q => by
  obtain ⟨_, vs, h1, h2, ⟨e, rfl⟩ | ⟨e, rfl⟩⟩ := argH_is ar q
  · exact ⟨e, by rw [List.length_map]; exact h1, vs, _, vals_toV h2, e⟩
  · exact ⟨e, by rw [List.length_map]; exact h1, vs, vals_toV h2, _, e, rfl, _, rfl⟩
theorem seq_inj {c c' : Value} {vs us : List Value} (e : (some { cls := c, data := .seq vs.toArray } : Option Obj) = some { cls := c', data := .seq us.toArray }) : c = c' ∧ vs = us := by
  have e1 := Option.some.inj e
  have e2 : c = c' := congrArg Obj.cls e1
  have e3 : Data.seq vs.toArray = Data.seq us.toArray := congrArg Obj.data e1
  injection e3 with e4
  refine ⟨e2, ?_⟩
  have e5 := congrArg Array.toList e4
  simpa using e5
/-- a list argument -/
theorem argL (KX : K.In h) (ar : ∀ a ∈ A, ArgOb h A a) {a : Addr} {vs : List Value} (ha : a ∈ A) (e : h.get? a = some { cls := .type "list", data := .seq vs.toArray }) : (∀ u ∈ vs, OkU A u) ∧ SqL K (argH K h A) a (vs.map toV) := by
  obtain ⟨us, h1, h2, h3⟩ := ar a ha
  have hu : us = vs := by
    rcases h3 with q | q
    · rw [e] at q
      exact (seq_inj q).2.symm
    · rw [e] at q
      exact absurd (Value.type.inj (seq_inj q).1) (by decide)
  subst hu
  refine ⟨h2, ?_⟩
  cases hk : K.lookup a with
  | none => exact .inl (.inr ⟨_, by rw [argH_at ha hk e, hoOf_lst]⟩)
  | some o =>
    have e2 := KX a o hk
    rw [e] at e2
    obtain rfl := Option.some.inj e2
    exact .inr ⟨_, us.toArray, _, hk, rfl, rfl, rfl, by rw [List.size_toArray]; exact h1, by simpa using vals_toV h2⟩
theorem argT (KX : K.In h) (ar : ∀ a ∈ A, ArgOb h A a) {a : Addr} {vs : List Value} (ha : a ∈ A) (e : h.get? a = some { cls := .type "tuple", data := .seq vs.toArray }) : (∀ u ∈ vs, OkU A u) ∧ SqT K (argH K h A) a (vs.map toV) := by
  obtain ⟨us, h1, h2, h3⟩ := ar a ha
  have hu : us = vs := by
    rcases h3 with q | q
    · rw [e] at q
      exact absurd (Value.type.inj (seq_inj q).1) (by decide)
    · rw [e] at q
      exact (seq_inj q).2.symm
  subst hu
  refine ⟨h2, ?_⟩
  cases hk : K.lookup a with
  | none => exact .inl (.inr ⟨_, by rw [argH_at ha hk e, hoOf_tup]⟩)
  | some o =>
    have e2 := KX a o hk
    rw [e] at e2
    obtain rfl := Option.some.inj e2
    exact .inr ⟨_, us.toArray, _, hk, rfl, rfl, by rw [List.size_toArray]; exact h1, by simpa using vals_toV h2⟩
mutual
theorem dw_one {Pm : Params} (KX : K.In h) (ar : ∀ a ∈ A, ArgOb h A a) : ∀ (d : WData) (v : Value), Well Pm h v d → plW d = true → OkU A v → Dw K (argH K h A) (toV v) d
  | .none, _, x, _, _ => by
    cases x
    exact .non
  | .bool b, _, x, _, _ => by
    cases x
    exact .bl b
  | .int i, _, x, _, _ => by
    cases x
    exact .int i
  | .str s, _, x, _, _ => by
    cases x
    exact .str s
  | .bytes b, _, x, _, _ => by
    cases x
    have z := Dw.byt (K := K) (H := argH K h A) b.toArray
    exact z
  | .list ds, _, x, p, hu => by
    obtain ⟨a, vs, rfl, ho, hall⟩ := well_list x
    obtain ⟨h2, hs⟩ := argL KX ar hu ho
    exact .lst hs (dw_all KX ar ds _ hall p h2)
  | .tuple ds, _, x, p, hu => by
    obtain ⟨a, vs, rfl, ho, hall⟩ := well_tuple x
    obtain ⟨h2, hs⟩ := argT KX ar hu ho
    exact .tup hs (dw_all KX ar ds _ hall p h2)
  | .float _, _, _, p, _ => Bool.noConfusion (show false = true from p)
  | .dict _, _, _, p, _ => Bool.noConfusion (show false = true from p)
  | .bytearray _, _, _, p, _ => Bool.noConfusion (show false = true from p)
  | .set _, _, _, p, _ => Bool.noConfusion (show false = true from p)
  | .frozenset _, _, _, p, _ => Bool.noConfusion (show false = true from p)
  | .obj _ _, _, _, p, _ => Bool.noConfusion (show false = true from p)
theorem dw_all {Pm : Params} (KX : K.In h) (ar : ∀ a ∈ A, ArgOb h A a) : ∀ (ds : List WData) (vs : List Value), WellAll Pm h vs ds → plWs ds = true → (∀ u ∈ vs, OkU A u) → DwAll K (argH K h A) (vs.map toV) ds
  | [], _, x, _, _ => by
    cases x
    exact .nil
  | d :: ds, _, x, p, hu => by
    obtain ⟨v, vs, rfl, x1, x2⟩ := well_cons x
    have q : plW d = true ∧ plWs ds = true := Bool.and_eq_true_iff.mp p
    exact .cons (dw_one KX ar d v x1 q.1 (hu _ (List.mem_cons_self ..))) (dw_all KX ar ds vs x2 q.2 fun u m => hu u (List.mem_cons_of_mem _ m))
end
end
/-! ### the call -/
theorem spec_call {P : Program} {w : World} {K : PySem.W.Frag} {mg mb : Str → Option Value} {CX : CXT} {k : Nat} {fa : Addr} {fd : FuncData} {ps : List Str} {sp : Sp} {s₁ : Shared} {vals : List Value} {ds : List WData} {R : PySem.W.WRecords} {cl : Str → Option Addr} {d0 : WData}
    (KX : K.In s₁.heap) (hns : s₁.heap.Ns mainGlobals mg) (hb : s₁.heap.Ns builtinsNs mb) (hbb : ∀ x : Str, x ≠ "__name__" → mb x = bootBuiltins x) (hlim : s₁.heap.NoLimit) (hg : s₁.gens = #[])
    (hwl : WellAll w.params s₁.heap vals ds) (hpl : plWs ds = true) (hwt : ∀ d ∈ ds, d.weight ≤ 1048576) (hr : Room k callerA)
    (F : ∀ base : Heap, K.In base → base.Ns mainGlobals mg → FnOk P w K mg base CX k fa fd ps sp) (hbind : ∀ (s : Shared) (us : List Value), us.length = ps.length → BindsTo s fd ⟨us, []⟩ (ps.zip us)) (hlen : ds.length = ps.length)
    (hsp : ∀ (H : Hp) (xs : List V), OnlyF H → DwAll K H xs ds → sp xs H (fun v H' => Dw K H' v d0) fun _ _ _ => False)
    (hCX : ∀ H e s', CX [] H s₁ (fun _ _ _ => False) e s' → False) :
    codeAny (model P w) callerA (.call (.ref fa) ⟨vals, []⟩) (fun r s' => ∃ u as, r = .ok (.ret u) ∧ ReadsW R cl s'.heap u d0 as ∧ OldK s₁.heap s'.heap ∧ s'.os = s₁.os ∧ AllBare s'.gens) s₁ := by
  obtain ⟨A, ho, ar⟩ := area_all ds vals hwl hpl hwt
  have hO : OnlyF (argH K s₁.heap A) := argH_only ar
  have hok : HOk P w (argH K s₁.heap A) s₁.heap := argH_ok ar
  have hS := dw_all KX ar ds vals hwl hpl ho
  have hV := vals_toV ho
  have hK : ∀ b u, argH K s₁.heap A b = some u → K.lookup b = none := fun b u q => (argH_is ar q).1
  have noA : ∀ {b : Addr} {o : Obj} {es : Array DictEntry} {ep : Nat}, s₁.heap.get? b = some o → o.data = .dict es ep → argH K s₁.heap A b = none := fun {b o es ep} e d => by
    cases q : argH K s₁.heap A b with
    | none => rfl
    | some u =>
      obtain ⟨_, vs, _, _, ⟨e2, _⟩ | ⟨e2, _⟩⟩ := argH_is ar q
      · rw [e2] at e
        cases e
        have d' : Data.seq vs.toArray _ = Data.dict es ep := d
        cases d'
      · rw [e2] at e
        cases e
        have d' : Data.seq vs.toArray _ = Data.dict es ep := d
        cases d'
  generalize argH K s₁.heap A = H at hO hok hS hK noA
  have base_of : ∀ {b : Addr} {o : Obj}, s₁.heap.get? b = some o → H b = none → (hidT s₁.heap H).get? b = some o := fun e n => hidT_get e n
  have nsK : ∀ {b : Addr} {m : Str → Option Value}, s₁.heap.Ns b m → (hidT s₁.heap H).Ns b m := fun {b m} ⟨o, es, ep, e, d, r⟩ => ⟨o, es, ep, base_of e (noA e d), d, r⟩
  have nK : ∀ b o, K.lookup b = some o → H b = none := fun b o e => by
    cases q : H b with
    | none => rfl
    | some u =>
      rw [hK b u q] at e
      cases e
  have hKb : K.In (hidT s₁.heap H) := fun b o e => base_of (KX b o e) (nK b o e)
  have hM : Mod K mg (hidT s₁.heap H) := ⟨hKb, nsK hns, ⟨mb, nsK hb, hbb⟩, let ⟨mc, h1, h2⟩ := hlim; ⟨mc, nsK h1, h2⟩⟩
  have e0 : Env0 P w K mg (hidT s₁.heap H) callerA [] s₁ H := ⟨rfl, hM, fun b o e => of_hidT e, Nat.le_of_eq (hidT_size _ _), trivial, fun b hb => absurd (show b ∈ ([] : List Addr) from hb) (by simp), hok, .of_eq hg⟩
  have hl : vals.length = ps.length := by rw [wellAll_len hwl]; exact hlen
  refine codeAny_mono ((F _ hKb (nsK hns)).run callerA [] s₁ H ⟨vals, []⟩ vals (vals.map toV) _ _ hr e0 (hbind s₁ vals hl) hV (hsp H _ hO hS)) fun r s' x => ?_
  cases r with
  | error e => exact (hCX H e s' x).elim
  | ok fl =>
    cases fl with
    | next => exact False.elim x
    | brk => exact False.elim x
    | cont => exact False.elim x
    | ret u =>
      obtain ⟨v, H', os, bare, un, hok', r', q⟩ := x
      have kept : ∀ b o, s₁.heap.get? b = some o → s'.heap.get? b = some o := fun b o e => by
        cases q2 : H b with
        | none => exact un.keep b o e q2 (by intro z; exact absurd (show b ∈ ([] : List Addr) from z) (by simp)) (by simp)
        | some u2 =>
          rcases hO b with z | ⟨ob, u3, z⟩
          · rw [q2] at z
            cases z
          · have z2 := un.frzs b ob _ z
            obtain ⟨e1, _⟩ := hok b _ z
            obtain ⟨e2, _⟩ := hok' b _ z2
            rw [e] at e1
            cases e1
            exact e2
      have KX' : K.In s'.heap := fun b o e => kept b o (KX b o e)
      obtain ⟨as, hrd⟩ := Dw.reads (R := R) (cl := cl) hok' KX' d0 v u q r'
      exact ⟨u, as, rfl, hrd, OldK.of_keep kept, os, bare⟩
/-! ### the row -/
theorem layable_weight {ds : List WData} (h : WData.layableAll ds = true) : ∀ d ∈ ds, d.weight ≤ 1048576 := fun d hd =>
  (PySem.W.layableW_iff.mp (List.all_eq_true.mp h d hd)).2.2
theorem encAll_len : ∀ (cs : List Codec) (a : Codec.denoteAll cs), (Codec.encAll cs a).length = cs.length
  | [], _ => rfl
  | c :: cs, a => by
    show (Codec.encAll cs a.2).length + 1 = cs.length + 1
    rw [encAll_len cs a.2]
/-- the goal that k_headS leaves (case hc), from the promise of the row's def: whatever the arguments that the codecs let and the row asks for, the def gives what stands for enc (f ..) -/
theorem walk_spec {r : OpenSpec} {k : Nat} {q : Program} {loose : List Str} {XP : (Str → Option Value) → Heap → Prop} {YP : World → Heap → Prop} {d : DefRec} {K : Params → PySem.W.Frag} {CX : World → CXT} {ps : List Str} {sp : World → Sp}
    (hwell : r.wellSaid = true) (hdf : d.params.defaults = []) (hlen : r.args.length = ps.length) (hr : Room k callerA)
    (hY : ∀ (w : World) (h : Heap), YP w h → (K w.params).In h)
    (F : ∀ (w : World) (mg : Str → Option Value) (fa : Addr) (h : Heap), YP w h → (K w.params).In h → h.Ns mainGlobals mg → mg d.name = some (.ref fa) →
      ∃ fd : FuncData, (∀ (s : Shared) (us : List Value), us.length = ps.length → BindsTo s fd ⟨us, []⟩ (ps.zip us)) ∧
        ∀ base : Heap, (K w.params).In base → base.Ns mainGlobals mg → FnOk r.prog w (K w.params) mg base (CX w) k fa fd ps (sp w))
    (hsp : ∀ (w : World) (H : Hp) (xs : List V) (a : Codec.denoteAll r.args), OnlyF H → Codec.withinAll r.args a = true → Codec.app r.args r.asked a = true → DwAll (K w.params) H xs (Codec.encAll r.args a) →
      sp w xs H (fun v H' => Dw (K w.params) H' v (r.ret.enc (Codec.app r.args r.f a))) fun _ _ _ => False)
    (hCX : ∀ (w : World) (H : Hp) (s : Shared) (e : Value) (s' : Shared), CX w [] H s (fun _ _ _ => False) e s' → False) :
    PySem.W.WalkOS q loose XP YP r d [] (fun f vs => PySem.call f vs) := by
  intro w s_0 s₁ mg mb G Y fa o pm cd doc dV kV ho hd hcd hD hmg hg args vals as hpre hlay hrd hwl hlo
  obtain ⟨a, e1, e2⟩ := PySem.W.os_pre_some hpre
  obtain ⟨e3, hwi⟩ := Codec.encAll_of_decAll r.args args a e1
  subst e3
  have KX := hY w _ Y
  obtain ⟨fd, hb, hF⟩ := F w mg fa _ Y KX G.T.g hmg
  refine PySem.W.enter_call (codeAny_mono (spec_call (R := []) (cl := classAt s_0.heap) (d0 := r.ret.enc (Codec.app r.args r.f a)) KX G.T.g G.T.b G.T.builtins G.T.nolimit hg hwl (pl_encAll _ _) (layable_weight hlay) hr hF hb (by rw [encAll_len]; exact hlen)
    (fun H xs hO hS => hsp w H xs a hO hwi e2 hS) fun H e s' => hCX w H s₁ e s') fun r' s' hq => ?_)
  obtain ⟨u, as', rfl, h1, h2, h3, h4⟩ := hq
  exact ⟨.inl ⟨u, _, as', rfl, fun _ => rfl, h1, (OpenSpec.post_iff hwell hwi _ _).mpr rfl, fun z => Bool.noConfusion (show false = true from z)⟩, h2, h3, h4⟩
/-- the same where the promise hangs on the written part alone -/
theorem walk_specK {r : OpenSpec} {k : Nat} {q : Program} {loose : List Str} {XP : (Str → Option Value) → Heap → Prop} {YP : World → Heap → Prop} {d : DefRec} {K : Params → PySem.W.Frag} {CX : CXT} {ps : List Str} {sp : PySem.W.Frag → Sp}
    (hwell : r.wellSaid = true) (hdf : d.params.defaults = []) (hlen : r.args.length = ps.length) (hr : Room k callerA)
    (hY : ∀ (w : World) (h : Heap), YP w h → (K w.params).In h)
    (F : ∀ (w : World) (mg : Str → Option Value) (fa : Addr) (h : Heap), YP w h → (K w.params).In h → h.Ns mainGlobals mg → mg d.name = some (.ref fa) →
      ∃ fd : FuncData, (∀ (s : Shared) (us : List Value), us.length = ps.length → BindsTo s fd ⟨us, []⟩ (ps.zip us)) ∧
        ∀ base : Heap, (K w.params).In base → base.Ns mainGlobals mg → FnOk r.prog w (K w.params) mg base CX k fa fd ps (sp (K w.params)))
    (hsp : ∀ (K : PySem.W.Frag) (H : Hp) (xs : List V) (a : Codec.denoteAll r.args), OnlyF H → Codec.withinAll r.args a = true → Codec.app r.args r.asked a = true → DwAll K H xs (Codec.encAll r.args a) →
      sp K xs H (fun v H' => Dw K H' v (r.ret.enc (Codec.app r.args r.f a))) fun _ _ _ => False)
    (hCX : ∀ (H : Hp) (s : Shared) (e : Value) (s' : Shared), CX [] H s (fun _ _ _ => False) e s' → False) :
    PySem.W.WalkOS q loose XP YP r d [] (fun f vs => PySem.call f vs) :=
  walk_spec (K := K) (CX := fun _ => CX) (sp := fun w => sp (K w.params)) hwell hdf hlen hr hY F (fun w H xs a h1 h2 h3 h4 => hsp (K w.params) H xs a h1 h2 h3 h4) fun _ H s e s' => hCX H s e s'
end L2
end
section
set_option Elab.async false
set_option Elab.async false
set_option linter.all false
namespace TS
open Su88

/-! ### the first cheapest of some -/
def better {b : Type} : Option (Nat × b) → Option (Nat × b) → Option (Nat × b)
  | none, y => y
  | some x, none => some x
  | some x, some y => if y.1 < x.1 then some y else some x
theorem better_none {b : Type} (x : Option (Nat × b)) : better x none = x := by cases x <;> rfl
theorem better_assoc {b : Type} (x y z : Option (Nat × b)) : better (better x y) z = better x (better y z) := by
  rcases x with _ | x
  · rfl
  rcases y with _ | y
  · rfl
  rcases z with _ | z
  · rw [better_none, better_none]
  show better (if y.1 < x.1 then some y else some x) (some z) = better (some x) (if z.1 < y.1 then some z else some y)
  by_cases h1 : y.1 < x.1 <;> by_cases h2 : z.1 < y.1 <;> by_cases h3 : z.1 < x.1 <;> simp only [h1, h2, h3, if_true, if_false, better] <;> first | rfl | omega
def pick {b : Type} (l : List (Option (Nat × b))) : Option (Nat × b) := l.foldl better none
theorem pick_from {b : Type} : ∀ (l : List (Option (Nat × b))) (x : Option (Nat × b)), l.foldl better x = better x (pick l)
  | [], x => (better_none x).symm
  | y :: l, x => by
    show l.foldl better (better x y) = better x (l.foldl better (better none y))
    rw [pick_from l, pick_from l (better none y), better_assoc]
    rfl
theorem pick_cons {b : Type} (y : Option (Nat × b)) (l : List (Option (Nat × b))) : pick (y :: l) = better y (pick l) := pick_from l y
theorem pick_append {b : Type} (l r : List (Option (Nat × b))) : pick (l ++ r) = better (pick l) (pick r) := by
  show (l ++ r).foldl better none = _
  rw [List.foldl_append, pick_from r]
  rfl
theorem pick_flatMap {a b : Type} (g : a → List (Option (Nat × b))) : ∀ l : List a, pick (l.flatMap g) = pick (l.map fun x => pick (g x))
  | [] => rfl
  | x :: l => by rw [List.flatMap_cons, pick_append, List.map_cons, pick_cons, pick_flatMap g l]
def shift {b c : Type} (n : Nat) (h : b → c) : Option (Nat × b) → Option (Nat × c)
  | none => none
  | some x => some (x.1 + n, h x.2)
theorem shift_better {b c : Type} (n : Nat) (h : b → c) (x y : Option (Nat × b)) : shift n h (better x y) = better (shift n h x) (shift n h y) := by
  rcases x with _ | x
  · rfl
  rcases y with _ | y
  · rfl
  show shift n h (if y.1 < x.1 then some y else some x) = if y.1 + n < x.1 + n then some (y.1 + n, h y.2) else some (x.1 + n, h x.2)
  by_cases e : y.1 < x.1
  · rw [if_pos e, if_pos (by omega)]; rfl
  · rw [if_neg e, if_neg (by omega)]; rfl
theorem pick_shift {b c : Type} (n : Nat) (h : b → c) : ∀ l : List (Option (Nat × b)), pick (l.map (shift n h)) = shift n h (pick l)
  | [] => rfl
  | x :: l => by rw [List.map_cons, pick_cons, pick_cons, shift_better, pick_shift n h l]
theorem better_le {b : Type} {x y : Option (Nat × b)} {z : Nat × b} (h : x = some z ∨ y = some z) : ∃ u, better x y = some u ∧ u.1 ≤ z.1 := by
  rcases x with _ | x
  · rcases h with h | h
    · cases h
    · exact ⟨z, h, Nat.le_refl _⟩
  rcases y with _ | y
  · rcases h with h | h
    · exact ⟨z, h, Nat.le_refl _⟩
    · cases h
  by_cases e : y.1 < x.1
  · refine ⟨y, if_pos e, ?_⟩
    rcases h with h | h <;> cases h <;> omega
  · refine ⟨x, if_neg e, ?_⟩
    rcases h with h | h <;> cases h <;> omega
theorem pick_le {b : Type} : ∀ {l : List (Option (Nat × b))} {z : Nat × b}, some z ∈ l → ∃ u, pick l = some u ∧ u.1 ≤ z.1
  | [], z, h => by cases h
  | x :: l, z, h => by
    rw [pick_cons]
    cases h with
    | head => exact better_le (.inl rfl)
    | tail _ h =>
      obtain ⟨u, e, hu⟩ := pick_le h
      obtain ⟨v, e2, hv⟩ := better_le (x := x) (y := pick l) (.inr e)
      exact ⟨v, e2, Nat.le_trans hv hu⟩
theorem better_mem {b : Type} {x y : Option (Nat × b)} {z : Nat × b} (h : better x y = some z) : x = some z ∨ y = some z := by
  rcases x with _ | x
  · exact .inr h
  rcases y with _ | y
  · exact .inl h
  by_cases e : y.1 < x.1
  · exact .inr ((if_pos e).symm.trans h)
  · exact .inl ((if_neg e).symm.trans h)
theorem pick_mem {b : Type} : ∀ {l : List (Option (Nat × b))} {z : Nat × b}, pick l = some z → some z ∈ l
  | [], z, h => by cases h
  | x :: l, z, h => by
    rw [pick_cons] at h
    rcases better_mem h with h | h
    · rw [h]; exact .head _
    · exact .tail _ (pick_mem h)
theorem better_zero {b : Type} (v : b) (y : Option (Nat × b)) : better (some (0, v)) y = some (0, v) := by
  rcases y with _ | y
  · rfl
  · show (if y.1 < 0 then some y else some (0, v)) = some (0, v)
    rw [if_neg (Nat.not_lt_zero _)]

/-! ### sets of days -/
theorem subsets_snoc (d : Nat) : ∀ l : List Nat, subsets (l ++ [d]) = subsets l ++ (subsets l).map (· ++ [d])
  | [] => rfl
  | x :: l => by
    show (subsets (l ++ [d])).flatMap (fun s => [s, x :: s]) = (subsets l).flatMap (fun s => [s, x :: s]) ++ ((subsets l).flatMap fun s => [s, x :: s]).map (· ++ [d])
    rw [subsets_snoc d l, List.flatMap_append, List.map_flatMap, List.flatMap_map]
    rfl
theorem subsets_sub : ∀ {l s : List Nat}, s ∈ subsets l → s.Sublist l
  | [], s, h => by
    cases h with
    | head => exact .slnil
    | tail _ h => cases h
  | x :: l, s, h => by
    obtain ⟨r, hr, hs⟩ := List.mem_flatMap.mp h
    have ih := subsets_sub hr
    cases hs with
    | head => exact ih.cons _
    | tail _ hs =>
      cases hs with
      | head => exact ih.cons_cons _
      | tail _ hs => cases hs
theorem nil_mem_subsets : ∀ l : List Nat, [] ∈ subsets l
  | [] => .head _
  | x :: l => List.mem_flatMap.mpr ⟨[], nil_mem_subsets l, .head _⟩
theorem self_mem_subsets : ∀ l : List Nat, l ∈ subsets l
  | [] => .head _
  | x :: l => List.mem_flatMap.mpr ⟨l, self_mem_subsets l, .tail _ (.head _)⟩
theorem subsets_length : ∀ l : List Nat, (subsets l).length = 2 ^ l.length
  | [] => rfl
  | x :: l => by
    show ((subsets l).flatMap fun s => [s, x :: s]).length = 2 ^ (l.length + 1)
    rw [List.length_flatMap]
    have e : ∀ k : List (List Nat), (k.map fun s => ([s, x :: s] : List (List Nat)).length).sum = 2 * k.length := by
      intro k
      induction k with
      | nil => rfl
      | cons a k ih =>
        rw [List.map_cons, List.sum_cons, ih, List.length_cons]
        show 2 + 2 * k.length = 2 * (k.length + 1)
        omega
    rw [e, subsets_length l, Nat.pow_succ]
    omega
def Asc (l : List Nat) : Prop := l.Pairwise (· < ·)
theorem asc_range (n : Nat) : Asc (List.range n) := List.pairwise_lt_range
theorem Asc.sub {l s : List Nat} (h : Asc l) (q : s.Sublist l) : Asc s := List.Pairwise.sublist q h
theorem asc_snoc {l : List Nat} {d : Nat} : Asc (l ++ [d]) ↔ Asc l ∧ ∀ x ∈ l, x < d := by
  unfold Asc
  rw [List.pairwise_append]
  constructor
  · intro ⟨a, _, b⟩
    exact ⟨a, fun x hx => b x hx d (.head _)⟩
  · intro ⟨a, b⟩
    exact ⟨a, List.pairwise_singleton _ _, fun x hx y hy => by
      rw [List.mem_singleton] at hy
      subst hy
      exact b x hx⟩
theorem snoc_cases {a : Type} (l : List a) : l = [] ∨ ∃ r d, l = r ++ [d] := by
  rcases List.eq_nil_or_concat l with h | ⟨r, d, h⟩
  · exact .inl h
  · exact .inr ⟨r, d, by rw [h, List.concat_eq_append]⟩
theorem snoc_ind {a : Type} {P : List a → Prop} (h0 : P []) (h1 : ∀ r d, P r → P (r ++ [d])) (l : List a) : P l := by
  have : ∀ n (l : List a), l.length = n → P l := by
    intro n
    induction n with
    | zero =>
      intro l h
      rw [List.eq_nil_of_length_eq_zero h]
      exact h0
    | succ n ih =>
      intro l h
      rcases snoc_cases l with rfl | ⟨r, d, rfl⟩
      · exact h0
      · exact h1 r d (ih r (by rw [List.length_append] at h; exact Nat.succ.inj h))
  exact this _ l rfl
end TS
end
section
set_option Elab.async false
set_option Elab.async false
set_option linter.all false
namespace TS
open Su88

/-! ### what is needed from a day up to an end -/
theorem seg_sum : ∀ (nd : List Nat) (i e : Nat), ((List.range nd.length).map fun k => if i ≤ k ∧ k < e then nd.getD k 0 else 0).sum = ((nd.take e).drop i).sum
  | [], i, e => by simp
  | a :: nd, i, e => by
    rw [List.length_cons, List.range_succ_eq_map, List.map_cons, List.map_map, List.sum_cons]
    match e with
    | 0 =>
      have z : ((List.range nd.length).map ((fun k => if i ≤ k ∧ k < 0 then (a :: nd).getD k 0 else 0) ∘ Nat.succ)).sum = 0 := by
        have : ∀ l : List Nat, (l.map ((fun k => if i ≤ k ∧ k < 0 then (a :: nd).getD k 0 else 0) ∘ Nat.succ)).sum = 0 := by
          intro l
          induction l with
          | nil => rfl
          | cons x l ih =>
            rw [List.map_cons, List.sum_cons, ih]
            show (if i ≤ x + 1 ∧ x + 1 < 0 then _ else 0) + 0 = 0
            rw [if_neg (by omega)]
        exact this _
      rw [z, if_neg (by omega)]
      simp
    | e + 1 =>
      match i with
      | 0 =>
        have ih := seg_sum nd 0 e
        have q : ((fun k => if 0 ≤ k ∧ k < e + 1 then (a :: nd).getD k 0 else 0) ∘ Nat.succ) = fun k => if 0 ≤ k ∧ k < e then nd.getD k 0 else 0 := by
          funext k
          show (if 0 ≤ k + 1 ∧ k + 1 < e + 1 then nd.getD k 0 else 0) = _
          by_cases h : k < e
          · rw [if_pos ⟨by omega, by omega⟩, if_pos ⟨by omega, h⟩]
          · rw [if_neg (by omega), if_neg (by omega)]
        rw [q, ih, if_pos ⟨Nat.le_refl _, by omega⟩]
        rfl
      | i + 1 =>
        have ih := seg_sum nd i e
        have q : ((fun k => if i + 1 ≤ k ∧ k < e + 1 then (a :: nd).getD k 0 else 0) ∘ Nat.succ) = fun k => if i ≤ k ∧ k < e then nd.getD k 0 else 0 := by
          funext k
          show (if i + 1 ≤ k + 1 ∧ k + 1 < e + 1 then nd.getD k 0 else 0) = _
          by_cases h : i ≤ k ∧ k < e
          · rw [if_pos ⟨by omega, by omega⟩, if_pos h]
          · rw [if_neg (by omega), if_neg h]
        rw [q, ih, if_neg (by omega)]
        simp
def nextIn (l : List Nat) (n i : Nat) : Nat := (l.find? fun j => decide (i < j)).getD n
def cov (nd l : List Nat) (i : Nat) : Nat := if l.contains i then ((nd.take (nextIn l nd.length i)).drop i).sum else 0
theorem covers_eq (nd l : List Nat) : covers nd l = (List.range nd.length).map (cov nd l) := by
  unfold covers cov
  refine List.map_congr_left fun i _ => ?_
  rw [← seg_sum]
  rfl
theorem covers_length (nd l : List Nat) : (covers nd l).length = nd.length := by rw [covers_eq, List.length_map, List.length_range]
theorem next_le {l : List Nat} {n i d : Nat} (h : ∀ x ∈ l, x < d) (hn : n ≤ d) : nextIn l n i ≤ d := by
  unfold nextIn
  cases e : l.find? fun j => decide (i < j) with
  | none => exact hn
  | some x => exact Nat.le_of_lt (h x (List.mem_of_find?_eq_some e))
theorem covers_snoc {nd S : List Nat} {d : Nat} (hS : ∀ x ∈ S, x < d) (hd : d < nd.length) :
    covers nd (S ++ [d]) = covers (nd.take d) S ++ (nd.drop d).sum :: List.replicate (nd.length - d - 1) 0 := by
  rw [covers_eq, covers_eq, List.length_take, Nat.min_eq_left (Nat.le_of_lt hd)]
  have e1 : nd.length = d + (1 + (nd.length - d - 1)) := by omega
  have e2 : List.range nd.length = List.range d ++ (d :: (List.range (nd.length - d - 1)).map (fun k => d + (1 + k))) := by
    conv => lhs; rw [e1, List.range_add, List.range_add, List.map_append, List.map_map]
    rfl
  rw [e2, List.map_append, List.map_cons, List.map_map]
  congr 1
  · refine List.map_congr_left fun i hi => ?_
    have hi : i < d := List.mem_range.mp hi
    unfold cov
    have c : (S ++ [d]).contains i = S.contains i := by
      rw [Bool.eq_iff_iff, List.contains_iff_mem, List.contains_iff_mem, List.mem_append, List.mem_singleton]
      constructor
      · rintro (h | h)
        · exact h
        · omega
      · exact .inl
    rw [c]
    have f : nextIn (S ++ [d]) nd.length i = nextIn S d i := by
      unfold nextIn
      rw [List.find?_append]
      cases S.find? fun j => decide (i < j) with
      | some x => rfl
      | none =>
        show (List.find? (fun j => decide (i < j)) [d]).getD nd.length = d
        rw [List.find?_cons, decide_eq_true hi]
        rfl
    rw [f, List.length_take, Nat.min_eq_left (Nat.le_of_lt hd), List.take_take, Nat.min_eq_left (next_le hS (Nat.le_refl _))]
  · congr 1
    · unfold cov
      have c : (S ++ [d]).contains d = true := by
        rw [List.contains_iff_mem]
        exact List.mem_append_right _ (.head _)
      have f : nextIn (S ++ [d]) nd.length d = nd.length := by
        unfold nextIn
        have : (S ++ [d]).find? (fun j => decide (d < j)) = none := by
          rw [List.find?_eq_none]
          intro x hx
          rw [List.mem_append, List.mem_singleton] at hx
          rw [decide_eq_true_iff]
          rcases hx with h | h
          · have := hS x h; omega
          · omega
        rw [this]
        rfl
      rw [c, f, List.take_length]
      rfl
    · refine List.ext_getElem (by simp) fun k h1 h2 => ?_
      simp only [List.getElem_map, List.getElem_range, List.getElem_replicate]
      show cov nd (S ++ [d]) (d + (1 + k)) = 0
      unfold cov
      rw [if_neg]
      rw [List.contains_iff_mem, List.mem_append, List.mem_singleton]
      rintro (h | h)
      · have := hS _ h; omega
      · omega
theorem covers_nil (nd : List Nat) : covers nd [] = List.replicate nd.length 0 := by
  rw [covers_eq]
  refine List.ext_getElem (by simp) fun k h1 h2 => ?_
  simp only [List.getElem_map, List.getElem_range, List.getElem_replicate]
  rfl
theorem sum_rep (n : Nat) : (List.replicate n 0 : List Nat).sum = 0 := by
  induction n with
  | zero => rfl
  | succ n ih => rw [List.replicate_succ, List.sum_cons, ih]
theorem times_rep (n : Nat) : times (List.replicate n 0) = 0 := by
  induction n with
  | zero => rfl
  | succ n ih => rw [List.replicate_succ]; exact ih
theorem times_append (a b : List Nat) : times (a ++ b) = times a + times b := by
  unfold times
  rw [List.filter_append, List.length_append]
theorem times_cons (x : Nat) (l : List Nat) : times (x :: l) = (if x = 0 then 0 else 1) + times l := by
  unfold times
  by_cases h : x = 0
  · subst h
    rw [if_pos rfl, Nat.zero_add]
    rfl
  · rw [if_neg h, List.filter_cons, if_pos (by simpa using h), List.length_cons, Nat.add_comm]
theorem take_drop_sum (nd : List Nat) (d : Nat) : (nd.take d).sum + (nd.drop d).sum = nd.sum := by
  rw [← List.sum_append, List.take_append_drop]
theorem covers_sum_le : ∀ (S nd : List Nat), Asc S → (∀ x ∈ S, x < nd.length) → (covers nd S).sum ≤ nd.sum := by
  intro S
  induction S using snoc_ind with
  | h0 =>
    intro nd _ _
    rw [covers_nil, sum_rep]
    exact Nat.zero_le _
  | h1 S d ih =>
    intro nd ha hb
    obtain ⟨a1, a2⟩ := asc_snoc.mp ha
    have hd : d < nd.length := hb d (List.mem_append_right _ (.head _))
    rw [covers_snoc a2 hd, List.sum_append, List.sum_cons, sum_rep, ← take_drop_sum nd d]
    have := ih (nd.take d) a1 (fun x hx => by rw [List.length_take, Nat.min_eq_left (Nat.le_of_lt hd)]; exact a2 x hx)
    omega
theorem covers_times_le : ∀ (S nd : List Nat), Asc S → (∀ x ∈ S, x < nd.length) → times (covers nd S) ≤ S.length := by
  intro S
  induction S using snoc_ind with
  | h0 =>
    intro nd _ _
    rw [covers_nil, times_rep]
    exact Nat.zero_le _
  | h1 S d ih =>
    intro nd ha hb
    obtain ⟨a1, a2⟩ := asc_snoc.mp ha
    have hd : d < nd.length := hb d (List.mem_append_right _ (.head _))
    rw [covers_snoc a2 hd, times_append, times_cons, times_rep, List.length_append]
    have := ih (nd.take d) a1 (fun x hx => by rw [List.length_take, Nat.min_eq_left (Nat.le_of_lt hd)]; exact a2 x hx)
    show _ ≤ S.length + 1
    split <;> omega
theorem covers_off {nd S : List Nat} {i : Nat} (h : i ∉ S) : (covers nd S).getD i 0 = 0 := by
  rw [covers_eq, List.getD_eq_getElem?_getD, List.getElem?_map]
  cases e : (List.range nd.length)[i]? with
  | none => rfl
  | some k =>
    have : k = i := by
      obtain ⟨h1, h2⟩ := List.getElem?_eq_some_iff.mp e
      rw [List.getElem_range] at h2
      exact h2.symm
    subst this
    show cov nd S k = 0
    unfold cov
    rw [if_neg]
    rw [List.contains_iff_mem]
    exact h

/-! ### what lies there -/
theorem lies_append : ∀ (a a' : List Nat) (s : Nat) (b b' : List Nat), a.length = a'.length → lies s (a ++ b) (a' ++ b') = match lies s a a' with
    | none => none
    | some x => (lies (s + a.sum - a'.sum) b b').map fun y => x ++ y
  | [], [], s, b, b', _ => by
    show lies s b b' = (lies (s + 0 - 0) b b').map fun y => [] ++ y
    cases lies s b b' <;> rfl
  | [], _ :: _, s, b, b', h => by cases h
  | _ :: _, [], s, b, b', h => by cases h
  | c :: a, g :: a', s, b, b', h => by
    have ih := lies_append a a' (s + c - g) b b' (Nat.succ.inj h)
    show (if s + c < g then none else (lies (s + c - g) (a ++ b) (a' ++ b')).map fun r => (s + c - g) :: r) = match (if s + c < g then none else (lies (s + c - g) a a').map fun r => (s + c - g) :: r) with
      | none => none
      | some x => (lies (s + (c :: a).sum - (g :: a').sum) b b').map fun y => x ++ y
    by_cases q : s + c < g
    · rw [if_pos q, if_pos q]
    · rw [if_neg q, if_neg q, ih]
      have e : s + (c :: a).sum - (g :: a').sum = s + c - g + a.sum - a'.sum := by
        rw [List.sum_cons, List.sum_cons]
        omega
      rw [e]
      cases lies (s + c - g) a a' with
      | none => rfl
      | some x =>
        show ((lies _ b b').map fun y => x ++ y).map _ = (lies _ b b').map _
        rw [Option.map_map]
        rfl
theorem lies_rep : ∀ nd : List Nat, lies 0 (List.replicate nd.length 0) nd = if nd.sum = 0 then some (List.replicate nd.length 0) else none
  | [] => rfl
  | g :: nd => by
    have ih := lies_rep nd
    show (if 0 + 0 < g then none else (lies (0 + 0 - g) (List.replicate nd.length 0) nd).map fun r => (0 + 0 - g) :: r) = _
    by_cases q : 0 + 0 < g
    · rw [if_pos q, if_neg (by rw [List.sum_cons]; omega)]
    · have : g = 0 := by omega
      subst this
      rw [if_neg q]
      show (lies 0 (List.replicate nd.length 0) nd).map _ = _
      rw [ih, List.sum_cons, Nat.zero_add]
      by_cases z : nd.sum = 0
      · rw [if_pos z, if_pos (by omega)]; rfl
      · rw [if_neg z, if_neg (by omega)]; rfl
/-- pieces by nights, the first day's night being the j-th -/
def nf : Nat → List Nat → Nat
  | _, [] => 0
  | j, a :: l => a * j + nf (j + 1) l
theorem nf_succ : ∀ (l : List Nat) (j : Nat), nf (j + 1) l = nf j l + l.sum
  | [], j => rfl
  | a :: l, j => by
    show a * (j + 1) + nf (j + 2) l = a * j + nf (j + 1) l + (a :: l).sum
    rw [nf_succ l (j + 1), List.sum_cons, Nat.mul_add]
    omega
theorem lies_tail : ∀ (l : List Nat) (s : Nat), s = l.sum → ∃ x, lies s (List.replicate l.length 0) l = some x ∧ x.sum = nf 0 l
  | [], s, _ => ⟨[], rfl, rfl⟩
  | a :: l, s, h => by
    rw [List.sum_cons] at h
    obtain ⟨x, e, hx⟩ := lies_tail l (s + 0 - a) (by omega)
    refine ⟨(s + 0 - a) :: x, ?_, ?_⟩
    · show (if s + 0 < a then none else (lies (s + 0 - a) (List.replicate l.length 0) l).map fun r => (s + 0 - a) :: r) = _
      rw [if_neg (by omega), e]
      rfl
    · show _ = a * 0 + nf 1 l
      rw [List.sum_cons, hx, nf_succ]
      omega
theorem lies_seg (l : List Nat) (h : 0 < l.length) : ∃ x, lies 0 (l.sum :: List.replicate (l.length - 1) 0) l = some x ∧ x.sum = nf 0 l := by
  match l, h with
  | a :: l, _ =>
    obtain ⟨x, e, hx⟩ := lies_tail l (0 + (a :: l).sum - a) (by rw [List.sum_cons]; omega)
    refine ⟨(0 + (a :: l).sum - a) :: x, ?_, ?_⟩
    · show (if 0 + (a :: l).sum < a then none else (lies (0 + (a :: l).sum - a) (List.replicate l.length 0) l).map fun r => (0 + (a :: l).sum - a) :: r) = _
      rw [if_neg (by rw [List.sum_cons]; omega), e]
      rfl
    · show _ = a * 0 + nf 1 l
      rw [List.sum_cons, hx, nf_succ, List.sum_cons]
      omega
theorem nf_zero : ∀ (l : List Nat) (j : Nat), l.sum = 0 → nf j l = 0
  | [], _, _ => rfl
  | a :: l, j, h => by
    rw [List.sum_cons] at h
    have : a = 0 := by omega
    subst this
    show 0 * j + nf (j + 1) l = 0
    rw [nf_zero l (j + 1) (by omega), Nat.zero_mul]
/-- what it costs to take all of it on the first of these days -/
def span (fee keep : Nat) (l : List Nat) : Nat := if l.sum = 0 then 0 else fee + keep * nf 0 l
/-- one store, ordered on these days -/
def sv (fee keep : Nat) (nd S : List Nat) : Option Nat := match lies 0 (covers nd S) nd with
  | none => none
  | some x => some (fee * times (covers nd S) + keep * x.sum)
theorem sv_nil (fee keep : Nat) (nd : List Nat) : sv fee keep nd [] = if nd.sum = 0 then some 0 else none := by
  unfold sv
  rw [covers_nil, lies_rep]
  by_cases h : nd.sum = 0
  · rw [if_pos h, if_pos h]
    show some (fee * times (List.replicate nd.length 0) + keep * (List.replicate nd.length 0).sum) = some 0
    rw [times_rep, sum_rep, Nat.mul_zero, Nat.mul_zero]
  · rw [if_neg h, if_neg h]
theorem sv_snoc {fee keep : Nat} {nd S : List Nat} {d : Nat} (ha : Asc S) (hS : ∀ x ∈ S, x < d) (hd : d < nd.length) :
    sv fee keep nd (S ++ [d]) = (sv fee keep (nd.take d) S).map fun c => c + span fee keep (nd.drop d) := by
  have hl : (nd.take d).length = d := by rw [List.length_take, Nat.min_eq_left (Nat.le_of_lt hd)]
  have hs := covers_sum_le S (nd.take d) ha (fun x hx => by rw [hl]; exact hS x hx)
  have e0 : lies 0 (covers nd (S ++ [d])) nd = match lies 0 (covers (nd.take d) S) (nd.take d) with
      | none => none
      | some x => (lies 0 ((nd.drop d).sum :: List.replicate ((nd.drop d).length - 1) 0) (nd.drop d)).map fun y => x ++ y := by
    have := lies_append (covers (nd.take d) S) (nd.take d) 0 ((nd.drop d).sum :: List.replicate (nd.length - d - 1) 0) (nd.drop d) (covers_length _ _)
    rw [← covers_snoc hS hd, List.take_append_drop] at this
    rw [this]
    have e : 0 + (covers (nd.take d) S).sum - (nd.take d).sum = 0 := by omega
    rw [e, List.length_drop]
  obtain ⟨y, hy, ys⟩ := lies_seg (nd.drop d) (by rw [List.length_drop]; omega)
  unfold sv
  rw [e0, hy, covers_snoc hS hd]
  cases lies 0 (covers (nd.take d) S) (nd.take d) with
  | none => rfl
  | some x =>
    show some (fee * times (covers (nd.take d) S ++ (nd.drop d).sum :: List.replicate (nd.length - d - 1) 0) + keep * (x ++ y).sum) = some (fee * times (covers (nd.take d) S) + keep * x.sum + span fee keep (nd.drop d))
    rw [times_append, times_cons, times_rep, List.sum_append, ys]
    unfold span
    by_cases z : (nd.drop d).sum = 0
    · rw [if_pos z, if_pos z, nf_zero _ _ z]
      simp
    · rw [if_neg z, if_neg z, Nat.mul_add, Nat.mul_add keep, Nat.add_zero, Nat.mul_one]
      congr 1
      omega
end TS
end
section
set_option Elab.async false
set_option Elab.async false
set_option linter.all false
namespace TS
open Su88

/-! ### one store: the first cheapest set among some days, for what is needed ahead of an end -/
def tag (S : List Nat) : Option Nat → Option (Nat × List Nat)
  | none => none
  | some c => some (c, S)
def bb (fee keep : Nat) (nd ds : List Nat) (e : Nat) : Option (Nat × List Nat) := pick ((subsets ds).map fun S => tag S (sv fee keep (nd.take e) S))
theorem bb_nil (fee keep : Nat) (nd : List Nat) (e : Nat) : bb fee keep nd [] e = if (nd.take e).sum = 0 then some (0, []) else none := by
  show pick [tag [] (sv fee keep (nd.take e) [])] = _
  rw [sv_nil]
  by_cases h : (nd.take e).sum = 0
  · rw [if_pos h, if_pos h]; rfl
  · rw [if_neg h, if_neg h]; rfl
theorem bb_snoc {fee keep : Nat} {nd ds : List Nat} {d e : Nat} (ha : Asc (ds ++ [d])) (hd : d < e) (he : e ≤ nd.length) :
    bb fee keep nd (ds ++ [d]) e = better (bb fee keep nd ds e) (shift (span fee keep ((nd.take e).drop d)) (fun S => S ++ [d]) (bb fee keep nd ds d)) := by
  obtain ⟨a1, a2⟩ := asc_snoc.mp ha
  unfold bb
  rw [subsets_snoc, List.map_append, pick_append, List.map_map, ← pick_shift, List.map_map]
  congr 2
  refine List.map_congr_left fun S hS => ?_
  have sub := subsets_sub hS
  show tag (S ++ [d]) (sv fee keep (nd.take e) (S ++ [d])) = shift _ _ (tag S (sv fee keep (nd.take d) S))
  rw [sv_snoc (a1.sub sub) (fun x hx => a2 x (sub.subset hx)) (by rw [List.length_take]; omega), List.take_take, Nat.min_eq_left (Nat.le_of_lt hd)]
  cases sv fee keep (nd.take d) S <;> rfl
/-- the program's: among the days that are told of -/
def bestBefore (fee keep : Nat) (nd : List Nat) (e : Nat) (best : List (Nat × Option (Nat × List Nat))) : Option (Nat × List Nat) :=
  if (nd.take e).sum = 0 then some (0, []) else best.foldl (fun told p => better told (shift (span fee keep ((nd.take e).drop p.1)) (fun S => S ++ [p.1]) p.2)) none
def bests (fee keep : Nat) (nd days : List Nat) : List (Nat × Option (Nat × List Nat)) := days.foldl (fun best d => best ++ [(d, bestBefore fee keep nd d best)]) []
def bestAlone (fee keep : Nat) (nd days : List Nat) : Option (Nat × List Nat) := bestBefore fee keep nd nd.length (bests fee keep nd days)
theorem bests_snoc (fee keep : Nat) (nd days : List Nat) (d : Nat) : bests fee keep nd (days ++ [d]) = bests fee keep nd days ++ [(d, bestBefore fee keep nd d (bests fee keep nd days))] := by
  unfold bests
  rw [List.foldl_append]
  rfl
theorem bestBefore_eq (fee keep : Nat) (nd : List Nat) : ∀ (ds : List Nat) (e : Nat), Asc ds → (∀ x ∈ ds, x < e) → e ≤ nd.length → bestBefore fee keep nd e (bests fee keep nd ds) = bb fee keep nd ds e := by
  intro ds
  induction ds using snoc_ind with
  | h0 =>
    intro e _ _ _
    rw [bb_nil]
    rfl
  | h1 ds d ih =>
    intro e ha hb he
    obtain ⟨a1, a2⟩ := asc_snoc.mp ha
    have hd : d < e := hb d (List.mem_append_right _ (.head _))
    have i1 := ih e a1 (fun x hx => Nat.lt_trans (a2 x hx) hd) he
    have i2 := ih d a1 a2 (by omega)
    rw [bb_snoc ha hd he, bests_snoc, i2, ← i1]
    unfold bestBefore
    by_cases h : (nd.take e).sum = 0
    · rw [if_pos h, if_pos h, better_zero]
    · rw [if_neg h, if_neg h, List.foldl_append]
      rfl
theorem bestAlone_eq {fee keep : Nat} {nd ds : List Nat} (ha : Asc ds) (hb : ∀ x ∈ ds, x < nd.length) : bestAlone fee keep nd ds = bb fee keep nd ds nd.length :=
  bestBefore_eq fee keep nd ds nd.length ha hb (Nat.le_refl _)
theorem bb_full (fee keep : Nat) (nd ds : List Nat) : bb fee keep nd ds nd.length = pick ((subsets ds).map fun S => tag S (sv fee keep nd S)) := by
  unfold bb
  rw [List.take_length]
theorem bb_mem {fee keep : Nat} {nd ds : List Nat} {c : Nat} {S : List Nat} (h : bb fee keep nd ds nd.length = some (c, S)) : S ∈ subsets ds ∧ sv fee keep nd S = some c := by
  rw [bb_full] at h
  have m := pick_mem h
  obtain ⟨T, hT, e⟩ := List.mem_map.mp m
  cases q : sv fee keep nd T with
  | none => rw [q] at e; cases e
  | some d =>
    rw [q] at e
    cases e
    exact ⟨hT, q⟩
theorem bb_le {fee keep : Nat} {nd ds : List Nat} {c : Nat} {S : List Nat} (hS : S ∈ subsets ds) (h : sv fee keep nd S = some c) : ∃ z, bb fee keep nd ds nd.length = some z ∧ z.1 ≤ c := by
  rw [bb_full]
  exact pick_le (z := (c, S)) (List.mem_map.mpr ⟨S, hS, by rw [h]; rfl⟩)
/-- where nothing is needed off these days, these days do -/
theorem sv_some (fee keep : Nat) : ∀ (S nd : List Nat), Asc S → (∀ x ∈ S, x < nd.length) → (∀ k, k < nd.length → k ∉ S → nd.getD k 0 = 0) → ∃ c, sv fee keep nd S = some c := by
  intro S
  induction S using snoc_ind with
  | h0 =>
    intro nd _ _ hz
    have : ∀ l : List Nat, (∀ k, k < l.length → l.getD k 0 = 0) → l.sum = 0 := by
      intro l
      induction l with
      | nil => intro _; rfl
      | cons a l ih =>
        intro h
        have h0 : a = 0 := h 0 (Nat.zero_lt_succ _)
        rw [List.sum_cons, h0, ih fun k hk => h (k + 1) (Nat.succ_lt_succ hk)]
    exact ⟨0, by rw [sv_nil, if_pos (this nd fun k hk => hz k hk (by simp))]⟩
  | h1 S d ih =>
    intro nd ha hb hz
    obtain ⟨a1, a2⟩ := asc_snoc.mp ha
    have hd : d < nd.length := hb d (List.mem_append_right _ (.head _))
    have hl : (nd.take d).length = d := by rw [List.length_take, Nat.min_eq_left (Nat.le_of_lt hd)]
    obtain ⟨c, hc⟩ := ih (nd.take d) a1 (fun x hx => by rw [hl]; exact a2 x hx) (fun k hk hn => by
      rw [hl] at hk
      have := hz k (by omega) (by
        rw [List.mem_append, List.mem_singleton]
        rintro (h | h)
        · exact hn h
        · omega)
      rw [List.getD_eq_getElem?_getD] at this ⊢
      rw [List.getElem?_take_of_lt hk]
      exact this)
    exact ⟨_, by rw [sv_snoc a1 a2 hd, hc]; rfl⟩

/-! ### the specification's folds -/
theorem sub_lt {n : Nat} {S : List Nat} (h : S ∈ subsets (List.range n)) : Asc S ∧ ∀ x ∈ S, x < n :=
  ⟨(asc_range n).sub (subsets_sub h), fun x hx => List.mem_range.mp ((subsets_sub h).subset hx)⟩
def tag2 (p : List Nat × List Nat) : Option Nat → Option (Nat × List Nat × List Nat)
  | none => none
  | some c => some (c, p.1, p.2)
theorem best_pick (a : Abs) : a.best = pick (a.plans.map fun p => tag2 p (a.cost p.1 p.2)) := by
  unfold Abs.best pick
  rw [List.foldl_map]
  congr 1
  funext b p
  cases a.cost p.1 p.2 with
  | none => exact (better_none b).symm
  | some c => cases b <;> rfl
/-- what the shop's bringing costs, and then the storehouse's best for it -/
def plan1 (a : Abs) (s : List Nat) : Option (Nat × List Nat × List Nat) := match lies 0 (covers a.needs s) a.needs with
  | none => none
  | some y => shift (a.down * times (covers a.needs s) + a.below * y.sum) (fun u => (covers (covers a.needs s) u, covers a.needs s)) (bb a.up a.above (covers a.needs s) s a.needs.length)
theorem pick_nones {a b : Type} : ∀ l : List a, pick (l.map fun _ => (none : Option (Nat × b))) = none
  | [] => rfl
  | _ :: l => by rw [List.map_cons, pick_cons, pick_nones l]; rfl
theorem best_eq (a : Abs) : a.best = pick ((subsets (List.range a.needs.length)).map (plan1 a)) := by
  rw [best_pick]
  unfold Abs.plans
  rw [List.map_flatMap, pick_flatMap]
  congr 1
  refine List.map_congr_left fun s hs => ?_
  rw [List.map_map]
  unfold plan1
  cases q : lies 0 (covers a.needs s) a.needs with
  | none =>
    show pick ((subsets s).map _) = none
    rw [show ((fun p : List Nat × List Nat => tag2 p (a.cost p.1 p.2)) ∘ fun u => (covers (covers a.needs s) u, covers a.needs s)) = fun _ => none from by
      funext u
      show tag2 _ (a.cost (covers (covers a.needs s) u) (covers a.needs s)) = none
      unfold Abs.cost
      rw [q]
      cases lies 0 (covers (covers a.needs s) u) (covers a.needs s) <;> rfl]
    exact pick_nones _
  | some y =>
    show _ = shift _ _ _
    rw [← covers_length a.needs s, bb_full, ← pick_shift, List.map_map]
    congr 1
    refine List.map_congr_left fun u hu => ?_
    show tag2 _ (a.cost (covers (covers a.needs s) u) (covers a.needs s)) = shift _ _ (tag u (sv a.up a.above (covers a.needs s) u))
    unfold Abs.cost sv
    rw [q]
    cases lies 0 (covers (covers a.needs s) u) (covers a.needs s) with
    | none => rfl
    | some x =>
      show some (_, _, _) = some (_, _, _)
      congr 2
      omega
theorem min_if (c v : Nat) : min c v = if v < c then v else c := by
  by_cases h : v < c
  · rw [if_pos h]; omega
  · rw [if_neg h]; omega
def fst? : Option (Nat × List Nat) → Option Nat
  | none => none
  | some z => some z.1
theorem alone_fold (fee keep : Nat) (nd : List Nat) : ∀ (l : List (List Nat)) (st : Option Nat) (x : Option (Nat × List Nat)), st = fst? x →
    l.foldl (fun b s => match lies 0 (covers nd s) nd with
      | none => b
      | some x => match b with
        | none => some (fee * times (covers nd s) + keep * x.sum)
        | some c => some (min c (fee * times (covers nd s) + keep * x.sum))) st = fst? ((l.map fun S => tag S (sv fee keep nd S)).foldl better x)
  | [], st, x, h => h
  | s :: l, st, x, h => by
    rw [List.foldl_cons, List.map_cons, List.foldl_cons]
    refine alone_fold fee keep nd l _ _ ?_
    subst h
    unfold sv
    cases lies 0 (covers nd s) nd with
    | none => show fst? x = fst? (better x none); rw [better_none]
    | some y =>
      cases x with
      | none => rfl
      | some z =>
        show some (min z.1 _) = fst? (if _ < z.1 then _ else _)
        rw [min_if]
        by_cases e : fee * times (covers nd s) + keep * y.sum < z.1
        · rw [if_pos e, if_pos e]; rfl
        · rw [if_neg e, if_neg e]; rfl
theorem alone_eq (fee keep : Nat) (nd : List Nat) : alone fee keep nd = (fst? (bb fee keep nd (List.range nd.length) nd.length)).getD 0 := by
  rw [bb_full]
  unfold alone
  exact congrArg (fun z : Option Nat => z.getD 0) (alone_fold fee keep nd (subsets (List.range nd.length)) none none rfl)
theorem bb_range_some (fee keep : Nat) (nd : List Nat) : ∃ c S, bb fee keep nd (List.range nd.length) nd.length = some (c, S) ∧ S ∈ subsets (List.range nd.length) ∧ sv fee keep nd S = some c := by
  obtain ⟨c, hc⟩ := sv_some fee keep (List.range nd.length) nd (asc_range _) (fun x hx => List.mem_range.mp hx) (fun k hk hn => absurd (List.mem_range.mpr hk) hn)
  obtain ⟨⟨d, S⟩, hz, _⟩ := bb_le (self_mem_subsets _) hc
  exact ⟨d, S, hz, bb_mem hz⟩
theorem alone_of {fee keep : Nat} {nd : List Nat} {z : Nat × List Nat} (h : bb fee keep nd (List.range nd.length) nd.length = some z) : alone fee keep nd = z.1 := by
  rw [alone_eq, h]
  rfl
def cov? (nd : List Nat) : Option (Nat × List Nat) → Option (List Nat)
  | none => none
  | some z => some (covers nd z.2)
theorem shop_fold (dn bl : Nat) (nd : List Nat) : ∀ (l : List (List Nat)) (st : Option (List Nat)) (x : Option (Nat × List Nat)), st = cov? nd x → (∀ z, x = some z → sv dn bl nd z.2 = some z.1) →
    l.foldl (fun b s => match lies 0 (covers nd s) nd with
      | none => b
      | some x => match b with
        | none => some (covers nd s)
        | some v => if dn * times (covers nd s) + bl * x.sum < dn * times v + bl * ((lies 0 v nd).getD []).sum then some (covers nd s) else some v) st = cov? nd ((l.map fun S => tag S (sv dn bl nd S)).foldl better x)
  | [], st, x, h, _ => h
  | s :: l, st, x, h, hx => by
    rw [List.foldl_cons, List.map_cons, List.foldl_cons]
    refine shop_fold dn bl nd l _ _ ?_ ?_
    · subst h
      cases q : lies 0 (covers nd s) nd with
      | none =>
        rw [show sv dn bl nd s = none from by unfold sv; rw [q]]
        show cov? nd x = cov? nd (better x none)
        rw [better_none]
      | some y =>
        rw [show sv dn bl nd s = some (dn * times (covers nd s) + bl * y.sum) from by unfold sv; rw [q]]
        cases x with
        | none => rfl
        | some z =>
          have e := hx z rfl
          have e2 : dn * times (covers nd z.2) + bl * ((lies 0 (covers nd z.2) nd).getD []).sum = z.1 := by
            unfold sv at e
            cases w : lies 0 (covers nd z.2) nd with
            | none => rw [w] at e; cases e
            | some v => rw [w] at e; exact Option.some.inj e
          show (if dn * times (covers nd s) + bl * y.sum < dn * times (covers nd z.2) + bl * ((lies 0 (covers nd z.2) nd).getD []).sum then some (covers nd s) else some (covers nd z.2)) = cov? nd (if _ < z.1 then _ else _)
          rw [e2]
          by_cases k : dn * times (covers nd s) + bl * y.sum < z.1
          · rw [if_pos k, if_pos k]; rfl
          · rw [if_neg k, if_neg k]; rfl
    · intro z hz
      rcases better_mem hz with e | e
      · exact hx z e
      · cases q : sv dn bl nd s with
        | none => rw [q] at e; cases e
        | some c =>
          rw [q] at e
          cases e
          exact q
theorem greedy_eq {a : Abs} {c : Nat} {S : List Nat} (h : bb a.down a.below a.needs (List.range a.needs.length) a.needs.length = some (c, S)) : a.greedy = c + alone a.up a.above (covers a.needs S) ∧ a.shopFirst = some (covers a.needs S) := by
  have e : a.shopFirst = some (covers a.needs S) := by
    unfold Abs.shopFirst
    have := shop_fold a.down a.below a.needs (subsets (List.range a.days)) none none rfl (by intro z hz; cases hz)
    refine Eq.trans this ?_
    have h2 := h
    rw [bb_full] at h2
    show cov? a.needs (pick ((subsets (List.range a.needs.length)).map fun S => tag S (sv a.down a.below a.needs S))) = _
    rw [h2]
    rfl
  refine ⟨?_, e⟩
  have hs := (bb_mem h).2
  unfold Abs.greedy
  rw [e]
  show a.down * times (covers a.needs S) + a.below * ((lies 0 (covers a.needs S) a.needs).getD []).sum + alone a.up a.above (covers a.needs S) = _
  unfold sv at hs
  cases w : lies 0 (covers a.needs S) a.needs with
  | none => rw [w] at hs; cases hs
  | some v =>
    rw [w] at hs
    have := Option.some.inj hs
    show a.down * times (covers a.needs S) + a.below * v.sum + _ = _
    rw [this]
theorem best_some (a : Abs) : ∃ z, a.best = some z := by
  obtain ⟨c, hc⟩ := sv_some a.down a.below (List.range a.needs.length) a.needs (asc_range _) (fun x hx => List.mem_range.mp hx) (fun k hk hn => absurd (List.mem_range.mpr hk) hn)
  have hb : ∃ d, sv a.up a.above (covers a.needs (List.range a.needs.length)) (List.range a.needs.length) = some d := by
    refine sv_some a.up a.above _ _ (asc_range _) (fun x hx => by rw [covers_length]; exact List.mem_range.mp hx) fun k hk hn => ?_
    exact covers_off hn
  obtain ⟨d, hd⟩ := hb
  obtain ⟨z, hz, _⟩ := bb_le (nd := covers a.needs (List.range a.needs.length)) (self_mem_subsets (List.range a.needs.length)) hd
  rw [covers_length] at hz
  cases q : lies 0 (covers a.needs (List.range a.needs.length)) a.needs with
  | none => unfold sv at hc; rw [q] at hc; cases hc
  | some y =>
    rw [best_eq]
    have : ∃ w, plan1 a (List.range a.needs.length) = some w := by
      unfold plan1
      rw [q, hz]
      exact ⟨_, rfl⟩
    obtain ⟨w, hw⟩ := this
    obtain ⟨u, hu, _⟩ := pick_le (l := (subsets (List.range a.needs.length)).map (plan1 a)) (List.mem_map.mpr ⟨_, self_mem_subsets _, hw⟩)
    exact ⟨u, hu⟩
end TS
end
section
set_option Elab.async false
set_option Elab.async false
set_option linter.all false
namespace TS
open Su88

/-! ### no plan costs less -/
theorem lies_iff : ∀ (cs gs : List Nat) (s : Nat), cs.length = gs.length → ((∃ x, lies s cs gs = some x) ↔ ∀ t, t ≤ cs.length → (gs.take t).sum ≤ s + (cs.take t).sum)
  | [], [], s, _ => ⟨fun _ t _ => by simp, fun _ => ⟨[], rfl⟩⟩
  | [], _ :: _, s, h => by cases h
  | _ :: _, [], s, h => by cases h
  | c :: cs, g :: gs, s, h => by
    have ih := lies_iff cs gs (s + c - g) (Nat.succ.inj h)
    have e : lies s (c :: cs) (g :: gs) = if s + c < g then none else (lies (s + c - g) cs gs).map fun r => (s + c - g) :: r := rfl
    rw [e]
    constructor
    · rintro ⟨x, hx⟩ t ht
      by_cases q : s + c < g
      · rw [if_pos q] at hx; cases hx
      · rw [if_neg q] at hx
        cases w : lies (s + c - g) cs gs with
        | none => rw [w] at hx; cases hx
        | some y =>
          have k := ih.mp ⟨y, w⟩
          cases t with
          | zero => simp
          | succ t =>
            have := k t (Nat.le_of_succ_le_succ ht)
            rw [List.take_succ_cons, List.take_succ_cons, List.sum_cons, List.sum_cons]
            omega
    · intro k
      have k1 := k 1 (Nat.succ_le_succ (Nat.zero_le _))
      have q : ¬ s + c < g := by
        simp at k1
        omega
      have : ∃ x, lies (s + c - g) cs gs = some x := ih.mpr fun t ht => by
        have := k (t + 1) (Nat.succ_le_succ ht)
        rw [List.take_succ_cons, List.take_succ_cons, List.sum_cons, List.sum_cons] at this
        omega
      obtain ⟨x, hx⟩ := this
      exact ⟨_, by rw [if_neg q, hx]; rfl⟩
/-- the running totals together -/
def acc : Nat → List Nat → Nat
  | _, [] => 0
  | s, a :: l => (s + a) + acc (s + a) l
theorem lies_acc : ∀ (cs gs : List Nat) (s g : Nat) (x : List Nat), cs.length = gs.length → lies s cs gs = some x → x.sum + acc g gs = acc (g + s) cs
  | [], [], s, g, x, _, h => by cases h; rfl
  | [], _ :: _, s, g, x, h, _ => by cases h
  | _ :: _, [], s, g, x, h, _ => by cases h
  | c :: cs, b :: gs, s, g, x, hl, h => by
    have e : lies s (c :: cs) (b :: gs) = if s + c < b then none else (lies (s + c - b) cs gs).map fun r => (s + c - b) :: r := rfl
    rw [e] at h
    by_cases q : s + c < b
    · rw [if_pos q] at h; cases h
    · rw [if_neg q] at h
      cases w : lies (s + c - b) cs gs with
      | none => rw [w] at h; cases h
      | some y =>
        rw [w] at h
        cases h
        have ih := lies_acc cs gs (s + c - b) (g + b) y (Nat.succ.inj hl) w
        have e2 : g + b + (s + c - b) = g + s + c := by omega
        rw [e2] at ih
        show ((s + c - b) :: y).sum + ((g + b) + acc (g + b) gs) = (g + s + c) + acc (g + s + c) cs
        rw [List.sum_cons, ← ih]
        omega
theorem acc_mono : ∀ (l r : List Nat) (s s' : Nat), l.length = r.length → (∀ t, t ≤ l.length → s + (l.take t).sum ≤ s' + (r.take t).sum) → acc s l ≤ acc s' r
  | [], [], _, _, _, _ => Nat.le_refl _
  | [], _ :: _, _, _, h, _ => by cases h
  | _ :: _, [], _, _, h, _ => by cases h
  | a :: l, b :: r, s, s', hl, h => by
    have h1 := h 1 (Nat.succ_le_succ (Nat.zero_le _))
    simp at h1
    have ih := acc_mono l r (s + a) (s' + b) (Nat.succ.inj hl) fun t ht => by
      have := h (t + 1) (Nat.succ_le_succ ht)
      rw [List.take_succ_cons, List.take_succ_cons, List.sum_cons, List.sum_cons] at this
      omega
    show s + a + acc (s + a) l ≤ s' + b + acc (s' + b) r
    omega
theorem take_mono (l : List Nat) {t u : Nat} (h : t ≤ u) : (l.take t).sum ≤ (l.take u).sum := by
  have := take_drop_sum (l.take u) t
  rw [List.take_take, Nat.min_eq_left h] at this
  omega
theorem times_take (l : List Nat) {t u : Nat} (h : t ≤ u) : times (l.take u) = times (l.take t) + times ((l.take u).drop t) := by
  conv => lhs; rw [← List.take_append_drop t (l.take u)]
  rw [times_append, List.take_take, Nat.min_eq_left h]
theorem times_zero : ∀ l : List Nat, times l = 0 → l.sum = 0
  | [], _ => rfl
  | a :: l, h => by
    rw [times_cons] at h
    by_cases q : a = 0
    · rw [if_pos q] at h
      rw [List.sum_cons, q, times_zero l (by omega)]
    · rw [if_neg q] at h
      omega
theorem take_flat : ∀ (l : List Nat) (t u : Nat), t ≤ u → (∀ k, t ≤ k → k < u → l.getD k 0 = 0) → (l.take u).sum = (l.take t).sum
  | [], t, u, _, _ => by simp
  | a :: l, t, u, h, hz => by
    match t, u, h with
    | 0, 0, _ => rfl
    | 0, u + 1, _ =>
      have h0 : a = 0 := hz 0 (Nat.le_refl _) (Nat.zero_lt_succ _)
      have ih := take_flat l 0 u (Nat.zero_le _) fun k _ hk => hz (k + 1) (Nat.zero_le _) (Nat.succ_lt_succ hk)
      rw [List.take_succ_cons, List.sum_cons, ih, h0]
      simp
    | t + 1, u + 1, h =>
      have ih := take_flat l t u (Nat.le_of_succ_le_succ h) fun k h1 h2 => hz (k + 1) (Nat.succ_le_succ h1) (Nat.succ_lt_succ h2)
      rw [List.take_succ_cons, List.take_succ_cons, List.sum_cons, List.sum_cons, ih]
def endOf (ds : List Nat) : Nat := match ds.getLast? with
  | none => 0
  | some d => d + 1
theorem endOf_snoc (ds : List Nat) (d : Nat) : endOf (ds ++ [d]) = d + 1 := by
  unfold endOf
  rw [List.getLast?_concat]
theorem endOf_range (n : Nat) : endOf (List.range n) = n := by
  cases n with
  | zero => rfl
  | succ n => rw [List.range_succ, endOf_snoc]
theorem endOf_le {ds : List Nat} {n : Nat} (h : ∀ x ∈ ds, x < n) : endOf ds ≤ n := by
  rcases snoc_cases ds with rfl | ⟨r, d, rfl⟩
  · exact Nat.zero_le _
  · rw [endOf_snoc]
    exact h d (List.mem_append_right _ (.head _))
theorem lt_endOf {ds : List Nat} (ha : Asc ds) {x : Nat} (hx : x ∈ ds) : x < endOf ds := by
  rcases snoc_cases ds with rfl | ⟨r, d, rfl⟩
  · cases hx
  · rw [endOf_snoc]
    rw [List.mem_append, List.mem_singleton] at hx
    rcases hx with h | h
    · exact Nat.lt_succ_of_lt ((asc_snoc.mp ha).2 x h)
    · omega
theorem later (nd o : List Nat) : ∀ (ds : List Nat) (e : Nat), Asc ds → (∀ x ∈ ds, x < e) → e ≤ nd.length → (∀ k, k < endOf ds → k ∉ ds → nd.getD k 0 = 0) →
    (∀ t, t ≤ endOf ds → (nd.take t).sum ≤ (o.take t).sum) → (nd.take e).sum ≤ (o.take (endOf ds)).sum →
    ∃ S, S ∈ subsets ds ∧ S.length ≤ times (o.take (endOf ds)) ∧ ∀ t, t ≤ e → (nd.take t).sum ≤ ((covers (nd.take e) S).take t).sum ∧ ((covers (nd.take e) S).take t).sum ≤ (o.take t).sum := by
  intro ds
  induction ds using snoc_ind with
  | h0 =>
    intro e _ _ he _ _ h
    refine ⟨[], .head _, Nat.zero_le _, fun t ht => ?_⟩
    have h0 : (nd.take e).sum = 0 := by
      have z : (o.take (endOf [])).sum = 0 := by
        show (o.take 0).sum = 0
        simp
      omega
    have := take_mono nd ht
    rw [covers_nil, List.take_replicate, sum_rep]
    omega
  | h1 ds d ih =>
    intro e ha hb he hz ht hE
    rw [endOf_snoc] at hz ht hE ⊢
    obtain ⟨a1, a2⟩ := asc_snoc.mp ha
    have hd : d < e := hb d (List.mem_append_right _ (.head _))
    have hp : endOf ds ≤ d := endOf_le a2
    have hT := times_take o (t := endOf ds) (u := d + 1) (by omega)
    have hz' : ∀ k, k < endOf ds → k ∉ ds → nd.getD k 0 = 0 := fun k hk hn => hz k (by omega) (by
      rw [List.mem_append, List.mem_singleton]
      rintro (h | h)
      · exact hn h
      · omega)
    by_cases c : times ((o.take (d + 1)).drop (endOf ds)) = 0
    · have e1 := times_zero _ c
      have e2 := take_drop_sum (o.take (d + 1)) (endOf ds)
      rw [List.take_take, Nat.min_eq_left (by omega : endOf ds ≤ d + 1)] at e2
      obtain ⟨S, m, l, q⟩ := ih e a1 (fun x hx => Nat.lt_trans (a2 x hx) hd) he hz' (fun t h => ht t (by omega)) (by omega)
      exact ⟨S, by rw [subsets_snoc]; exact List.mem_append_left _ m, by omega, q⟩
    · have hfl : (nd.take d).sum = (nd.take (endOf ds)).sum := take_flat nd _ _ hp fun k h1 h2 => hz k (by omega) (by
        rw [List.mem_append, List.mem_singleton]
        rintro (h | h)
        · have := lt_endOf a1 h; omega
        · omega)
      have hpp := ht (endOf ds) (by omega)
      obtain ⟨S, m, l, q⟩ := ih d a1 a2 (by omega) hz' (fun t h => ht t (by omega)) (by omega)
      have sub := subsets_sub m
      have hl : (nd.take d).length = d := by rw [List.length_take, Nat.min_eq_left (by omega)]
      have hS : ∀ x ∈ S, x < d := fun x hx => a2 x (sub.subset hx)
      have cs := covers_sum_le S (nd.take d) (a1.sub sub) (fun x hx => by rw [hl]; exact hS x hx)
      have cl : (covers (nd.take d) S).length = d := by rw [covers_length, hl]
      have qd := (q d (Nat.le_refl _)).1
      rw [List.take_of_length_le (Nat.le_of_eq cl)] at qd
      have ec : covers (nd.take e) (S ++ [d]) = covers (nd.take d) S ++ ((nd.take e).drop d).sum :: List.replicate ((nd.take e).length - d - 1) 0 := by
        rw [covers_snoc hS (by rw [List.length_take]; omega), List.take_take, Nat.min_eq_left (Nat.le_of_lt hd)]
      have tot := take_drop_sum (nd.take e) d
      rw [List.take_take, Nat.min_eq_left (Nat.le_of_lt hd)] at tot
      refine ⟨S ++ [d], by rw [subsets_snoc]; exact List.mem_append_right _ (List.mem_map.mpr ⟨S, m, rfl⟩), ?_, fun t h => ?_⟩
      · rw [List.length_append]
        show S.length + 1 ≤ _
        omega
      · rw [ec]
        by_cases hdt : t ≤ d
        · rw [List.take_append_of_le_length (by omega)]
          exact q t hdt
        · have e3 : ((covers (nd.take d) S ++ ((nd.take e).drop d).sum :: List.replicate ((nd.take e).length - d - 1) 0).take t).sum = (nd.take e).sum := by
            rw [List.take_append, List.take_of_length_le (by omega), List.sum_append, cl]
            obtain ⟨j, hj⟩ : ∃ j, t - d = j + 1 := ⟨t - d - 1, by omega⟩
            rw [hj, List.take_succ_cons, List.sum_cons, List.take_replicate, sum_rep]
            omega
          rw [e3]
          have m1 := take_mono nd h
          have m2 := take_mono o (t := d + 1) (u := t) (by omega)
          exact ⟨m1, by omega⟩
theorem times_take_le (l : List Nat) (t : Nat) : times (l.take t) ≤ times l := by
  have := times_append (l.take t) (l.drop t)
  rw [List.take_append_drop] at this
  omega
theorem no_less {a : Abs} {o b : List Nat} {c : Nat} (hk : a.above ≤ a.below) (ho : o.length = a.needs.length) (hb : b.length = a.needs.length) (h : a.cost o b = some c) : a.least ≤ c := by
  unfold Abs.cost at h
  cases ex : lies 0 o b with
  | none => rw [ex] at h; cases h
  | some x =>
  cases ey : lies 0 b a.needs with
  | none => rw [ex, ey] at h; cases h
  | some y =>
  rw [ex, ey] at h
  have hc := Option.some.inj h
  have fo := (lies_iff o b 0 (ho.trans hb.symm)).mp ⟨x, ex⟩
  have fb := (lies_iff b a.needs 0 hb).mp ⟨y, ey⟩
  obtain ⟨S, mS, lS, qS⟩ := later a.needs b (List.range a.needs.length) a.needs.length (asc_range _) (fun x hx => List.mem_range.mp hx) (Nat.le_refl _)
    (fun k hk hn => absurd (List.mem_range.mpr (by rw [endOf_range] at hk; exact hk)) hn)
    (fun t ht => by rw [endOf_range] at ht; have := fb t (by omega); omega)
    (by rw [endOf_range]; have := fb a.needs.length (by omega); omega)
  rw [List.take_length] at qS
  rw [endOf_range] at lS
  obtain ⟨aS, bS⟩ := sub_lt mS
  have cl : (covers a.needs S).length = a.needs.length := covers_length _ _
  have oB : ∀ t, t ≤ a.needs.length → ((covers a.needs S).take t).sum ≤ (o.take t).sum := fun t ht => by
    have h1 := (qS t ht).2
    have h2 := fo t (by omega)
    omega
  have eS := endOf_le bS
  obtain ⟨U, mU, lU, qU⟩ := later (covers a.needs S) o S a.needs.length aS bS (by omega) (fun k _ hn => covers_off hn) (fun t ht => oB t (by omega))
    (by
      have := take_flat (covers a.needs S) (endOf S) a.needs.length eS fun k h1 _ => covers_off fun hm => by
        have := lt_endOf aS hm
        omega
      rw [this]
      exact oB _ eS)
  rw [List.take_of_length_le (Nat.le_of_eq cl)] at qU
  have subU := subsets_sub mU
  have bU : ∀ x ∈ U, x < (covers a.needs S).length := fun x hx => by rw [cl]; exact bS x (subU.subset hx)
  have cl2 : (covers (covers a.needs S) U).length = a.needs.length := by rw [covers_length, cl]
  obtain ⟨x2, ex2⟩ := (lies_iff (covers (covers a.needs S) U) (covers a.needs S) 0 (by omega)).mpr fun t ht => by
    have := (qU t (by omega)).1
    omega
  obtain ⟨y2, ey2⟩ := (lies_iff (covers a.needs S) a.needs 0 (by omega)).mpr fun t ht => by
    have := (qS t (by omega)).1
    omega
  have t1 := covers_times_le U (covers a.needs S) (aS.sub subU) bU
  have t2 := covers_times_le S a.needs aS bS
  have t3 := times_take_le o (endOf S)
  have t4 := times_take_le b a.needs.length
  have k1 := lies_acc _ _ 0 0 _ (ho.trans hb.symm) ex
  have k2 := lies_acc _ _ 0 0 _ hb ey
  have k3 := lies_acc _ _ 0 0 _ (by omega) ex2
  have k4 := lies_acc _ _ 0 0 _ (by omega) ey2
  have g1 : acc (0 + 0) (covers (covers a.needs S) U) ≤ acc (0 + 0) o := acc_mono _ _ _ _ (by omega) fun t ht => by
    have := (qU t (by omega)).2
    omega
  have g2 : acc (0 + 0) (covers a.needs S) ≤ acc (0 + 0) b := acc_mono _ _ _ _ (by omega) fun t ht => by
    have := (qS t (by omega)).2
    omega
  have cost2 : a.cost (covers (covers a.needs S) U) (covers a.needs S) = some (a.up * times (covers (covers a.needs S) U) + a.down * times (covers a.needs S) + a.above * x2.sum + a.below * y2.sum) := by
    unfold Abs.cost
    rw [ex2, ey2]
  have le2 : a.up * times (covers (covers a.needs S) U) + a.down * times (covers a.needs S) + a.above * x2.sum + a.below * y2.sum ≤ c := by
    rw [← hc]
    have p1 := Nat.mul_le_mul_left a.up (Nat.le_trans t1 (Nat.le_trans lU t3))
    have p2 := Nat.mul_le_mul_left a.down (Nat.le_trans t2 (Nat.le_trans lS t4))
    have s1 : x2.sum + y2.sum ≤ x.sum + y.sum := by
      simp only [Nat.add_zero] at k1 k2 k3 k4 g1 g2
      omega
    have s2 : y2.sum ≤ y.sum := by
      simp only [Nat.add_zero] at k1 k2 k3 k4 g1 g2
      omega
    have p3 := Nat.mul_le_mul_left a.above s1
    have p4 := Nat.mul_le_mul_left (a.below - a.above) s2
    have b1 : a.below * y.sum = a.above * y.sum + (a.below - a.above) * y.sum := by rw [← Nat.add_mul]; congr 1; omega
    have b2 : a.below * y2.sum = a.above * y2.sum + (a.below - a.above) * y2.sum := by rw [← Nat.add_mul]; congr 1; omega
    rw [Nat.mul_add, Nat.mul_add] at p3
    omega
  have mem : (covers (covers a.needs S) U, covers a.needs S) ∈ a.plans := by
    unfold Abs.plans
    exact List.mem_flatMap.mpr ⟨S, mS, List.mem_map.mpr ⟨U, mU, rfl⟩⟩
  obtain ⟨u, hu, hle⟩ := pick_le (l := a.plans.map fun p => tag2 p (a.cost p.1 p.2)) (z := (_, _, _)) (List.mem_map.mpr ⟨_, mem, by rw [cost2]; rfl⟩)
  rw [← best_pick] at hu
  unfold Abs.least
  rw [hu]
  exact Nat.le_trans hle le2
theorem greedy_no_less {a : Abs} (hk : a.above ≤ a.below) : a.least ≤ a.greedy := by
  obtain ⟨c, S, hb, mS, hs⟩ := bb_range_some a.down a.below a.needs
  obtain ⟨c2, U, hb2, mU, hs2⟩ := bb_range_some a.up a.above (covers a.needs S)
  rw [(greedy_eq hb).1, alone_of hb2]
  have e : a.cost (covers (covers a.needs S) U) (covers a.needs S) = some (c + c2) := by
    unfold Abs.cost
    unfold sv at hs hs2
    cases w1 : lies 0 (covers a.needs S) a.needs with
    | none => rw [w1] at hs; cases hs
    | some y =>
      cases w2 : lies 0 (covers (covers a.needs S) U) (covers a.needs S) with
      | none => rw [w2] at hs2; cases hs2
      | some x =>
        rw [w1] at hs
        rw [w2] at hs2
        have h1 := Option.some.inj hs
        have h2 := Option.some.inj hs2
        show some _ = some _
        congr 1
        omega
  exact no_less hk (by rw [covers_length, covers_length]) (covers_length _ _) e
end TS
end
section
set_option Elab.async false
set_option Elab.async false
set_option linter.all false
namespace TS
open Su88
/-! ### a line of calls, one by one -/
/-- how many whole numbers a call has, where it has no row -/
def sizeOf (p : Nat) : Nat := if p = 0 then 5 else if p = 1 ∨ p = 2 ∨ p = 3 ∨ p = 10 ∨ p = 11 ∨ p = 12 then 2 else 0
def rowOf (p : Nat) : Prop := p = 6 ∨ p = 7 ∨ p = 16
instance (p : Nat) : Decidable (rowOf p) := by unfold rowOf; infer_instance
abbrev iv (l : List Nat) : List Int := l.map fun n : Nat => (n : Int)
def heads (cs : List (List (List Int))) : List (List Int) := cs.map fun c => (PySu88.whole c).headD []
/-- a call at a line's beginning, and what is behind it -/
structure One (l : List Int) (p : Nat) (gs : List Nat) (rest : List Int) : Prop where
  lt : p < 19
  row : rowOf p → l = (p : Int) :: (gs.length : Int) :: (iv gs ++ rest)
  plain : ¬ rowOf p → l = (p : Int) :: (iv gs ++ rest) ∧ gs.length = sizeOf p
theorem nats_of : ∀ {l : List Int}, (∀ x ∈ l, 0 ≤ x) → ∃ gs : List Nat, l = iv gs
  | [], _ => ⟨[], rfl⟩
  | x :: l, h => by
    obtain ⟨gs, e⟩ := nats_of (l := l) fun y hy => h y (.tail _ hy)
    have := h x (.head _)
    exact ⟨x.toNat :: gs, by rw [e]; show _ = ((x.toNat : Nat) : Int) :: iv gs; rw [Int.toNat_of_nonneg this]⟩
theorem within_nn {lo hi z : Int} (h : PyInside.within lo hi z = true) (hl : 0 ≤ lo) : 0 ≤ z := by
  unfold PyInside.within at h
  rw [Bool.and_eq_true] at h
  have := of_decide_eq_true h.1
  omega
theorem each2 {x y : Int} (h : PyInside.each [(0, 4294967295), (0, 4294967295)] [x, y] = true) : ∀ z ∈ [x, y], 0 ≤ z := by
  have h : (PyInside.within 0 4294967295 x && (PyInside.within 0 4294967295 y && true)) = true := h
  rw [Bool.and_eq_true, Bool.and_eq_true] at h
  intro z hz
  rw [List.mem_cons, List.mem_cons] at hz
  rcases hz with rfl | rfl | hz
  · exact within_nn h.1 (by omega)
  · exact within_nn h.2.1 (by omega)
  · cases hz
theorem each5 {a b c d e : Int} (h : PyInside.each [(0, 4294967295), (0, 4294967295), (0, 4294967295), (0, 4294967295), (0, 4294967295)] [a, b, c, d, e] = true) : ∀ z ∈ [a, b, c, d, e], 0 ≤ z := by
  have h : (PyInside.within 0 4294967295 a && (PyInside.within 0 4294967295 b && (PyInside.within 0 4294967295 c && (PyInside.within 0 4294967295 d && (PyInside.within 0 4294967295 e && true))))) = true := h
  simp only [Bool.and_eq_true] at h
  intro z hz
  simp only [List.mem_cons, List.not_mem_nil, or_false] at hz
  rcases hz with rfl | rfl | rfl | rfl | rfl
  · exact within_nn h.1 (by omega)
  · exact within_nn h.2.1 (by omega)
  · exact within_nn h.2.2.1 (by omega)
  · exact within_nn h.2.2.2.1 (by omega)
  · exact within_nn h.2.2.2.2.1 (by omega)
theorem lists1 {r : List Int} {m : Nat} (h : PyInside.lists [(0, 4294967295, 0, m)] [r] = true) : ∀ z ∈ r, 0 ≤ z := by
  have h : (decide (0 ≤ r.length) && decide (r.length ≤ m) && r.all (PyInside.within 0 4294967295) && true) = true := h
  simp only [Bool.and_eq_true] at h
  intro z hz
  exact within_nn (List.all_eq_true.mp h.1.2 z hz) (by omega)
theorem take2 {r : List Int} (h : ¬ r.length < 2) : ∃ x y s, r = x :: y :: s := by
  match r, h with
  | [], h => simp at h
  | [_], h => simp at h
  | x :: y :: s, _ => exact ⟨x, y, s, rfl⟩
theorem take5 {r : List Int} (h : ¬ r.length < 5) : ∃ a b c d e s, r = a :: b :: c :: d :: e :: s := by
  match r, h with
  | [], h => simp at h
  | [_], h => simp at h
  | [_, _], h => simp at h
  | [_, _, _], h => simp at h
  | [_, _, _, _], h => simp at h
  | a :: b :: c :: d :: e :: s, _ => exact ⟨a, b, c, d, e, s, rfl⟩
theorem shape_range {p : Int} {z : Nat × Nat} (h : PySu88.shape p = some z) : ∃ q : Nat, q < 19 ∧ p = (q : Int) := by
  unfold PySu88.shape at h
  by_cases h0 : 0 ≤ p ∧ p ≤ 18
  · exact ⟨p.toNat, by omega, by omega⟩
  · repeat rw [if_neg (by omega)] at h
    cases h
def Parsed (l : List Int) (cs : List (List (List Int))) (p : Nat) : Prop := ∃ (gs : List Nat) (rest : List Int) (f' : Nat) (cs' : List (List (List Int))), One l p gs rest ∧ PyFlat.calls PySu88.shape f' rest = some cs' ∧ PyInside.calls PySu88.bound cs' = true ∧ heads cs = ((p : Int) :: iv gs) :: heads cs'
theorem parse {f : Nat} {l : List Int} {cs : List (List (List Int))} (h : PyFlat.calls PySu88.shape f l = some cs) (hl : l ≠ []) (hi : PyInside.calls PySu88.bound cs = true) :
    ∃ p : Nat, Parsed l cs p := by
  match f, l, hl with
  | 0, _ :: _, _ => cases h
  | f + 1, p :: r, _ =>
    have h : (match PyFlat.call PySu88.shape (p :: r) with
      | none => none
      | some (c, t) => match PyFlat.calls PySu88.shape f t with
        | none => none
        | some cs => some (c :: cs)) = some cs := h
    cases hc : PyFlat.call PySu88.shape (p :: r) with
    | none => rw [hc] at h; cases h
    | some ct =>
    obtain ⟨c, t⟩ := ct
    rw [hc] at h
    have h : (match PyFlat.calls PySu88.shape f t with
        | none => none
        | some cs => some (c :: cs)) = some cs := h
    cases hr : PyFlat.calls PySu88.shape f t with
    | none => rw [hr] at h; cases h
    | some cs' =>
    rw [hr] at h
    have h := Option.some.inj h
    subst h
    have hi : (PyInside.call PySu88.bound c && PyInside.calls PySu88.bound cs') = true := hi
    rw [Bool.and_eq_true] at hi
    obtain ⟨hi1, hi2⟩ := hi
    have hc : (match PySu88.shape p with
      | none => none
      | some (n, k) => if r.length < n then none else match PyFlat.rows k (r.drop n) with
        | none => none
        | some (xs, t) => some ((p :: r.take n) :: xs, t)) = some (c, t) := hc
    cases hs : PySu88.shape p with
    | none => rw [hs] at hc; cases hc
    | some nk =>
    obtain ⟨q, hq, rfl⟩ := shape_range hs
    rw [hs] at hc
    refine ⟨q, ?_⟩
    have fin : ∀ (gs : List Nat), One ((q : Int) :: r) q gs t → heads (c :: cs') = ((q : Int) :: iv gs) :: heads cs' → Parsed ((q : Int) :: r) (c :: cs') q := fun gs h1 h2 => ⟨gs, t, f, cs', h1, hr, hi2, h2⟩
    -- no number at all
    have none0 : nk = (0, 0) → sizeOf q = 0 → ¬ rowOf q → PySu88.whole [[(q : Int)]] = [[(q : Int)]] → Parsed ((q : Int) :: r) (c :: cs') q := fun e h1 h2 h3 => by
      subst e
      have hc : some ([(q : Int) :: r.take 0], r.drop 0) = some (c, t) := hc
      have hc := Option.some.inj hc
      cases hc
      refine fin [] ⟨hq, fun z => absurd z h2, fun _ => ⟨rfl, h1.symm⟩⟩ ?_
      show (PySu88.whole [[(q : Int)]]).headD [] :: heads cs' = _
      rw [h3]
      rfl
    have none2 : nk = (2, 0) → sizeOf q = 2 → ¬ rowOf q → PySu88.bound (q : Int) = ([(0, 4294967295), (0, 4294967295)], []) → (∀ x y : Int, PySu88.whole [[(q : Int), x, y]] = [[(q : Int), x, y]]) → Parsed ((q : Int) :: r) (c :: cs') q := fun e h1 h2 h4 h3 => by
      subst e
      have hc : (if r.length < 2 then none else some ([(q : Int) :: r.take 2], r.drop 2)) = some (c, t) := hc
      by_cases hlt : r.length < 2
      · rw [if_pos hlt] at hc; cases hc
      · rw [if_neg hlt] at hc
        obtain ⟨x, y, s, rfl⟩ := take2 hlt
        have hc := Option.some.inj hc
        cases hc
        have hi1 : (PyInside.each (PySu88.bound (q : Int)).1 [x, y] && PyInside.lists (PySu88.bound (q : Int)).2 []) = true := hi1
        rw [h4, Bool.and_eq_true] at hi1
        obtain ⟨gs, eg⟩ := nats_of (each2 hi1.1)
        have hl : gs.length = 2 := by
          have := congrArg List.length eg
          rw [List.length_map] at this
          exact this.symm
        refine fin gs ⟨hq, fun z => absurd z h2, fun _ => ⟨?_, by rw [hl, h1]⟩⟩ ?_
        · rw [← eg]
          rfl
        · show (PySu88.whole [[(q : Int), x, y]]).headD [] :: heads cs' = _
          rw [h3, ← eg]
          rfl
    have row1 : nk = (0, 1) → rowOf q → ∀ m : Nat, PySu88.bound (q : Int) = ([], [(0, 4294967295, 0, m)]) → (∀ x : List Int, PySu88.whole [[(q : Int)], x] = [(q : Int) :: x]) → Parsed ((q : Int) :: r) (c :: cs') q := fun e h2 m h4 h3 => by
      subst e
      have hc : (match PyFlat.rows 1 r with
        | none => none
        | some (xs, t) => some (((q : Int) :: r.take 0) :: xs, t)) = some (c, t) := hc
      match r, hc with
      | [], hc => cases hc
      | n :: s, hc =>
        by_cases hn : 0 ≤ n ∧ n.toNat ≤ s.length
        · have e2 : PyFlat.rows 1 (n :: s) = some ([s.take n.toNat], s.drop n.toNat) := by
            show (match PyFlat.row (n :: s) with
              | none => none
              | some (x, s) => match PyFlat.rows 0 s with
                | none => none
                | some (xs, t) => some (x :: xs, t)) = _
            rw [show PyFlat.row (n :: s) = some (s.take n.toNat, s.drop n.toNat) from if_pos hn]
            rfl
          rw [e2] at hc
          have hc : some ([[(q : Int)], s.take n.toNat], s.drop n.toNat) = some (c, t) := hc
          have hc := Option.some.inj hc
          cases hc
          have hi1 : (PyInside.each (PySu88.bound (q : Int)).1 [] && PyInside.lists (PySu88.bound (q : Int)).2 [s.take n.toNat]) = true := hi1
          rw [h4, Bool.and_eq_true] at hi1
          obtain ⟨gs, eg⟩ := nats_of (lists1 hi1.2)
          have hl : gs.length = n.toNat := by
            have := congrArg List.length eg
            rw [List.length_map, List.length_take] at this
            omega
          refine fin gs ⟨hq, fun _ => ?_, fun z => absurd h2 z⟩ ?_
          · rw [← eg, List.take_append_drop, hl, Int.toNat_of_nonneg hn.1]
          · show (PySu88.whole [[(q : Int)], s.take n.toNat]).headD [] :: heads cs' = _
            rw [h3, ← eg]
            rfl
        · have e2 : PyFlat.rows 1 (n :: s) = none := by
            show (match PyFlat.row (n :: s) with
              | none => none
              | some (x, s) => match PyFlat.rows 0 s with
                | none => none
                | some (xs, t) => some (x :: xs, t)) = _
            rw [show PyFlat.row (n :: s) = none from if_neg hn]
          rw [e2] at hc
          cases hc
    have hqq : q = 0 ∨ q = 1 ∨ q = 2 ∨ q = 3 ∨ q = 4 ∨ q = 5 ∨ q = 6 ∨ q = 7 ∨ q = 8 ∨ q = 9 ∨ q = 10 ∨ q = 11 ∨ q = 12 ∨ q = 13 ∨ q = 14 ∨ q = 15 ∨ q = 16 ∨ q = 17 ∨ q = 18 := by omega
    rcases hqq with rfl | rfl | rfl | rfl | rfl | rfl | rfl | rfl | rfl | rfl | rfl | rfl | rfl | rfl | rfl | rfl | rfl | rfl | rfl
    · cases hs
      have hc : (if r.length < 5 then none else some ([(0 : Int) :: r.take 5], r.drop 5)) = some (c, t) := hc
      by_cases hlt : r.length < 5
      · rw [if_pos hlt] at hc; cases hc
      · rw [if_neg hlt] at hc
        obtain ⟨x0, x1, x2, x3, x4, s, rfl⟩ := take5 hlt
        have hc := Option.some.inj hc
        cases hc
        have hi1 : (PyInside.each [(0, 4294967295), (0, 4294967295), (0, 4294967295), (0, 4294967295), (0, 4294967295)] [x0, x1, x2, x3, x4] && true) = true := hi1
        rw [Bool.and_eq_true] at hi1
        obtain ⟨gs, eg⟩ := nats_of (each5 hi1.1)
        have hl : gs.length = 5 := by
          have := congrArg List.length eg
          rw [List.length_map] at this
          exact this.symm
        refine fin gs ⟨hq, fun z => absurd z (by decide), fun _ => ⟨?_, by rw [hl]; rfl⟩⟩ ?_
        · rw [← eg]
          rfl
        · show (PySu88.whole [[(0 : Int), x0, x1, x2, x3, x4]]).headD [] :: heads cs' = _
          rw [← eg]
          rfl
    all_goals first
      | exact none0 (Option.some.inj hs).symm rfl (by decide) rfl
      | exact none2 (Option.some.inj hs).symm rfl (by decide) rfl (fun _ _ => rfl)
      | exact row1 (Option.some.inj hs).symm (by decide) 20 rfl (fun _ => rfl)
      | exact row1 (Option.some.inj hs).symm (by decide) 10 rfl (fun _ => rfl)
theorem played_steps : ∀ (cs : List (List (List Int))) (s : Su88Neutral.S), PyFlat.played (fun s c => Su88Neutral.step s (c.headD [])) s (cs.map PySu88.whole) = Su88Neutral.steps s (heads cs)
  | [], _ => rfl
  | c :: cs, s => by
    show _ :: _ = _ :: _
    rw [played_steps cs]
    rfl
theorem asked_calls {l : List Int} (h : PySu88.answers_asked l = true) : ∃ f cs, PyFlat.calls PySu88.shape f l = some cs ∧ PyInside.calls PySu88.bound cs = true ∧ PySu88.answers l = PyFlat.told (Su88Neutral.steps none (heads cs)) ∧ (PySu88.answers l).length ≤ 10000000 := by
  unfold PySu88.answers_asked at h
  cases hc : PyFlat.calls PySu88.shape l.length l with
  | none => rw [hc] at h; cases h
  | some cs =>
    rw [hc] at h
    have h : (!cs.isEmpty && PyFlat.atMost 400 cs && PyInside.calls PySu88.bound cs && Su88Neutral.asked ((cs.map PySu88.whole).map fun c => c.headD []) && PyFlat.short 10000000 (PySu88.answers l)) = true := h
    simp only [Bool.and_eq_true] at h
    refine ⟨_, cs, hc, h.1.1.2, ?_, of_decide_eq_true h.2⟩
    unfold PySu88.answers PySu88.calls
    rw [hc]
    show PyFlat.told (PyFlat.played _ none (cs.map PySu88.whole)) = _
    rw [played_steps]

/-! ### what an object is -/
structure Good (a : Abs) : Prop where
  pos : 0 < a.needs.length
  days : a.needs.length ≤ 7
  needs : ∀ x ∈ a.needs, x ≤ 1000
  up : a.up ≤ 10000
  down : a.down ≤ 10000
  kp : a.above ≤ a.below
  below : a.below ≤ 100
def GoodS (s : Option Abs) : Prop := ∀ a, s = some a → Good a
theorem okF_iff {u d : Nat} : okF u d = true ↔ u ≤ 10000 ∧ d ≤ 10000 := by
  unfold okF
  rw [Bool.and_eq_true, decide_eq_true_iff, decide_eq_true_iff]
theorem okK_iff {a b : Nat} : okK a b = true ↔ a ≤ b ∧ b ≤ 100 := by
  unfold okK
  rw [Bool.and_eq_true, decide_eq_true_iff, decide_eq_true_iff]
end TS
end
section
set_option Elab.async false
set_option Elab.async false
set_option linter.all false
namespace TS
open Su88
theorem good_new {n u d x y : Nat} (h1 : n ≠ 0) (h2 : n ≤ 7) (h3 : okF u d = true) (h4 : okK x y = true) : Good (new n u d x y) := by
  obtain ⟨f1, f2⟩ := okF_iff.mp h3
  obtain ⟨k1, k2⟩ := okK_iff.mp h4
  refine ⟨?_, ?_, ?_, f1, f2, k1, k2⟩
  · show 0 < (List.replicate n 0).length
    rw [List.length_replicate]
    omega
  · show (List.replicate n 0).length ≤ 7
    rw [List.length_replicate]
    exact h2
  · intro z hz
    have : z ∈ List.replicate n 0 := hz
    rw [List.mem_replicate] at this
    omega
theorem begin_does (a : Abs) (n u d x y : Nat) : does a (.begin_ n u d x y) = if n = 0 ∨ 7 < n ∨ okF u d = false ∨ okK x y = false then (a, no (-22)) else (new n u d x y, no 0) := rfl
theorem good_does {a : Abs} (g : Good a) (c : Call) : Good (does a c).1 := by
  cases c with
  | begin_ n u d x y =>
    rw [begin_does]
    by_cases h : n = 0 ∨ 7 < n ∨ okF u d = false ∨ okK x y = false
    · rw [if_pos h]
      exact g
    · rw [if_neg h]
      exact good_new (fun z => h (.inl z)) (Nat.le_of_not_lt fun z => h (.inr (.inl z))) (eq_true_of_ne_false fun z => h (.inr (.inr (.inl z)))) (eq_true_of_ne_false fun z => h (.inr (.inr (.inr z))))
  | need t n =>
    show Good (if a.days ≤ t then (a, no (-2)) else if 1000 < n then (a, no (-22)) else ({ a with needs := a.needs.set t n }, num (a.need t) [])).1
    by_cases h1 : a.days ≤ t
    · rw [if_pos h1]; exact g
    · rw [if_neg h1]
      by_cases h2 : 1000 < n
      · rw [if_pos h2]; exact g
      · rw [if_neg h2]
        refine ⟨by show 0 < (a.needs.set t n).length; rw [List.length_set]; exact g.pos, by show (a.needs.set t n).length ≤ 7; rw [List.length_set]; exact g.days, fun x hx => ?_, g.up, g.down, g.kp, g.below⟩
        rcases List.mem_or_eq_of_mem_set hx with h | h
        · exact g.needs x h
        · omega
  | fees u d =>
    show Good (if okF u d = false then (a, no (-22)) else ({ a with up := u, down := d }, num a.up [a.down])).1
    by_cases h : okF u d = false
    · rw [if_pos h]; exact g
    · rw [if_neg h]
      obtain ⟨f1, f2⟩ := okF_iff.mp (eq_true_of_ne_false h)
      exact ⟨g.pos, g.days, g.needs, f1, f2, g.kp, g.below⟩
  | keeping x y =>
    show Good (if okK x y = false then (a, no (-22)) else ({ a with above := x, below := y }, num a.above [a.below])).1
    by_cases h : okK x y = false
    · rw [if_pos h]; exact g
    · rw [if_neg h]
      obtain ⟨f1, f2⟩ := okK_iff.mp (eq_true_of_ne_false h)
      exact ⟨g.pos, g.days, g.needs, g.up, g.down, f1, f2⟩
  | plan =>
    show Good (match a.best with | none => (a, no (-33)) | some x => (a, num x.1 (x.2.1 ++ x.2.2))).1
    cases a.best <;> exact g
  | cost l =>
    show Good (if a.okP l = false then (a, no (-22)) else (match a.cost (l.take a.days) (l.drop a.days) with | none => (a, no (-12)) | some c => (a, num c [c - a.least]))).1
    by_cases h : a.okP l = false
    · rw [if_pos h]; exact g
    · rw [if_neg h]; cases a.cost (l.take a.days) (l.drop a.days) <;> exact g
  | lies l =>
    show Good (if a.okP l = false then (a, no (-22)) else (match Su88.lies 0 (l.take a.days) (l.drop a.days), Su88.lies 0 (l.drop a.days) a.needs with | some x, some y => (a, num (x.sum + y.sum) (x ++ y)) | _, _ => (a, no (-12)))).1
    by_cases h : a.okP l = false
    · rw [if_pos h]; exact g
    · rw [if_neg h]; cases Su88.lies 0 (l.take a.days) (l.drop a.days) <;> cases Su88.lies 0 (l.drop a.days) a.needs <;> exact g
  | alone f k =>
    show Good (if 10000 < f ∨ 100 < k then (a, no (-22)) else (a, num (Su88.alone f k a.needs) [])).1
    split <;> exact g
  | would t n =>
    show Good (if a.days ≤ t then (a, no (-2)) else if 1000 < n then (a, no (-22)) else (a, num ({ a with needs := a.needs.set t n } : Abs).least [a.least])).1
    split
    · exact g
    · split <;> exact g
  | dear u d =>
    show Good (if okF u d = false then (a, no (-22)) else (a, num ({ a with up := u, down := d } : Abs).least [a.least])).1
    split <;> exact g
  | both =>
    show Good (match a.cost a.needs a.needs with | none => (a, no (-12)) | some c => (a, num c [])).1
    cases a.cost a.needs a.needs <;> exact g
  | daily =>
    show Good (match a.cost (covers a.needs [0]) a.needs with | none => (a, no (-12)) | some c => (a, num c [])).1
    cases a.cost (covers a.needs [0]) a.needs <;> exact g
  | once =>
    show Good (match a.cost (covers a.needs [0]) (covers a.needs [0]) with | none => (a, no (-12)) | some c => (a, num c [])).1
    cases a.cost (covers a.needs [0]) (covers a.needs [0]) <;> exact g
  | together l =>
    show Good (if l.length ≠ a.days ∨ l.any (fun n => decide (1000 < n)) = true then (a, no (-22)) else (a, num (a.plus l).least [a.least + (a.other l).least])).1
    split <;> exact g
  | _ => exact g
/-- begin, whatever there was -/
theorem begin_step (st : Option Abs) (n u d x y : Nat) : Su88.step st (.begin_ n u d x y) = if n = 0 ∨ 7 < n ∨ okF u d = false ∨ okK x y = false then (st, no (-22)) else (some (new n u d x y), no 0) := by
  cases st with
  | none =>
    show (if (does (new 1 0 0 0 0) (.begin_ n u d x y)).2.value < 0 then none else some (does (new 1 0 0 0 0) (.begin_ n u d x y)).1, (does (new 1 0 0 0 0) (.begin_ n u d x y)).2) = _
    rw [begin_does]
    by_cases h : n = 0 ∨ 7 < n ∨ okF u d = false ∨ okK x y = false
    · rw [if_pos h, if_pos h]; rfl
    · rw [if_neg h, if_neg h]; rfl
  | some a =>
    show (some (does a (.begin_ n u d x y)).1, (does a (.begin_ n u d x y)).2) = _
    rw [begin_does]
    by_cases h : n = 0 ∨ 7 < n ∨ okF u d = false ∨ okK x y = false
    · rw [if_pos h, if_pos h]
    · rw [if_neg h, if_neg h]
theorem good_step {st : Option Abs} (g : GoodS st) (c : Call) : GoodS (Su88.step st c).1 := by
  intro b hb
  cases st with
  | some a =>
    have : some (does a c).1 = some b := hb
    cases this
    exact good_does (g a rfl) c
  | none =>
    cases c with
    | begin_ n u d x y =>
      rw [begin_step] at hb
      by_cases h : n = 0 ∨ 7 < n ∨ okF u d = false ∨ okK x y = false
      · rw [if_pos h] at hb; cases hb
      · rw [if_neg h] at hb
        cases hb
        exact good_new (fun z => h (.inl z)) (Nat.le_of_not_lt fun z => h (.inr (.inl z))) (eq_true_of_ne_false fun z => h (.inr (.inr (.inl z)))) (eq_true_of_ne_false fun z => h (.inr (.inr (.inr z))))
    | _ => cases hb
theorem good_nstep {st : Option Abs} (g : GoodS st) (c : List Int) : GoodS (Su88Neutral.step st c).1 := by
  unfold Su88Neutral.step
  cases Su88Neutral.callOf c with
  | none => exact g
  | some x => exact good_step g x
theorem iv_toNat (gs : List Nat) : (iv gs).map Int.toNat = gs := by
  rw [List.map_map]
  conv => rhs; rw [← List.map_id gs]
  exact List.map_congr_left fun x _ => rfl
theorem len5 {gs : List Nat} (h : gs.length = 5) : ∃ a b c d e, gs = [a, b, c, d, e] := by
  match gs, h with
  | [a, b, c, d, e], _ => exact ⟨a, b, c, d, e, rfl⟩
theorem len2 {gs : List Nat} (h : gs.length = 2) : ∃ a b, gs = [a, b] := by
  match gs, h with
  | [a, b], _ => exact ⟨a, b, rfl⟩
theorem len0 {gs : List Nat} (h : gs.length = 0) : gs = [] := List.eq_nil_of_length_eq_zero h
/-- the number answered, and what else -/
def said (r : Option Abs × Ans) : Option Abs × List Int := (r.1, r.2.value :: Su88Neutral.outs r.2.out)
theorem step_said {st : Option Abs} {c : List Int} {x : Call} (h : Su88Neutral.callOf c = some x) : Su88Neutral.step st c = said (Su88.step st x) := by
  unfold Su88Neutral.step
  rw [h]
  rfl
theorem said_some (a : Abs) (c : Call) : said (Su88.step (some a) c) = (some (does a c).1, (does a c).2.value :: Su88Neutral.outs (does a c).2.out) := rfl
end TS
end
section
set_option Elab.async false
set_option Elab.async false
set_option linter.all false
namespace TS
open Su88
theorem iv_inj : ∀ {l r : List Nat}, iv l = iv r → l = r
  | [], [], _ => rfl
  | [], _ :: _, h => by cases h
  | _ :: _, [], h => by cases h
  | a :: l, b :: r, h => by
    have h : (a : Int) :: iv l = (b : Int) :: iv r := h
    injection h with h1 h2
    rw [iv_inj h2, Int.ofNat.inj h1]
theorem iv_append (l r : List Nat) : iv (l ++ r) = iv l ++ iv r := List.map_append
theorem iv_tail {ml gs : List Nat} {rest : List Int} (h : iv ml = iv gs ++ rest) : ∃ mr, rest = iv mr ∧ ml = gs ++ mr := by
  refine ⟨ml.drop gs.length, ?_, ?_⟩
  · have := congrArg (List.drop gs.length) h
    rw [iv, ← List.map_drop] at this
    exact ((this.trans (List.drop_left' (by rw [List.length_map]))).symm)
  · have := congrArg (List.take gs.length) h
    rw [List.take_left' (by rw [List.length_map]), iv, ← List.map_take] at this
    have := iv_inj this
    conv => lhs; rw [← List.take_append_drop gs.length ml, this]
/-- a call at a line's beginning, in natural numbers -/
structure OneN (l : List Nat) (p : Nat) (gs : List Nat) (rest : List Nat) : Prop where
  lt : p < 19
  row : rowOf p → l = p :: gs.length :: (gs ++ rest)
  plain : ¬ rowOf p → l = p :: (gs ++ rest) ∧ gs.length = sizeOf p
theorem parseN {f : Nat} {l : List Nat} {cs : List (List (List Int))} (h : PyFlat.calls PySu88.shape f (iv l) = some cs) (hl : l ≠ []) (hi : PyInside.calls PySu88.bound cs = true) :
    ∃ (p : Nat) (gs rest : List Nat) (f' : Nat) (cs' : List (List (List Int))), OneN l p gs rest ∧ PyFlat.calls PySu88.shape f' (iv rest) = some cs' ∧ PyInside.calls PySu88.bound cs' = true ∧ heads cs = ((p : Int) :: iv gs) :: heads cs' := by
  obtain ⟨p, gs, rest, f', cs', o, h1, h2, h3⟩ := parse h (by cases l with | nil => exact absurd rfl hl | cons a l => exact fun z => by cases z) hi
  by_cases hr : rowOf p
  · have e := o.row hr
    match l, hl with
    | a :: l, _ =>
      have e : (a : Int) :: iv l = (p : Int) :: (gs.length : Int) :: (iv gs ++ rest) := e
      injection e with e1 e2
      match l, e2 with
      | [], e2 => cases e2
      | b :: l, e2 =>
        have e2 : (b : Int) :: iv l = (gs.length : Int) :: (iv gs ++ rest) := e2
        injection e2 with e3 e4
        obtain ⟨mr, rfl, rfl⟩ := iv_tail e4
        have e1 := Int.ofNat.inj e1
        have e3 := Int.ofNat.inj e3
        subst e1 e3
        exact ⟨a, gs, mr, f', cs', ⟨o.lt, fun _ => rfl, fun z => absurd hr z⟩, h1, h2, h3⟩
  · obtain ⟨e, es⟩ := o.plain hr
    match l, hl with
    | a :: l, _ =>
      have e : (a : Int) :: iv l = (p : Int) :: (iv gs ++ rest) := e
      injection e with e1 e2
      obtain ⟨mr, rfl, rfl⟩ := iv_tail e2
      have e1 := Int.ofNat.inj e1
      subst e1
      exact ⟨a, gs, mr, f', cs', ⟨o.lt, fun z => absurd z hr, fun _ => ⟨rfl, es⟩⟩, h1, h2, h3⟩
theorem told_cons (x : List Int) (r : List (List Int)) : PyFlat.told (x :: r) = (x.length : Int) :: x ++ PyFlat.told r := rfl
theorem steps_cons (st : Option Abs) (c : List Int) (l : List (List Int)) : Su88Neutral.steps st (c :: l) = (Su88Neutral.step st c).2 :: Su88Neutral.steps (Su88Neutral.step st c).1 l := rfl
/-- before a begin that answers 0 -/
theorem none_step {p : Nat} {gs : List Nat} (hp : p < 19) (h0 : p ≠ 0) (hs : ¬ rowOf p → gs.length = sizeOf p) : Su88Neutral.step none ((p : Int) :: iv gs) = (none, [-11]) := by
  have hqq : p = 1 ∨ p = 2 ∨ p = 3 ∨ p = 4 ∨ p = 5 ∨ p = 6 ∨ p = 7 ∨ p = 8 ∨ p = 9 ∨ p = 10 ∨ p = 11 ∨ p = 12 ∨ p = 13 ∨ p = 14 ∨ p = 15 ∨ p = 16 ∨ p = 17 ∨ p = 18 := by omega
  rcases hqq with rfl | rfl | rfl | rfl | rfl | rfl | rfl | rfl | rfl | rfl | rfl | rfl | rfl | rfl | rfl | rfl | rfl | rfl
  all_goals first
    | rfl
    | (obtain ⟨a, b, rfl⟩ := len2 (hs (by decide)); rfl)
    | (obtain rfl := len0 (hs (by decide)); rfl)
end TS
end
section
set_option Elab.async false
set_option Elab.async false
set_option linter.all false
namespace TS
open Su88
/-! ### both, daily, once -/
theorem lies_self : ∀ l : List Nat, lies 0 l l = some (List.replicate l.length 0)
  | [] => rfl
  | c :: l => by
    show (if 0 + c < c then none else (lies (0 + c - c) l l).map fun r => (0 + c - c) :: r) = _
    rw [if_neg (by omega), show 0 + c - c = 0 by omega, lies_self l]
    rfl
theorem covers_first {nd : List Nat} (h : 0 < nd.length) : covers nd [0] = nd.sum :: List.replicate (nd.length - 1) 0 := by
  have := covers_snoc (nd := nd) (S := []) (d := 0) (fun x hx => by cases hx) h
  rw [List.nil_append, List.drop_zero, List.take_zero] at this
  rw [this]
  rfl
theorem lies_first {nd : List Nat} (h : 0 < nd.length) : ∃ x, lies 0 (covers nd [0]) nd = some x ∧ x.sum = nf 0 nd := by
  rw [covers_first h]
  exact lies_seg nd h
theorem both_cost (a : Abs) : a.cost a.needs a.needs = some (a.up * times a.needs + a.down * times a.needs) := by
  unfold Abs.cost
  rw [lies_self]
  show some (_ + a.above * (List.replicate a.needs.length 0).sum + a.below * (List.replicate a.needs.length 0).sum) = _
  rw [sum_rep, Nat.mul_zero, Nat.mul_zero]
  rfl
theorem daily_cost {a : Abs} (h : 0 < a.needs.length) : a.cost (covers a.needs [0]) a.needs = some (a.up * times (covers a.needs [0]) + a.down * times a.needs + a.above * nf 0 a.needs) := by
  obtain ⟨x, hx, hs⟩ := lies_first h
  unfold Abs.cost
  rw [hx, lies_self]
  show some (_ + a.above * x.sum + a.below * (List.replicate a.needs.length 0).sum) = _
  rw [sum_rep, hs, Nat.mul_zero]
  rfl
theorem once_cost {a : Abs} (h : 0 < a.needs.length) : a.cost (covers a.needs [0]) (covers a.needs [0]) = some (a.up * times (covers a.needs [0]) + a.down * times (covers a.needs [0]) + a.below * nf 0 a.needs) := by
  obtain ⟨x, hx, hs⟩ := lies_first h
  unfold Abs.cost
  rw [hx, lies_self]
  show some (_ + a.above * (List.replicate (covers a.needs [0]).length 0).sum + a.below * x.sum) = _
  rw [sum_rep, hs, Nat.mul_zero]
  rfl
theorem times_first {nd : List Nat} (h : 0 < nd.length) : times (covers nd [0]) = if nd.sum = 0 then 0 else 1 := by
  rw [covers_first h, times_cons, times_rep]
  split <;> rfl
/-- with other needs, fees: still fits -/
theorem plus_needs (a : Abs) (l : List Nat) (h : l.length = a.needs.length) : (a.plus l).needs = List.zipWith (· + ·) a.needs l := by
  refine List.ext_getElem? fun i => ?_
  show ((List.range a.needs.length).map fun t => a.need t + l.getD t 0)[i]? = _
  rw [List.getElem?_map, List.getElem?_zipWith]
  by_cases hi : i < a.needs.length
  · rw [List.getElem?_range hi, List.getElem?_eq_getElem hi, List.getElem?_eq_getElem (by omega : i < l.length)]
    show some (a.needs.getD i 0 + l.getD i 0) = some (a.needs[i] + l[i])
    rw [List.getD_eq_getElem?_getD, List.getElem?_eq_getElem hi, List.getD_eq_getElem?_getD, List.getElem?_eq_getElem (by omega : i < l.length)]
    rfl
  · rw [List.getElem?_eq_none (by rw [List.length_range]; omega), List.getElem?_eq_none (by omega : a.needs.length ≤ i)]
    rfl
theorem other_needs (a : Abs) (l : List Nat) (h : l.length = a.needs.length) : (a.other l).needs = l := by
  refine List.ext_getElem? fun i => ?_
  show ((List.range a.needs.length).map fun t => l.getD t 0)[i]? = _
  rw [List.getElem?_map]
  by_cases hi : i < a.needs.length
  · rw [List.getElem?_range hi, List.getElem?_eq_getElem (by omega : i < l.length)]
    show some (l.getD i 0) = _
    rw [List.getD_eq_getElem?_getD, List.getElem?_eq_getElem (by omega : i < l.length)]
    rfl
  · rw [List.getElem?_eq_none (by rw [List.length_range]; omega), List.getElem?_eq_none (by omega : l.length ≤ i)]
    rfl
end TS
end
section
set_option Elab.async false
set_option Elab.async false
set_option linter.all false
set_option maxRecDepth 100000
set_option maxHeartbeats 2000000
namespace TS
open PySem PySem.Spec PyProof.Rows L2

/-! ### the text by places -/
def top (i : Nat) : Stmt := PySem.Challenge.pw_twostores_s01_answers.main.body.getD i (.Pass ⟨0, 0, 0, 0⟩)

/-! ### lists of whole numbers -/
abbrev nv (l : List Nat) : List V := l.map fun n : Nat => V.int (n : Int)
theorem nv_length (l : List Nat) : (nv l).length = l.length := List.length_map _
theorem nv_at {l : List Nat} {i : Nat} {x : V} (h : (nv l)[i]? = some x) : ∃ n, l[i]? = some n ∧ x = V.int (n : Int) := by
  rw [List.getElem?_map] at h
  cases e : l[i]? with
  | none => rw [e] at h; cases h
  | some n => rw [e] at h; exact ⟨n, rfl, (Option.some.inj h).symm⟩
theorem nv_get {l : List Nat} {i n : Nat} (h : l[i]? = some n) : (nv l)[i]? = some (V.int (n : Int)) := by
  rw [List.getElem?_map, h]
  rfl
theorem nv_ints (l : List Nat) : nv l = (l.map fun n : Nat => (n : Int)).map V.int := by rw [List.map_map]; rfl
theorem isum (l : List Nat) : (l.map fun n : Nat => (n : Int)).sum = (l.sum : Int) := by
  induction l with
  | nil => rfl
  | cons a l ih => rw [List.map_cons, List.sum_cons, ih, List.sum_cons]; omega
theorem drop_at {l : List Nat} {i n : Nat} (h : l[i]? = some n) : l.drop i = n :: l.drop (i + 1) := by
  obtain ⟨h1, h2⟩ := List.getElem?_eq_some_iff.mp h
  rw [List.drop_eq_getElem_cons h1, h2]
theorem _root_.L2.Same.new {H H' : Hp} {p : Addr} {o : HO} (e : Same H H') (h : H' p = none) : Same H (upd H' p o) := fun b u q => by
  rw [upd_ne (ne_of_none (e b u q) h)]
  exact e b u q
/-- a young object changed -/
theorem _root_.L2.Same.chg {H H' : Hp} {p : Addr} {o : HO} (e : Same H H') (h : H p = none) : Same H (upd H' p o) := fun b u q => by
  rw [upd_ne (ne_of_none q h)]
  exact e b u q
theorem _root_.L2.Same.tup {K : PySem.W.Frag} {H H' : Hp} {a : Addr} {xs : List V} (e : Same H H') (h : SqT K H a xs) : SqT K H' a xs := by
  rcases h with (h | ⟨o, h⟩) | h
  · exact .inl (.inl (e _ _ h))
  · exact .inl (.inr ⟨o, e _ _ h⟩)
  · exact .inr h
theorem sz {n : Nat} (h : n ≤ 100000) : n ≤ sizeLine := Nat.le_trans h (by decide)
theorem szl {n : Nat} (h : n ≤ 100000) : n < sizeLine := Nat.lt_of_le_of_lt h (by decide)

theorem iteD {c A B : Prop} [Decidable c] (h1 : c → A) (h2 : ¬ c → B) : if decide c = true then A else B := by
  by_cases h : c
  · rw [if_pos (decide_eq_true h)]
    exact h1 h
  · rw [if_neg (fun z => h (of_decide_eq_true z))]
    exact h2 h

/-! ### a walk over two lists of one length -/
theorem for_zip {K : PySem.W.Frag} {a b : Addr} {xs ys : List V} {g : TG} {tb : TS} {D : Ends} {σ : L2.St} {H : Hp} (hlen : xs.length ≤ ys.length) (Pv : Nat → L2.St → Hp → Prop) (h0 : Pv 0 σ H) (hl : ∀ i σ H, i ≤ xs.length → Pv i σ H → SqL K H a xs ∧ SqL K H b ys)
    (hs : ∀ i x y T σ H, xs[i]? = some x → ys[i]? = some y → Pv i σ H → H T = none → g (.ref T) σ (upd H T (.tup [x, y])) fun σ2 H2 => tb { D with nx := Pv (i + 1), ct := Pv (i + 1), bk := D.nx } σ2 H2) (hd : ∀ σ H, Pv xs.length σ H → D.nx σ H) :
    ∃ W : Nat → Nat → L2.St → Hp → Prop, (∃ m, W 0 m σ H) ∧ ∀ i m σ H, W i m σ H →
      ((Itz K a b).stop i H ∧ D.nx σ H) ∨ ((Itz K a b).go i H ∧ ∃ N : L2.St → Hp → Prop, (∀ σ' H', N σ' H' → ∃ m', m' < m ∧ W (i + 1) m' σ' H') ∧ ∀ x H', (Itz K a b).yld i H x H' → g x σ H' fun σ2 H2 => tb { D with nx := N, ct := N, bk := D.nx } σ2 H2) := by
  refine ⟨fun i m σ H => m = xs.length - i ∧ i ≤ xs.length ∧ Pv i σ H, ⟨_, rfl, Nat.zero_le _, h0⟩, ?_⟩
  rintro i m σ H ⟨rfl, hi, p⟩
  obtain ⟨q1, q2⟩ := hl i σ H hi p
  by_cases hlt : i < xs.length
  · have e1 : xs[i]? = some xs[i] := List.getElem?_eq_getElem hlt
    have hlt2 : i < ys.length := by omega
    have e2 : ys[i]? = some ys[i] := List.getElem?_eq_getElem hlt2
    refine .inr ⟨⟨xs, ys, _, _, q1, q2, e1, e2⟩, Pv (i + 1), fun σ' H' p' => ⟨xs.length - (i + 1), by omega, rfl, hlt, p'⟩, ?_⟩
    rintro v H' ⟨T, x, y, rfl, hT, rfl, y1, y2⟩
    exact hs i x y T σ H (y1 xs q1) (y2 ys q2) p hT
  · have e : i = xs.length := by omega
    subst e
    exact .inl ⟨⟨xs, ys, q1, q2, .inl (Nat.le_refl _)⟩, hd σ H p⟩
end TS
end
section
set_option Elab.async false
set_option Elab.async false
set_option linter.all false
set_option maxRecDepth 100000
set_option maxHeartbeats 2000000
namespace TS
open PySem PySem.Spec PyProof.Rows L2
/-- Python's own names that the text has left alone -/
structure Own (mg : Str → Option Value) : Prop where
  len : mg "len" = none
  zip : mg "zip" = none
  sum : mg "sum" = none
  range : mg "range" = none
  list : mg "list" = none
  any : mg "any" = none
section
variable {P : Program} {w : World} {K : PySem.W.Frag} {mg : Str → Option Value} {base : Heap}
/-! ### left_behind -/
abbrev sLeft : Stmt := top 2
def spLeft (K : PySem.W.Frag) : Sp := fun vs H Q _ => ∃ (a b : Addr) (cs gs : List Nat), vs = [.ref a, .ref b] ∧ SqL K H a (nv cs) ∧ SqL K H b (nv gs) ∧ cs.length = gs.length ∧ cs.length ≤ 100 ∧
  (Su88.lies 0 cs gs = none → ∀ H', Same H H' → Q .non H') ∧ ∀ x, Su88.lies 0 cs gs = some x → ∀ (H' : Hp) (p : Addr), Same H H' → H p = none → H' p = some (.lst (nv x)) → Q (.ref p) H'
theorem lies_step (s c g : Nat) (cs gs : List Nat) : Su88.lies s (c :: cs) (g :: gs) = if s + c < g then none else (Su88.lies (s + c - g) cs gs).map fun r => (s + c - g) :: r := rfl
theorem scLeft : FnScope ["came", "went", "lying", "behind", "more", "less"] ["came", "went"] (defScope sLeft) := ⟨rfl, rfl, rfl, by decide +kernel, rfl, by decide +kernel, by decide +kernel⟩
theorem ok_left {f : Addr} {fd : FuncData} (F : Fun K "left_behind" "left_behind" sLeft f fd) (O : Own mg) : FnOk P w K mg base CX0 1 f fd ["came", "went"] (spLeft K) := by
  refine F.ok scLeft (fun vs H Q E h => ?_) (fun cdv A outer s H vs Q E hr h => ?_)
  · obtain ⟨a, b, cs, gs, rfl, _⟩ := h
    rfl
  · obtain ⟨a, b, cs, gs, rfl, ha, hb, hlen, hz, kN, kS⟩ := h
    have nd := scLeft.nd
    refine ⟨_, pss_cons (ps_set (i := 2) nd rfl (Or.inl rfl) pe_int)
      (pss_cons (ps_set (i := 3) nd rfl (Or.inl rfl) (pe_lst pa_nil))
      (pss_cons (ps_for PassesOwn.never rfl (pi_zip rfl O.zip (pa_cons (pv 0) (pa_cons (pv 1) pa_nil))) (pg_tup rfl (pgs_cons (pg_name (i := 4) nd rfl (Or.inl rfl)) (pgs_cons (pg_name (i := 5) nd rfl (Or.inl rfl)) pgs_nil)))
        (pss_cons (ps_set (i := 2) nd rfl (Or.inl rfl) (pe_op op_sub (pe_op op_add (pv 2) (pv 4)) (pv 5)))
        (pss_cons (ps_if (pt_cmpR op_lt (pv 2) pe_int (nomark _)) (pss_one (ps_ret pe_non)) pss_nil)
        (pss_one (ps_expr (pe_bm PySem.F.plainAttrs_list PySem.F.slot_list_append PySem.F.type_list_append mt_append (pv 3) (pa_cons (pv 2) pa_nil)))))))
      (pss_one (ps_ret (pv 3))))), ?_⟩
    refine ⟨Nat.zero_le _, fun q hq => ?_⟩
    have s0 : Same H (upd H q (.lst [])) := Same.new (.refl H) hq
    refine ⟨_, rfl, _, rfl, a, b, _, _, rfl, s0.seq ha, s0.seq hb, for_zip (K := K) (a := a) (b := b) (xs := nv cs) (ys := nv gs) (by rw [nv_length, nv_length]; exact Nat.le_of_eq hlen)
      (fun i σ H' => ∃ (lying : Nat) (done : List Nat) (m l : Option V), σ = [some (.ref a), some (.ref b), some (.int (lying : Int)), some (.ref q), m, l] ∧ Same H H' ∧ H' q = some (.lst (nv done)) ∧ done.length = i ∧ i ≤ cs.length ∧
        Su88.lies 0 cs gs = (Su88.lies lying (cs.drop i) (gs.drop i)).map fun r => done ++ r)
      ⟨0, [], none, none, rfl, s0, upd_same, rfl, Nat.zero_le _, by show _ = (Su88.lies 0 cs gs).map _; cases Su88.lies 0 cs gs <;> rfl⟩ (fun i σ H' _ ⟨_, _, _, _, _, s5, _⟩ => ⟨s5.seq ha, s5.seq hb⟩) ?_ ?_⟩
    · rintro i x y Tp σ H' hx hy ⟨lying, done, m, l, rfl, s5, hd, hdl, hi, hL⟩ hT
      obtain ⟨c, hc, rfl⟩ := nv_at hx
      obtain ⟨g, hg, rfl⟩ := nv_at hy
      rw [drop_at hc, drop_at hg, lies_step] at hL
      have ht : Same H (upd H' Tp (.tup [V.int (c : Int), V.int (g : Int)])) := s5.new hT
      have nq : q ≠ Tp := ne_of_none hd hT
      refine ⟨Tp, _, rfl, SqT.of upd_same, rfl, _, _, rfl, _, _, rfl, rfl, _, rfl, _, rfl, _, _, rfl, rfl, _, rfl, _, _, rfl, rfl, _, rfl, _, _, rfl, rfl, _, rfl, ?_⟩
      refine iteD (fun hneg => ?_) (fun hpos => ?_)
      · rw [if_pos (by omega)] at hL
        exact kN hL _ ht
      · rw [if_neg (by omega)] at hL
        refine ⟨_, rfl, .inl ⟨rfl, _, SqL.of (by rw [upd_ne nq]; exact hd)⟩, _, rfl, q, _, _, rfl, rfl, (by rw [upd_ne nq]; exact hd), (by rw [nv_length]; exact szl (by omega)), ?_⟩
        have e3 : ((lying : Int) + (c : Int) - (g : Int)) = ((lying + c - g : Nat) : Int) := by omega
        refine ⟨lying + c - g, done ++ [lying + c - g], _, _, by rw [← e3]; rfl, ht.chg hq, by rw [upd_same, nv, nv, List.map_append]; show some (HO.lst (_ ++ [V.int ((lying : Int) + (c : Int) - (g : Int))])) = _; rw [e3]; rfl, by rw [List.length_append, hdl]; rfl, ?_, ?_⟩
        · obtain ⟨h1, _⟩ := List.getElem?_eq_some_iff.mp hc
          exact h1
        · rw [hL, Option.map_map]
          congr 1
          funext r
          show done ++ (_ :: r) = done ++ [_] ++ r
          rw [List.append_assoc]
          rfl
    · rintro σ H' ⟨lying, done, m, l, rfl, s5, hd, hdl, hi, hL⟩
      refine ⟨_, rfl, ?_⟩
      rw [nv_length] at hL
      have e1 : cs.drop cs.length = [] := List.drop_length
      rw [e1] at hL
      have e2 : Su88.lies lying [] (gs.drop cs.length) = some [] := by cases gs.drop cs.length <;> rfl
      rw [e2] at hL
      exact kS done (by rw [hL]; show some (done ++ []) = _; rw [List.append_nil]) H' q s5 hq hd
end
end TS
end
section
set_option Elab.async false
set_option Elab.async false
set_option linter.all false
set_option maxRecDepth 100000
set_option maxHeartbeats 2000000
namespace TS
open PySem PySem.Spec PyProof.Rows L2
/-! ### slices -/
theorem cut_mid (l : List Nat) (d e : Nat) : cutV (nv l) (some (d : Int)) (some (e : Int)) = nv ((l.take e).drop d) := by
  unfold cutV
  rw [HT.sIx_nat, HT.sIx_nat, nv_length]
  rw [nv, nv, ← List.map_drop, ← List.map_take]
  congr 1
  refine List.ext_getElem? fun k => ?_
  rw [List.getElem?_take, List.getElem?_drop, List.getElem?_drop, List.getElem?_take]
  by_cases h : d + k < l.length
  · by_cases h2 : d + k < e
    · rw [if_pos (by omega), if_pos h2]
      congr 1
      omega
    · rw [if_neg (by omega), if_neg h2]
  · have e1 : l[d + k]? = none := List.getElem?_eq_none (by omega)
    rw [e1]
    by_cases h3 : k < min e l.length - min d l.length
    · rw [if_pos h3, List.getElem?_eq_none (by omega)]
      split <;> rfl
    · rw [if_neg h3]
      split <;> rfl
theorem cut_to (l : List Nat) (e : Nat) : cutV (nv l) none (some (e : Int)) = nv (l.take e) := by
  have := cut_mid l 0 e
  rw [List.drop_zero] at this
  rw [← this]
  unfold cutV
  rw [HT.sIx_nat, HT.sIx_nat]
  rfl
theorem cut_from (l : List Nat) (d : Nat) : cutV (nv l) (some (d : Int)) none = nv (l.drop d) := by
  have := cut_mid l d l.length
  rw [List.take_length] at this
  rw [← this]
  unfold cutV
  rw [HT.sIx_nat, HT.sIx_nat, nv_length, HT.sIx_none, Nat.min_self]
theorem nv_append (l r : List Nat) : nv (l ++ r) = nv l ++ nv r := by rw [nv, List.map_append]
section
variable {P : Program} {w : World} {K : PySem.W.Frag} {mg : Str → Option Value} {base : Heap}
/-! ### store_cost -/
abbrev sStore : Stmt := top 3
def spStore (K : PySem.W.Frag) : Sp := fun vs H Q _ => ∃ (fee keep : Nat) (a b : Addr) (cs bs : List Nat), vs = [.int (fee : Int), .int (keep : Int), .ref a, .ref b] ∧ SqL K H a (nv cs) ∧ SqL K H b (nv bs) ∧ cs.length ≤ 100 ∧ fee < 4294967296 ∧ keep < 4294967296 ∧
  ∀ H', Same H H' → Q (.int ((fee * Su88.times cs + keep * bs.sum : Nat) : Int)) H'
theorem scStore : FnScope ["fee", "keep", "came", "behind", "pieces"] ["fee", "keep", "came", "behind"] (defScope sStore) := ⟨rfl, rfl, rfl, by decide +kernel, rfl, by decide +kernel, by decide +kernel⟩
theorem blkStore : BlkOk ["fee", "keep", "came", "behind", "pieces"] (defScope sStore) { kind := .function, names := [(".0", .local), ("pieces", .local)], isGenerator := false, isCoroutine := false } [("pieces", 4)] := ⟨rfl, by decide +kernel, by decide +kernel, by decide +kernel, by decide +kernel⟩
theorem take_snoc {α : Type} {l : List α} {i : Nat} {x : α} (h : l[i]? = some x) : l.take (i + 1) = l.take i ++ [x] := by
  rw [List.take_add_one, h]
  rfl
theorem ok_store {f : Addr} {fd : FuncData} (F : Fun K "store_cost" "store_cost" sStore f fd) (O : Own mg) : FnOk P w K mg base CX0 1 f fd ["fee", "keep", "came", "behind"] (spStore K) := by
  refine F.ok scStore (fun vs H Q E h => ?_) (fun cdv A outer s H vs Q E hr h => ?_)
  · obtain ⟨fee, keep, a, b, cs, bs, rfl, _⟩ := h
    rfl
  · obtain ⟨fee, keep, a, b, cs, bs, rfl, ha, hb, hz, hf, hk, k⟩ := h
    have nd := scStore.nd
    refine ⟨_, pss_one (ps_ret (pe_op op_add (pe_op op_mul (pv 0) (pe_callB call_len_seq (by rfl) O.len PySem.boot_len (pa_cons (pe_lc (own := [("pieces", 4)]) rfl nd (pi_list (pv 2)) blkStore (fun _ _ _ _ _ => pg_name (i := 4) nd rfl (Or.inl rfl)) (fun _ _ _ _ _ => pts_one (pt_cmpR op_gt (pv 4) pe_int (nomark _))) (fun _ _ _ _ _ => pv 4)) pa_nil)))
      (pe_op op_mul (pv 1) (pe_callB (cr_sum rfl) (by rfl) O.sum PyProof.Rows.boot_sum (pa_cons (pv 3) pa_nil))))), ?_⟩
    refine ⟨_, rfl, _, rfl, a, rfl, ⟨_, ha⟩, fun D hD => ?_⟩
    have s0 : Same H (upd H D (.lst [])) := Same.new (.refl H) hD
    refine lc_list (K := K) (a := a) (xs := nv cs) (fun i H' => Same H H' ∧ i ≤ cs.length ∧ H' D = some (.lst (nv ((cs.take i).filter fun x => x != 0)))) ⟨s0, Nat.zero_le _, upd_same⟩ (fun i H' _ q => q.1.seq ha) ?_ ?_
    · rintro i x H' hx ⟨s5, hi, hd⟩
      obtain ⟨c, hc, rfl⟩ := nv_at hx
      have hi' : i + 1 ≤ cs.length := (List.getElem?_eq_some_iff.mp hc).1
      have lt : ((cs.take i).filter fun x => x != 0).length ≤ i := Nat.le_trans (List.length_filter_le _ _) (by rw [List.length_take]; omega)
      refine ⟨rfl, _, rfl, _, _, rfl, rfl, _, rfl, ?_⟩
      refine iteD (fun hp => ?_) (fun hn => ?_)
      · refine ⟨_, rfl, _, hd, by rw [nv_length]; exact szl (by omega), s5.chg hD, hi', ?_⟩
        rw [upd_same, take_snoc hc, List.filter_append, nv_append]
        have : (c != 0) = true := by
          have : c ≠ 0 := by omega
          simpa using this
        rw [List.filter_cons, if_pos this]
        rfl
      · refine ⟨s5, hi', ?_⟩
        rw [take_snoc hc, List.filter_append]
        have : ¬ (c != 0) = true := by
          have : c = 0 := by omega
          simpa using this
        rw [List.filter_cons, if_neg this, List.filter_nil, List.append_nil]
        exact hd
    · rintro H' ⟨s5, hi, hd⟩
      rw [nv_length, List.take_length] at hd
      refine ⟨D, _, rfl, .inl (SqL.of hd), _, _, rfl, rfl, .inl ⟨by omega, by omega⟩, ?_⟩
      refine ⟨_, rfl, _, rfl, b, bs.map (fun n : Nat => (n : Int)), rfl, by rw [← nv_ints]; exact s5.seq hb, _, _, rfl, rfl, .inl ⟨by omega, by omega⟩, _, _, rfl, rfl, ?_⟩
      have e : ((fee : Int) * ((nv (cs.filter fun x => x != 0)).length : Int) + (keep : Int) * (bs.map fun n : Nat => (n : Int)).sum) = ((fee * Su88.times cs + keep * bs.sum : Nat) : Int) := by
        rw [nv_length, isum]
        unfold Su88.times
        rw [Int.natCast_add, Int.natCast_mul, Int.natCast_mul]
      rw [show (fun i j : Int => V.int (i + j)) ((fee : Int) * ((nv (cs.filter fun x => x != 0)).length : Int)) ((keep : Int) * (bs.map fun n : Nat => (n : Int)).sum) = V.int ((fee * Su88.times cs + keep * bs.sum : Nat) : Int) from congrArg V.int e]
      exact k H' s5
/-! ### span_cost -/
abbrev sSpan : Stmt := top 5
def spSpan (K : PySem.W.Frag) : Sp := fun vs H Q _ => ∃ (d e : Nat) (a : Addr) (nd : List Nat) (fee keep : Nat), vs = [.int (d : Int), .int (e : Int), .ref a, .int (fee : Int), .int (keep : Int)] ∧ SqL K H a (nv nd) ∧ d ≤ e ∧ e ≤ nd.length ∧ nd.length ≤ 100 ∧ keep < 4294967296 ∧
  Q (.int (span fee keep ((nd.take e).drop d) : Int)) H
theorem scSpan : FnScope ["day", "end", "needs", "fee", "keep", "pieces", "nights", "later"] ["day", "end", "needs", "fee", "keep"] (defScope sSpan) := ⟨rfl, rfl, rfl, by decide +kernel, rfl, by decide +kernel, by decide +kernel⟩
theorem nf_snoc (x : Nat) : ∀ (l : List Nat) (j : Nat), nf j (l ++ [x]) = nf j l + x * (j + l.length)
  | [], j => by
    show x * j + 0 = 0 + x * (j + 0)
    rw [Nat.add_zero, Nat.add_zero, Nat.zero_add]
  | a :: l, j => by
    show a * j + nf (j + 1) (l ++ [x]) = a * j + nf (j + 1) l + x * (j + (l.length + 1))
    rw [nf_snoc x l (j + 1), show j + 1 + l.length = j + (l.length + 1) by omega]
    omega
theorem ok_span {f : Addr} {fd : FuncData} (F : Fun K "span_cost" "span_cost" sSpan f fd) (O : Own mg) : FnOk P w K mg base CX0 1 f fd ["day", "end", "needs", "fee", "keep"] (spSpan K) := by
  refine F.ok scSpan (fun vs H Q E h => ?_) (fun cdv A outer s H vs Q E hr h => ?_)
  · obtain ⟨d, e, a, nd, fee, keep, rfl, _⟩ := h
    rfl
  · obtain ⟨d, e, a, nl, fee, keep, rfl, ha, hde, hen, hz, hk, k⟩ := h
    have nd := scSpan.nd
    refine ⟨_, pss_cons (ps_set (i := 5) nd rfl (Or.inl rfl) pe_int) (pss_cons (ps_set (i := 6) nd rfl (Or.inl rfl) pe_int)
      (pss_cons (ps_for PassesOwn.never rfl (pi_range2 rfl O.range (pa_cons (pv 0) (pa_cons (pv 1) pa_nil))) (pg_name (i := 7) nd rfl (Or.inl rfl))
        (pss_cons (ps_set (i := 5) nd rfl (Or.inl rfl) (pe_op op_add (pv 5) (pe_ix ix_list (pv 2) (pv 7) (fun _ _ => rfl))))
        (pss_one (ps_set (i := 6) nd rfl (Or.inl rfl) (pe_op op_add (pv 6) (pe_op op_mul (pe_ix ix_list (pv 2) (pv 7) (fun _ _ => rfl)) (pe_op op_sub (pv 7) (pv 0))))))))
      (pss_cons (ps_if (pt_cmpR op_eq (pv 5) pe_int (nomark _)) (pss_one (ps_ret pe_int)) pss_nil)
      (pss_one (ps_ret (pe_op op_add (pv 3) (pe_op op_mul (pv 4) (pv 6)))))))), ?_⟩
    refine ⟨_, rfl, _, rfl, _, _, rfl, ⟨by omega, by omega, by omega, by omega⟩, for_range (lo := (d : Int)) (n := ((e : Int) - (d : Int)).toNat) (fun i σ H' => ∃ (lt : Option V), H' = H ∧ σ = [some (.int (d : Int)), some (.int (e : Int)), some (.ref a), some (.int (fee : Int)), some (.int (keep : Int)), some (.int ((((nl.drop d).take i).sum : Nat) : Int)), some (.int ((nf 0 ((nl.drop d).take i) : Nat) : Int)), lt])
      ⟨none, rfl, rfl⟩ ?_ ?_⟩
    · rintro i σ H' hi ⟨lt, rfl, rfl⟩
      have hi2 : d + i < nl.length := by omega
      have hx : nl[d + i]? = some nl[d + i] := List.getElem?_eq_getElem hi2
      have hy : (nl.drop d)[i]? = some nl[d + i] := by rw [List.getElem?_drop]; exact hx
      have hat : atI (nv nl) ((d : Int) + (i : Int)) = some (V.int ((nl[d + i] : Nat) : Int)) := at_of (by omega : ((d : Int) + (i : Int)) = ((d + i : Nat) : Int)) (nv_get hx)
      refine ⟨_, rfl, _, rfl, _, rfl, a, _, _, _, rfl, rfl, ha, hat, _, _, rfl, rfl, ?_⟩
      refine ⟨_, rfl, _, rfl, _, rfl, a, _, _, _, rfl, rfl, ha, hat, _, rfl, _, rfl, _, _, rfl, rfl, _, _, rfl, rfl, .inr ⟨by omega, by omega⟩, _, _, rfl, rfl, ?_⟩
      refine ⟨some (V.int ((d : Int) + (i : Int))), rfl, ?_⟩
      have e1 : ((((nl.drop d).take (i + 1)).sum : Nat) : Int) = (((nl.drop d).take i).sum : Nat) + ((nl[d + i] : Nat) : Int) := by
        rw [take_snoc hy, List.sum_append, List.sum_singleton]
        omega
      have e2 : ((nf 0 ((nl.drop d).take (i + 1)) : Nat) : Int) = (nf 0 ((nl.drop d).take i) : Nat) + ((nl[d + i] : Nat) : Int) * ((d : Int) + (i : Int) - (d : Int)) := by
        rw [take_snoc hy, nf_snoc, List.length_take, List.length_drop, Nat.min_eq_left (by omega), Nat.zero_add, Int.natCast_add, Int.natCast_mul]
        congr 2
        omega
      rw [e1, e2]
      rfl
    · rintro σ H' ⟨lt, rfl, rfl⟩
      have e0 : (nl.drop d).take ((e : Int) - (d : Int)).toNat = (nl.take e).drop d := by
        rw [List.drop_take]
        congr 1
        omega
      rw [e0]
      refine ⟨_, rfl, rfl, _, rfl, ?_⟩
      refine iteD (fun h0 => ?_) (fun h0 => ?_)
      · have z : ((nl.take e).drop d).sum = 0 := by
          have : V.int ((((nl.take e).drop d).sum : Nat) : Int) = V.int 0 := h0
          injection this with this
          omega
        unfold span at k
        rw [if_pos z] at k
        exact k
      · have z : ¬ ((nl.take e).drop d).sum = 0 := fun z => h0 (by rw [z]; rfl)
        unfold span at k
        rw [if_neg z] at k
        refine ⟨_, rfl, _, rfl, _, rfl, _, _, rfl, rfl, .inl ⟨by omega, by omega⟩, _, _, rfl, rfl, ?_⟩
        have e4 : ((fee + keep * nf 0 ((nl.take e).drop d) : Nat) : Int) = (fee : Int) + (keep : Int) * ((nf 0 ((nl.take e).drop d) : Nat) : Int) := by rw [Int.natCast_add, Int.natCast_mul]
        rw [e4] at k
        exact k
end
end TS
end
section
set_option Elab.async false
set_option Elab.async false
set_option linter.all false
set_option maxRecDepth 100000
set_option maxHeartbeats 2000000
namespace TS
open PySem PySem.Spec PyProof.Rows L2
/-! ### the mathematics of amounts -/
theorem ends_at (n : Nat) : ∀ (days : List Nat) (i d : Nat), Asc days → days[i]? = some d → (days.drop 1 ++ [n])[i]? = some (nextIn days n d)
  | [], i, d, _, h => by simp at h
  | a :: r, 0, d, ha, h => by
    have e : a = d := Option.some.inj h
    subst e
    unfold nextIn
    rw [List.find?_cons, decide_eq_false (Nat.lt_irrefl a)]
    match r, ha with
    | [], _ => rfl
    | b :: r, ha =>
      have hab : a < b := (List.pairwise_cons.mp ha).1 b (.head _)
      show some b = some ((List.find? (fun j => decide (a < j)) (b :: r)).getD n)
      rw [List.find?_cons, decide_eq_true hab]
      rfl
  | a :: r, i + 1, d, ha, h => by
    have h : r[i]? = some d := h
    obtain ⟨h1, h2⟩ := List.pairwise_cons.mp ha
    have had : a < d := h1 d (List.mem_of_getElem? h)
    have ih := ends_at n r i d h2 h
    have e : nextIn (a :: r) n d = nextIn r n d := by
      unfold nextIn
      rw [List.find?_cons, decide_eq_false (by omega)]
    rw [e, ← ih]
    match r, h with
    | b :: r, _ => rfl
abbrev part (nd days : List Nat) (i : Nat) : List Nat := (List.range nd.length).map fun j => if (days.take i).contains j then cov nd days j else 0
theorem part_length (nd days : List Nat) (i : Nat) : (part nd days i).length = nd.length := by unfold part; rw [List.length_map, List.length_range]
theorem part_zero (nd days : List Nat) : part nd days 0 = List.replicate nd.length 0 := by
  refine List.ext_getElem (by rw [part_length, List.length_replicate]) fun k h1 h2 => ?_
  unfold part
  rw [List.getElem_map, List.getElem_replicate]
  rfl
theorem part_step {nd days : List Nat} {i d : Nat} (h : days[i]? = some d) : (part nd days i).set d (cov nd days d) = part nd days (i + 1) := by
  refine List.ext_getElem (by rw [List.length_set, part_length, part_length]) fun k h1 h2 => ?_
  rw [List.getElem_set]
  unfold part
  rw [List.getElem_map, List.getElem_map, List.getElem_range, take_snoc h]
  have c : (days.take i ++ [d]).contains k = ((days.take i).contains k || k == d) := by
    rw [Bool.eq_iff_iff, Bool.or_eq_true, List.contains_iff_mem, List.contains_iff_mem, List.mem_append, List.mem_singleton, beq_iff_eq]
  rw [c]
  by_cases e : d = k
  · subst e
    rw [if_pos rfl, beq_self_eq_true, Bool.or_true, if_pos rfl]
  · rw [if_neg e, beq_eq_false_iff_ne.mpr (fun z => e z.symm), Bool.or_false]
theorem part_all (nd days : List Nat) : part nd days days.length = Su88.covers nd days := by
  rw [covers_eq]
  unfold part
  refine List.map_congr_left fun j _ => ?_
  rw [List.take_length]
  unfold cov
  split <;> rfl
section
variable {P : Program} {w : World} {K : PySem.W.Frag} {mg : Str → Option Value} {base : Heap}
/-! ### amounts -/
abbrev sAmts : Stmt := top 1
def spAmts (K : PySem.W.Frag) : Sp := fun vs H Q _ => ∃ (a b : Addr) (ds nl : List Nat), vs = [.ref a, .ref b] ∧ SqL K H a (nv ds) ∧ SqL K H b (nv nl) ∧ Asc ds ∧ (∀ x ∈ ds, x < nl.length) ∧ nl.length ≤ 100 ∧ ds.length ≤ 100 ∧
  ∀ (H' : Hp) (p : Addr), Same H H' → H p = none → H' p = some (.lst (nv (Su88.covers nl ds))) → Q (.ref p) H'
theorem scAmts : FnScope ["days", "needs", "taken", "ends", "day", "end"] ["days", "needs"] (defScope sAmts) := ⟨rfl, rfl, rfl, by decide +kernel, rfl, by decide +kernel, by decide +kernel⟩
theorem rep_flat (n : Nat) : (List.replicate n [V.int 0]).flatten = nv (List.replicate n 0) := by
  induction n with
  | zero => rfl
  | succ n ih => rw [List.replicate_succ, List.flatten_cons, ih]; rfl
theorem ok_amts {f : Addr} {fd : FuncData} (F : Fun K "amounts" "amounts" sAmts f fd) (O : Own mg) : FnOk P w K mg base CX0 1 f fd ["days", "needs"] (spAmts K) := by
  refine F.ok scAmts (fun vs H Q E h => ?_) (fun cdv A outer s H vs Q E hr h => ?_)
  · obtain ⟨a, b, ds, nl, rfl, _⟩ := h
    rfl
  · obtain ⟨a, b, ds, nl, rfl, ha, hb, hA, hB, hz, hz2, k⟩ := h
    have nd := scAmts.nd
    refine ⟨_, pss_cons (ps_set (i := 2) nd rfl (Or.inl rfl) (pe_op op_rep (pe_lst (pa_cons pe_int pa_nil)) (pe_callB call_len_seq (by rfl) O.len PySem.boot_len (pa_cons (pv 1) pa_nil))))
      (pss_cons (ps_set (i := 3) nd rfl (Or.inl rfl) (pe_op op_cat (pe_slice sl_list (pv 0) (po_some pe_int) po_none) (pe_lst (pa_cons (pe_callB call_len_seq (by rfl) O.len PySem.boot_len (pa_cons (pv 1) pa_nil)) pa_nil))))
      (pss_cons (ps_for PassesOwn.never rfl (pi_zip rfl O.zip (pa_cons (pv 0) (pa_cons (pv 3) pa_nil))) (pg_tup rfl (pgs_cons (pg_name (i := 4) nd rfl (Or.inl rfl)) (pgs_cons (pg_name (i := 5) nd rfl (Or.inl rfl)) pgs_nil)))
        (pss_one (ps_asg (pe_callB (cr_sum rfl) (by rfl) O.sum PyProof.Rows.boot_sum (pa_cons (pe_slice sl_list (pv 1) (po_some (pv 4)) (po_some (pv 5))) pa_nil)) (pg_sub (pv 2) (pv 4) set_list))))
      (pss_one (ps_ret (pv 2))))), ?_⟩
    -- taken
    refine ⟨by show 1 ≤ sizeLine; decide, fun q0 hq0 => ⟨_, rfl, b, _, rfl, .inl ((Same.new (.refl H) hq0).seq hb), q0, _, _, rfl, rfl, upd_same, by rw [nv_length]; omega, by rw [nv_length]; omega, by rw [nv_length]; exact sz (by show 1 * _ ≤ _; omega), fun tk htk => ?_⟩⟩
    have s0 : Same H (upd H q0 (.lst [V.int 0])) := Same.new (.refl H) hq0
    have s1 : Same H (upd (upd H q0 (.lst [V.int 0])) tk (.lst (List.replicate ((nv nl).length : Int).toNat [V.int 0]).flatten)) := s0.new htk
    have eT : (List.replicate ((nv nl).length : Int).toNat [V.int 0]).flatten = nv (part nl ds 0) := by rw [rep_flat, nv_length, part_zero, Int.toNat_natCast]
    have ntk : H tk = none := s0.free htk
    rw [eT] at s1 ⊢
    -- ends
    refine ⟨_, rfl, _, rfl, a, _, rfl, s1.seq ha, fun q1 hq1 => ⟨_, rfl, b, _, rfl, .inl ((s1.new hq1).seq hb), ?_⟩⟩
    have e1 : cutV (nv ds) (some (1 : Int)) none = nv (ds.drop 1) := cut_from ds 1
    refine ⟨by show 1 ≤ sizeLine; decide, fun q2 hq2 => ?_⟩
    have s2 := s1.new (o := .lst (cutV (nv ds) (some (1 : Int)) none)) hq1
    have s3 := s2.new (o := .lst [V.int ((nv nl).length : Int)]) hq2
    have n12 : q1 ≠ q2 := ne_of_none upd_same hq2
    refine ⟨q1, q2, _, _, rfl, rfl, by rw [upd_ne n12]; exact upd_same, upd_same, by rw [e1, nv_length, List.length_drop]; exact sz (by show _ + 1 ≤ _; omega), fun q3 hq3 => ?_⟩
    have s4 := s3.new (o := .lst (cutV (nv ds) (some (1 : Int)) none ++ [V.int ((nv nl).length : Int)])) hq3
    have e2 : cutV (nv ds) (some (1 : Int)) none ++ [V.int ((nv nl).length : Int)] = nv (ds.drop 1 ++ [nl.length]) := by rw [e1, nv_append, nv_length]; rfl
    have t1 : tk ≠ q1 := ne_of_none upd_same hq1
    have t2 : tk ≠ q2 := ne_of_none (by rw [upd_ne t1]; exact upd_same) hq2
    have t3 : tk ≠ q3 := ne_of_none (by rw [upd_ne t2, upd_ne t1]; exact upd_same) hq3
    have n3 : H q3 = none := s3.free hq3
    rw [e2] at s4 ⊢
    refine ⟨_, rfl, _, rfl, a, q3, _, _, rfl, s4.seq ha, SqL.of upd_same, for_zip (K := K) (a := a) (b := q3) (xs := nv ds) (ys := nv (ds.drop 1 ++ [nl.length])) (by rw [nv_length, nv_length, List.length_append, List.length_drop]; show _ ≤ _ + 1; omega)
      (fun i σ H' => ∃ (m l : Option V), σ = [some (.ref a), some (.ref b), some (.ref tk), some (.ref q3), m, l] ∧ Same H H' ∧ H' tk = some (.lst (nv (part nl ds i))) ∧ H' q3 = some (.lst (nv (ds.drop 1 ++ [nl.length]))) ∧ i ≤ ds.length)
      ⟨none, none, rfl, s4, by rw [upd_ne t3, upd_ne t2, upd_ne t1]; exact upd_same, upd_same, Nat.zero_le _⟩ (fun i σ H' _ ⟨_, _, _, s5, _, h3, _⟩ => ⟨s5.seq ha, SqL.of h3⟩) ?_ ?_⟩
    · rintro i x y Tp σ H' hx hy ⟨m, l, rfl, s5, hk, h3, hi⟩ hT
      obtain ⟨d, hd, rfl⟩ := nv_at hx
      obtain ⟨e, he, rfl⟩ := nv_at hy
      have hdn : d < nl.length := hB d (List.mem_of_getElem? hd)
      rw [ends_at nl.length ds i d hA hd] at he
      have he : nextIn ds nl.length d = e := Option.some.inj he
      have s6 : Same H (upd H' Tp (.tup [V.int (d : Int), V.int (e : Int)])) := s5.new hT
      have n1 : tk ≠ Tp := ne_of_none hk hT
      have n2 : q3 ≠ Tp := ne_of_none h3 hT
      refine ⟨Tp, _, rfl, SqT.of upd_same, rfl, _, _, rfl, _, _, rfl, rfl, _, rfl, _, rfl, _, rfl, _, rfl, _, rfl, b, _, rfl, s6.seq hb, fun q5 hq5 => ?_⟩
      have s7 := s6.new (o := .lst (cutV (nv nl) (some (d : Int)) (some (e : Int)))) hq5
      have n3 : tk ≠ q5 := ne_of_none (by rw [upd_ne n1]; exact hk) hq5
      have n4 : q3 ≠ q5 := ne_of_none (by rw [upd_ne n2]; exact h3) hq5
      refine ⟨q5, ((nl.take e).drop d).map (fun n : Nat => (n : Int)), rfl, SqL.of (by rw [upd_same, cut_mid, nv_ints]), _, rfl, _, rfl, tk, _, _, d, rfl, rfl, by rw [upd_ne n3, upd_ne n1]; exact hk, ?_, ?_⟩
      · rw [nv_length, part_length]
        unfold ixN
        rw [if_pos (by omega), if_pos (by omega), Int.toNat_natCast]
      · refine ⟨_, _, rfl, s7.chg ntk, ?_, by rw [upd_ne (fun z => t3 z.symm), upd_ne n4, upd_ne n2]; exact h3, (List.getElem?_eq_some_iff.mp hd).1⟩
        have ec : (((nl.take e).drop d).map (fun n : Nat => (n : Int))).sum = ((cov nl ds d : Nat) : Int) := by
          rw [isum]
          unfold cov
          rw [if_pos (List.contains_iff_mem.mpr (List.mem_of_getElem? hd)), he]
        rw [upd_same, ec, ← part_step hd, nv, nv, List.map_set]
    · rintro σ H' ⟨m, l, rfl, s5, hk, h3, hi⟩
      rw [nv_length, part_all] at hk
      exact ⟨_, rfl, k H' tk s5 ntk hk⟩
end
end TS
end
section
set_option Elab.async false
set_option Elab.async false
set_option linter.all false
set_option maxRecDepth 100000
set_option maxHeartbeats 2000000
namespace TS
open PySem PySem.Spec PyProof.Rows L2
/-! ### a walk over a dict's keys -/
theorem for_keys {d : Addr} {o : Obj} {kvs : List (Key × V)} {g : TG} {tb : TS} {D : Ends} {σ : L2.St} {H : Hp} (Pv : Nat → L2.St → Hp → Prop) (h0 : Pv 0 σ H) (hl : ∀ i σ H, i ≤ kvs.length → Pv i σ H → H d = some (.frz o (.dK kvs)))
    (hs : ∀ i k v σ H, kvs[i]? = some (k, v) → Pv i σ H → g (kV k) σ H fun σ2 H2 => tb { D with nx := Pv (i + 1), ct := Pv (i + 1), bk := D.nx } σ2 H2) (hd : ∀ σ H, Pv kvs.length σ H → D.nx σ H) :
    ∃ W : Nat → Nat → L2.St → Hp → Prop, (∃ m, W 0 m σ H) ∧ ∀ i m σ H, W i m σ H →
      ((Itk d o kvs).stop i H ∧ D.nx σ H) ∨ ((Itk d o kvs).go i H ∧ ∃ N : L2.St → Hp → Prop, (∀ σ' H', N σ' H' → ∃ m', m' < m ∧ W (i + 1) m' σ' H') ∧ ∀ x H', (Itk d o kvs).yld i H x H' → g x σ H' fun σ2 H2 => tb { D with nx := N, ct := N, bk := D.nx } σ2 H2) := by
  refine ⟨fun i m σ H => m = kvs.length - i ∧ i ≤ kvs.length ∧ Pv i σ H, ⟨_, rfl, Nat.zero_le _, h0⟩, ?_⟩
  rintro i m σ H ⟨rfl, hi, p⟩
  have q1 := hl i σ H hi p
  by_cases hlt : i < kvs.length
  · refine .inr ⟨⟨q1, hlt⟩, Pv (i + 1), fun σ' H' p' => ⟨kvs.length - (i + 1), by omega, rfl, hlt, p'⟩, ?_⟩
    rintro v H' ⟨rfl, k, u, hk, rfl⟩
    exact hs i k u σ H' hk p
  · have e : i = kvs.length := by omega
    subst e
    exact .inl ⟨⟨q1, Nat.le_refl _⟩, hd σ H p⟩
theorem paired_get {a b : Type} {F : a → b → Prop} : ∀ {l : List a} {r : List b} {i : Nat} {x : a}, Paired F l r → l[i]? = some x → ∃ y, r[i]? = some y ∧ F x y
  | _, _, _, _, .nil, h => by simp at h
  | _, _, 0, _, .cons f _, h => by
    cases h
    exact ⟨_, rfl, f⟩
  | _, _, i + 1, x, .cons _ t, h => paired_get (i := i) t h
theorem paired_map {a b c : Type} {F : a → b → Prop} {f : a → c} {g : b → c} (h : ∀ x y, F x y → f x = g y) : ∀ {l : List a} {r : List b}, Paired F l r → l.map f = r.map g
  | _, _, .nil => rfl
  | _, _, .cons q t => by rw [List.map_cons, List.map_cons, h _ _ q, paired_map h t]
theorem paired_imp {a b : Type} {F G : a → b → Prop} (h : ∀ x y, F x y → G x y) : ∀ {l : List a} {r : List b}, Paired F l r → Paired G l r
  | _, _, .nil => .nil
  | _, _, .cons q t => .cons (h _ _ q) (paired_imp h t)
theorem paired_length {a b : Type} {F : a → b → Prop} : ∀ {l : List a} {r : List b}, Paired F l r → l.length = r.length
  | _, _, .nil => rfl
  | _, _, .cons _ t => by rw [List.length_cons, List.length_cons, paired_length t]
theorem valV_at : ∀ {kvs : List (Key × V)} {i : Nat} {k : Key} {v : V}, (kvs.map (·.1)).Nodup → kvs[i]? = some (k, v) → valV kvs k = some v
  | [], i, k, v, _, h => by simp at h
  | p :: r, 0, k, v, _, h => by
    cases h
    unfold valV
    rw [List.find?_cons, decide_eq_true rfl]
    rfl
  | p :: r, i + 1, k, v, hn, h => by
    have h : r[i]? = some (k, v) := h
    obtain ⟨h1, h2⟩ := List.nodup_cons.mp (show (p.1 :: r.map (·.1)).Nodup from hn)
    have ih := valV_at h2 h
    have e : ¬ p.1 = k := fun e => h1 (by rw [e]; exact List.mem_map.mpr ⟨(k, v), List.mem_of_getElem? h, rfl⟩)
    unfold valV at ih ⊢
    rw [List.find?_cons, decide_eq_false e]
    exact ih
/-- how a cheapest one of a store stands in the heap: None, or its cost and its days -/
def BV (H : Hp) (v : V) : Option (Nat × List Nat) → Prop
  | none => v = .non
  | some z => ∃ p l : Addr, v = .ref p ∧ H p = some (.tup [.int (z.1 : Int), .ref l]) ∧ H l = some (.lst (nv z.2))
theorem BV.same {H H' : Hp} {v : V} {x : Option (Nat × List Nat)} (s : Same H H') (h : BV H v x) : BV H' v x := by
  cases x with
  | none => exact h
  | some z =>
    obtain ⟨p, l, e, h1, h2⟩ := h
    exact ⟨p, l, e, s _ _ h1, s _ _ h2⟩
/-- .. past a change of a dict -/
theorem BV.past {H : Hp} {v : V} {x : Option (Nat × List Nat)} {d : Addr} {kvs : List (Key × V)} {o : HO} (hd : H d = some (.dK kvs)) (h : BV H v x) : BV (upd H d o) v x := by
  cases x with
  | none => exact h
  | some z =>
    obtain ⟨p, l, e, h1, h2⟩ := h
    exact ⟨p, l, e, by rw [upd_ne (ne_of h1 hd (by intro z; cases z))]; exact h1, by rw [upd_ne (ne_of h2 hd (by intro z; cases z))]; exact h2⟩
abbrev KB (H : Hp) (kvs : List (Key × V)) (best : List (Nat × Option (Nat × List Nat))) : Prop := Paired (fun kv b => kv.1 = Sum.inl (b.1 : Int) ∧ BV H kv.2 b.2) kvs best
theorem KB.nodup {H : Hp} {kvs : List (Key × V)} {best : List (Nat × Option (Nat × List Nat))} (h : KB H kvs best) (hn : (best.map (·.1)).Nodup) : (kvs.map (·.1)).Nodup := by
  rw [paired_map (f := fun kv : Key × V => kv.1) (g := fun b : Nat × Option (Nat × List Nat) => (Sum.inl (b.1 : Int) : Key)) (fun x y q => q.1) h]
  have : (best.map fun b => (Sum.inl (b.1 : Int) : Key)) = (best.map (·.1)).map fun n : Nat => (Sum.inl (n : Int) : Key) := by rw [List.map_map]; rfl
  rw [this]
  refine List.Pairwise.map _ (fun a b hab e => hab ?_) hn
  have e := Sum.inl.inj e
  omega
section
variable {P : Program} {w : World} {K : PySem.W.Frag} {mg : Str → Option Value} {base : Heap}
/-! ### best_before -/
theorem told_step {K : PySem.W.Frag} {v0 v1 v2 v3 v4 v5 : Option V} {d : Nat} {p l : Addr} {pr : Int} {prn c : Nat} {S : List Nat} {H' : Hp} {D : Ends} (hp : H' p = some (.tup [.int (c : Int), .ref l])) (hl : H' l = some (.lst (nv S))) (hS : S.length ≤ 100) (ep : pr = (prn : Int))
    (k : ∀ (H2 : Hp) (t2 : V), Same H' H2 → BV H2 t2 (some (prn, S ++ [d])) → D.nx [v0, v1, v2, v3, v4, some t2, some (.int (d : Int)), some (.ref p), some (.int pr)] H2) :
    tAsg (tTup (tCons (tVar 8) (tCons (tOp rCat (tOp (rIxT K) (tVar 7) (tC (.int 1))) (tLst (tCons (tVar 6) tNil))) tNil))) (gName 5) D [v0, v1, v2, v3, v4, v5, some (.int (d : Int)), some (.ref p), some (.int pr)] H' := by
  refine ⟨_, rfl, _, rfl, p, _, _, _, rfl, rfl, SqT.of hp, rfl, _, rfl, by show 1 ≤ sizeLine; decide, fun q1 hq1 => ?_⟩
  have s1 : Same H' (upd H' q1 (.lst [V.int (d : Int)])) := Same.new (.refl H') hq1
  refine ⟨l, q1, _, _, rfl, rfl, s1 _ _ hl, upd_same, by rw [nv_length]; exact sz (by show _ + 1 ≤ _; omega), fun q2 hq2 => ⟨by show 2 ≤ sizeLine; decide, fun q3 hq3 => ?_⟩⟩
  refine k _ _ ((s1.new hq2).new hq3) ⟨q3, q2, rfl, by rw [upd_same, ep], ?_⟩
  rw [upd_ne (ne_of_none upd_same hq3), upd_same, nv_append]
  rfl
abbrev sBefore : Stmt := top 6
def spBefore (K : PySem.W.Frag) : Sp := fun vs H Q _ => ∃ (e : Nat) (dct a : Addr) (fee keep : Nat) (nl : List Nat) (kvs : List (Key × V)) (best : List (Nat × Option (Nat × List Nat))), vs = [.int (e : Int), .ref dct, .ref a, .int (fee : Int), .int (keep : Int)] ∧
  H dct = some (.dK kvs) ∧ KB H kvs best ∧ (best.map (·.1)).Nodup ∧ (∀ b ∈ best, b.1 ≤ e) ∧ (∀ b ∈ best, ∀ z, b.2 = some z → z.2.length ≤ 100) ∧ SqL K H a (nv nl) ∧ e ≤ nl.length ∧ nl.length ≤ 100 ∧ fee < 4294967296 ∧ keep < 4294967296 ∧
  ∀ (H' : Hp) (v : V), Same H H' → BV H' v (bestBefore fee keep nl e best) → Q v H'
theorem scBefore : FnScope ["end", "best", "needs", "fee", "keep", "told", "day", "before", "price"] ["end", "best", "needs", "fee", "keep"] (defScope sBefore) := ⟨rfl, rfl, rfl, by decide +kernel, rfl, by decide +kernel, by decide +kernel⟩
theorem ok_before {f fS : Addr} {fd fdS : FuncData} (F : Fun K "best_before" "best_before" sBefore f fd) (O : Own mg) (GS : FnOk P w K mg base CX0 1 fS fdS ["day", "end", "needs", "fee", "keep"] (spSpan K)) (mS : mg "span_cost" = some (.ref fS)) (kS : PySem.W.keepIn K (.ref fS) = true) (bS : Binds K fdS ["day", "end", "needs", "fee", "keep"] []) :
    FnOk P w K mg base CX0 2 f fd ["end", "best", "needs", "fee", "keep"] (spBefore K) := by
  refine F.ok scBefore (fun vs H Q E h => ?_) (fun cdv A outer s H vs Q E hr h => ?_)
  · obtain ⟨e, dct, a, fee, keep, nl, kvs, best, rfl, _⟩ := h
    rfl
  · obtain ⟨e, dct, a, fee, keep, nl, kvs, best, rfl, hD, hKB, hnd, hle, hsz, ha, hen, hz, hf, hk, k⟩ := h
    have nd := scBefore.nd
    have hu := hu_of hr
    refine ⟨_, pss_cons (ps_if (pt_cmpR op_eq (pe_callB (cr_sum rfl) (by rfl) O.sum PyProof.Rows.boot_sum (pa_cons (pe_slice sl_list (pv 2) po_none (po_some (pv 0))) pa_nil)) pe_int (nomark _)) (pss_one (ps_ret (pe_tup (pa_cons pe_int (pa_cons (pe_lst pa_nil) pa_nil))))) pss_nil)
      (pss_cons (ps_set (i := 5) nd rfl (Or.inl rfl) pe_non)
      (pss_cons (ps_lock (ps_for PassesOwn.never rfl (pi_keys (pv 1)) (pg_name (i := 6) nd rfl (Or.inl rfl))
        (pss_cons (ps_set (i := 7) nd rfl (Or.inl rfl) (pe_dget hu (pv 1) (pv 6) (fun _ _ => rfl)))
        (pss_cons (ps_if (pt_cmp (pc_isN (pv 7))) (pss_one ps_continue) pss_nil)
        (pss_cons (ps_set (i := 8) nd rfl (Or.inl rfl) (pe_op op_add (pe_ix ix_tup (pv 7) pe_int (fun _ _ => rfl)) (pe_call GS hr rfl mS kS bS .nil pass0 (pa_cons (pv 6) (pa_cons (pv 0) (pa_cons (pv 2) (pa_cons (pv 3) (pa_cons (pv 4) pa_nil))))))))
        (pss_one (ps_if (PW.pt (pw_or (pt_cmp (pc_isN (pv 5))) (pw_or1 (pt_cmpR op_lt (pv 8) (pe_ix ix_tup (pv 5) pe_int (fun _ _ => rfl)) (nomark _)))))
          (pss_one (ps_set (i := 5) nd rfl (Or.inl rfl) (pe_tup (pa_cons (pv 8) (pa_cons (pe_op op_cat (pe_ix ix_tup (pv 7) pe_int (fun _ _ => rfl)) (pe_lst (pa_cons (pv 6) pa_nil))) pa_nil))))) pss_nil)))))))
      (pss_one (ps_ret (pv 5))))), ?_⟩
    refine ⟨_, rfl, _, rfl, _, rfl, a, _, rfl, ha, fun q0 hq0 => ?_⟩
    have s0 : Same H (upd H q0 (.lst (cutV (nv nl) none (some (e : Int))))) := Same.new (.refl H) hq0
    refine ⟨q0, (nl.take e).map (fun n : Nat => (n : Int)), rfl, SqL.of (by rw [upd_same, cut_to, nv_ints]), rfl, _, rfl, ?_⟩
    rw [isum]
    have hD0 := s0 _ _ hD
    refine iteD (fun h0 => ?_) (fun h0 => ?_)
    · have z : (nl.take e).sum = 0 := by
        injection h0 with h0
        omega
      refine ⟨Nat.zero_le _, fun q1 hq1 => ⟨by show 2 ≤ sizeLine; decide, fun q2 hq2 => ?_⟩⟩
      refine k _ _ ((s0.new hq1).new hq2) ?_
      unfold bestBefore
      rw [if_pos z]
      exact ⟨q2, q1, rfl, upd_same, by rw [upd_ne (ne_of_none upd_same hq2)]; exact upd_same⟩
    · have z : ¬ (nl.take e).sum = 0 := fun z => h0 (by rw [z]; rfl)
      refine ⟨dct, _, hD0, trivial, fun od => ⟨_, rfl, dct, od, rfl, .inl ⟨kvs, upd_same, ?_⟩⟩⟩
      -- the walk
      have sL : ∀ (H' : Hp), Same (upd (upd H q0 (.lst (cutV (nv nl) none (some (e : Int))))) dct (.frz od (.dK kvs))) H' → Same H (upd H' dct (.dK kvs)) := fun H' s b o q => by
        by_cases hb : b = dct
        · rw [hb] at q ⊢
          rw [hD] at q
          rw [upd_same]
          exact q
        · rw [upd_ne hb]
          exact s b o (by rw [upd_ne hb]; exact s0 b o q)
      have sV : ∀ (H' : Hp) (v : V) (x : Option (Nat × List Nat)), Same (upd (upd H q0 (.lst (cutV (nv nl) none (some (e : Int))))) dct (.frz od (.dK kvs))) H' → BV H v x → BV H' v x := fun H' v x s h => BV.same s (BV.past hD0 (BV.same s0 h))
      have sA : SqL K (upd (upd H q0 (.lst (cutV (nv nl) none (some (e : Int))))) dct (.frz od (.dK kvs))) a (nv nl) := by
        rcases s0.seq ha with (h | ⟨o, h⟩) | h
        · exact .inl (.inl (by rw [upd_ne (ne_of h hD0 (by intro z; cases z))]; exact h))
        · exact .inl (.inr ⟨o, by rw [upd_ne (ne_of h hD0 (by intro z; cases z))]; exact h⟩)
        · exact .inr h
      refine for_keys (d := dct) (o := od) (kvs := kvs) (fun i σ H' => ∃ (tv : V) (m1 m2 m3 : Option V), σ = [some (.int (e : Int)), some (.ref dct), some (.ref a), some (.int (fee : Int)), some (.int (keep : Int)), some tv, m1, m2, m3] ∧
        Same (upd (upd H q0 (.lst (cutV (nv nl) none (some (e : Int))))) dct (.frz od (.dK kvs))) H' ∧ BV H' tv ((best.take i).foldl (fun told p => better told (shift (span fee keep ((nl.take e).drop p.1)) (fun S => S ++ [p.1]) p.2)) none))
        ⟨.non, none, none, none, rfl, .refl _, rfl⟩ (fun i σ H' _ ⟨_, _, _, _, _, s5, _⟩ => s5 _ _ upd_same) ?_ ?_
      · rintro i kk v σ H' hkv ⟨tv, m1, m2, m3, rfl, s5, hB⟩
        obtain ⟨b, hb, ek, hv⟩ := paired_get hKB hkv
        have ek : kk = Sum.inl (b.1 : Int) := ek
        subst ek
        have hv : BV H v b.2 := hv
        have hbm := List.mem_of_getElem? hb
        rw [take_snoc hb, List.foldl_append]
        have hv' := sV H' v _ s5 hv
        refine ⟨_, rfl, _, rfl, dct, v, rfl, ?_, ?_⟩
        · have := valV_at (KB.nodup hKB hnd) hkv
          exact .inl ⟨kvs, Sum.inl (b.1 : Int), .inr ⟨od, s5 _ _ upd_same⟩, rfl, this.symm⟩
        · cases hb2 : b.2 with
          | none =>
            rw [hb2] at hv'
            have hv' : v = .non := hv'
            subst hv'
            refine ⟨_, rfl, _, rfl, iteT ?_⟩
            exact ⟨tv, _, _, _, rfl, s5, by show BV H' tv (better _ (shift _ _ b.2)); rw [hb2]; show BV H' tv (better _ none); rw [better_none]; exact hB⟩
          | some zz =>
            obtain ⟨c, S⟩ := zz
            rw [hb2] at hv'
            obtain ⟨p, l, rfl, hp, hl⟩ := hv'
            have hSl := hsz b hbm _ hb2
            refine ⟨_, rfl, _, rfl, iteF ?_⟩
            refine ⟨_, rfl, p, _, _, _, rfl, rfl, SqT.of hp, rfl, ?_⟩
            refine ⟨_, rfl, _, rfl, _, rfl, _, rfl, _, rfl, ?_⟩
            refine ⟨b.1, e, a, nl, fee, keep, rfl, s5.seq sA, hle b hbm, hen, hz, hk, ?_⟩
            refine ⟨_, _, rfl, rfl, ?_⟩
            have ep : ((c : Int) + (span fee keep ((nl.take e).drop b.1) : Int)) = ((c + span fee keep ((nl.take e).drop b.1) : Nat) : Int) := by omega
            generalize hsp : span fee keep ((nl.take e).drop b.1) = sp at ep ⊢
            -- the new one is told
            have hfold : ∀ X : Option (Nat × List Nat), [b].foldl (fun told p => better told (shift (span fee keep ((nl.take e).drop p.1)) (fun S => S ++ [p.1]) p.2)) X = better X (some (c + sp, S ++ [b.1])) := fun X => by
              show better X (shift (span fee keep ((nl.take e).drop b.1)) (fun S => S ++ [b.1]) b.2) = _
              rw [hb2, hsp]
              rfl
            rw [hfold]
            revert hB
            generalize (best.take i).foldl (fun told p => better told (shift (span fee keep ((nl.take e).drop p.1)) (fun S => S ++ [p.1]) p.2)) none = X
            intro hB
            cases X with
            | none =>
              have hB : tv = .non := hB
              subst hB
              refine ⟨_, rfl, _, rfl, iteT (iteT ?_)⟩
              exact told_step (K := K) hp hl hSl ep fun H2 t2 s6 h6 => ⟨t2, _, _, _, rfl, s5.trans s6, h6⟩
            | some zt =>
              obtain ⟨pt, lt, rfl, hpt, hlt⟩ := hB
              refine ⟨_, rfl, _, rfl, iteF ⟨_, rfl, _, rfl, pt, _, _, _, rfl, rfl, SqT.of hpt, rfl, _, _, rfl, rfl, _, rfl, iteD (fun hlt => ?_) (fun hge => ?_)⟩⟩
              · have : better (some zt) (some (c + sp, S ++ [b.1])) = some (c + sp, S ++ [b.1]) := if_pos (show c + sp < zt.1 by omega)
                rw [this]
                exact told_step (K := K) hp hl hSl ep fun H2 t2 s6 h6 => ⟨t2, _, _, _, rfl, s5.trans s6, h6⟩
              · have : better (some zt) (some (c + sp, S ++ [b.1])) = some zt := if_neg (show ¬ c + sp < zt.1 by omega)
                rw [this]
                exact ⟨_, _, _, _, rfl, s5, pt, lt, rfl, hpt, by assumption⟩
      · rintro σ H' ⟨tv, m1, m2, m3, rfl, s5, hB⟩
        refine ⟨s5 _ _ upd_same, _, rfl, k _ _ (sL H' s5) ?_⟩
        rw [paired_length hKB, List.take_length] at hB
        unfold bestBefore
        rw [if_neg z]
        have hl : H' dct = some (.frz od (.dK kvs)) := s5 _ _ upd_same
        revert hB
        generalize best.foldl (fun told p => better told (shift (span fee keep ((nl.take e).drop p.1)) (fun S => S ++ [p.1]) p.2)) none = x
        intro hB
        cases x with
        | none => exact hB
        | some zz =>
          obtain ⟨p, l, e1, h1, h2⟩ := hB
          exact ⟨p, l, e1, by rw [upd_ne (ne_of h1 hl (by intro z; cases z))]; exact h1, by rw [upd_ne (ne_of h2 hl (by intro z; cases z))]; exact h2⟩
end
end TS
end
section
set_option Elab.async false
set_option Elab.async false
set_option linter.all false
set_option maxRecDepth 100000
set_option maxHeartbeats 2000000
namespace TS
open PySem PySem.Spec PyProof.Rows L2
/-! ### range and list of it -/
section
variable {X : Cx}
theorem call_rng : CallR X (.type "range") (fun xs H Q => ∃ j : Int, xs = [.int j] ∧ ∀ p, H p = none → Q (.ref p) (upd H p (.rng 0 j))) := by
  intro pins s σ H xs us Q I r h
  obtain ⟨j, rfl, q⟩ := h
  obtain ⟨u, rfl, t, rfl⟩ := vals1 r
  refine call_range_1 ?_
  exact ⟨.ref s.heap.objs.size, _, I.laid (t' := s.toks + 1 + 1) (fun b o e => Heap.get?_push_of_some _ e) (Nat.le_refl _) (show ObjOk X.prog X.w _ _ _ (.rng 0 j) from ⟨s.toks, t, s.toks + 1, Heap.get?_push_size _ rfl⟩), rfl, q _ (I.hok.fresh (Nat.le_refl _))⟩
theorem vals_items {n : Nat} {acc : Array Value} (h : ItemsOf (fun i v => ∃ t, v = .int (0 + (i : Int) * 1) t) acc n) : Vals (nv (List.range n)) acc.toList := by
  obtain ⟨h1, h2⟩ := h
  have gen : ∀ (l : List Value) (k : Nat), (∀ j v, l[j]? = some v → ∃ t, v = Value.int (0 + ((k + j : Nat) : Int) * 1) t) → Vals (nv ((List.range l.length).map (k + ·))) l := by
    intro l
    induction l with
    | nil => intro k _; exact .nil
    | cons v l ih =>
      intro k hk
      rw [List.length_cons, List.range_succ_eq_map, List.map_cons, List.map_map]
      refine .cons ?_ ?_
      · obtain ⟨t, e⟩ := hk 0 v rfl
        exact ⟨t, by rw [e]; congr 1; omega⟩
      · have := ih (k + 1) fun j v h => by
          obtain ⟨t, e⟩ := hk (j + 1) v h
          exact ⟨t, by rw [e]; congr 1; omega⟩
        have e : ((List.range l.length).map ((k + ·) ∘ Nat.succ)) = (List.range l.length).map (k + 1 + ·) := List.map_congr_left fun j _ => by show k + (j + 1) = k + 1 + j; omega
        rw [e]
        exact this
  have := gen acc.toList 0 fun j v h => by
    have := h2 j v (by rw [← Array.getElem?_toList]; exact h)
    rw [Nat.zero_add]
    exact this
  have e : (List.range acc.toList.length).map (0 + ·) = List.range n := by
    rw [show acc.toList.length = n from h1]
    conv => rhs; rw [← List.map_id (List.range n)]
    exact List.map_congr_left fun j _ => by show 0 + j = j; omega
  rw [e] at this
  exact this
theorem call_list_rng (hc : X.calm = true) : CallR X (.type "list") (fun xs H Q => ∃ (p : Addr) (n : Nat), xs = [.ref p] ∧ H p = some (.rng 0 (n : Int)) ∧ n ≤ 100 ∧ ∀ l, H l = none → Q (.ref l) (upd H l (.lst (nv (List.range n))))) := by
  intro pins s σ H xs us Q I r h
  obtain ⟨p, n, rfl, hp, hn, q⟩ := h
  obtain ⟨u, rfl, rx⟩ := vals1 r
  cases rx
  obtain ⟨t, u, v, hr⟩ := I.hok p _ hp
  refine call_list_range (n := n) (I.ok.hd hc) hr (small_one (by omega) (by omega) (by omega) (by omega)) ?_ (Nat.le_trans hn (by decide)) fun h' tk acc' c' kp e it => ?_
  · rw [rangeSize_one]
    split <;> omega
  · have hv := vals_items it
    refine ⟨.ref s.heap.objs.size, _, I.laid (t' := tk) kp (Nat.le_refl _) (show ObjOk X.prog X.w _ h' _ (.lst (nv (List.range n))) from ⟨?_, acc'.toList, c', hv, ?_⟩), rfl, q _ (I.hok.fresh (Nat.le_refl _))⟩
    · rw [nv_length, List.length_range]
      exact sz (by omega)
    · rw [Array.toArray_toList]
      exact e
end
/-! ### the days told of -/
theorem bests_fst (fee keep : Nat) (nd : List Nat) (ds : List Nat) : (bests fee keep nd ds).map (·.1) = ds := by
  induction ds using snoc_ind with
  | h0 => rfl
  | h1 ds d ih => rw [bests_snoc, List.map_append, ih]; rfl
theorem bests_size (fee keep : Nat) (nd : List Nat) (ds : List Nat) : Asc ds → (∀ x ∈ ds, x < nd.length) → ∀ b ∈ bests fee keep nd ds, ∀ z, b.2 = some z → z.2.length ≤ ds.length := by
  induction ds using snoc_ind with
  | h0 =>
    intro _ _ b hb
    cases hb
  | h1 ds d ih =>
    intro ha hb b hm z hz
    obtain ⟨a1, a2⟩ := asc_snoc.mp ha
    have hd : d < nd.length := hb d (List.mem_append_right _ (.head _))
    rw [bests_snoc, List.mem_append, List.mem_singleton] at hm
    rw [List.length_append]
    rcases hm with hm | rfl
    · have := ih a1 (fun x hx => hb x (List.mem_append_left _ hx)) b hm z hz
      show _ ≤ _ + 1
      omega
    · rw [bestBefore_eq fee keep nd ds d a1 a2 (by omega)] at hz
      obtain ⟨T, hT, e⟩ := List.mem_map.mp (pick_mem hz)
      have : z.2 = T := by
        cases q : sv fee keep (nd.take d) T with
        | none => rw [q] at e; cases e
        | some c =>
          rw [q] at e
          cases e
          rfl
      rw [this]
      have := (subsets_sub hT).length_le
      show _ ≤ _ + 1
      omega
theorem valV_no {kvs : List (Key × V)} {k : Key} (h : ¬ k ∈ kvs.map (·.1)) : valV kvs k = none := by
  unfold valV
  rw [List.find?_eq_none.mpr]
  · rfl
  · intro p hp e
    exact h (List.mem_map.mpr ⟨p, hp, of_decide_eq_true e⟩)
section
variable {P : Program} {w : World} {K : PySem.W.Frag} {mg : Str → Option Value} {base : Heap}
/-! ### best_alone -/
abbrev sAlone : Stmt := top 7
def spAlone (K : PySem.W.Frag) : Sp := fun vs H Q _ => ∃ (a b : Addr) (fee keep : Nat) (ds nl : List Nat), vs = [.ref a, .ref b, .int (fee : Int), .int (keep : Int)] ∧ SqL K H a (nv ds) ∧ SqL K H b (nv nl) ∧ Asc ds ∧ (∀ x ∈ ds, x < nl.length) ∧ ds.length ≤ 100 ∧ nl.length ≤ 100 ∧ fee < 4294967296 ∧ keep < 4294967296 ∧
  ∀ (H' : Hp) (v : V), Same H H' → BV H' v (bb fee keep nl ds nl.length) → Q v H'
theorem scAlone : FnScope ["days", "needs", "fee", "keep", "best", "day"] ["days", "needs", "fee", "keep"] (defScope sAlone) := ⟨rfl, rfl, rfl, by decide +kernel, rfl, by decide +kernel, by decide +kernel⟩
theorem ok_alone {f fB : Addr} {fd fdB : FuncData} (F : Fun K "best_alone" "best_alone" sAlone f fd) (O : Own mg) (GB : FnOk P w K mg base CX0 2 fB fdB ["end", "best", "needs", "fee", "keep"] (spBefore K)) (mB : mg "best_before" = some (.ref fB)) (kB : PySem.W.keepIn K (.ref fB) = true) (bB : Binds K fdB ["end", "best", "needs", "fee", "keep"] []) :
    FnOk P w K mg base CX0 3 f fd ["days", "needs", "fee", "keep"] (spAlone K) := by
  refine F.ok scAlone (fun vs H Q E h => ?_) (fun cdv A outer s H vs Q E hr h => ?_)
  · obtain ⟨a, b, fee, keep, ds, nl, rfl, _⟩ := h
    rfl
  · obtain ⟨a, b, fee, keep, ds, nl, rfl, ha, hb, hA, hB, hz1, hz2, hf, hk, k⟩ := h
    have nd := scAlone.nd
    have hu := hu_of hr
    refine ⟨_, pss_cons (ps_set (i := 4) nd rfl (Or.inl rfl) pe_dnewK)
      (pss_cons (ps_for PassesOwn.never rfl (pi_list (pv 0)) (pg_name (i := 5) nd rfl (Or.inl rfl))
        (pss_one (ps_dput hu (pv 4) (pv 5) (pe_call GB hr rfl mB kB bB .nil pass0 (pa_cons (pv 5) (pa_cons (pv 4) (pa_cons (pv 1) (pa_cons (pv 2) (pa_cons (pv 3) pa_nil)))))) rfl)))
      (pss_one (ps_ret (pe_call GB hr rfl mB kB bB .nil pass0 (pa_cons (pe_callB call_len_seq (by rfl) O.len PySem.boot_len (pa_cons (pv 1) pa_nil)) (pa_cons (pv 4) (pa_cons (pv 1) (pa_cons (pv 2) (pa_cons (pv 3) pa_nil))))))))), ?_⟩
    intro D hD
    have s0 : Same H (upd H D (.dK [])) := Same.new (.refl H) hD
    refine ⟨_, rfl, a, rfl, ⟨_, s0.seq ha⟩, for_list (K := K) (a := a) (xs := nv ds) (fun i σ H' => ∃ (m : Option V) (kvs : List (Key × V)), σ = [some (.ref a), some (.ref b), some (.int (fee : Int)), some (.int (keep : Int)), some (.ref D), m] ∧ Same H H' ∧ H' D = some (.dK kvs) ∧ KB H' kvs (bests fee keep nl (ds.take i)) ∧ i ≤ ds.length)
      ⟨none, [], rfl, s0, upd_same, .nil, Nat.zero_le _⟩ (fun i σ H' _ ⟨_, _, _, s5, _⟩ => s5.seq ha) ?_ ?_⟩
    · rintro i x σ H' hx ⟨m, kvs, rfl, s5, hd, hKB, hi⟩
      obtain ⟨d, hdd, rfl⟩ := nv_at hx
      have hi' : i + 1 ≤ ds.length := (List.getElem?_eq_some_iff.mp hdd).1
      have hAt : Asc (ds.take i ++ [d]) := by rw [← take_snoc hdd]; exact hA.sub (List.take_sublist _ _)
      obtain ⟨a1, a2⟩ := asc_snoc.mp hAt
      have hdn : d < nl.length := hB d (List.mem_of_getElem? hdd)
      have hBt : ∀ x ∈ ds.take i, x < nl.length := fun x hx => hB x (List.mem_of_mem_take hx)
      have hfst := bests_fst fee keep nl (ds.take i)
      refine ⟨_, rfl, _, rfl, _, rfl, _, rfl, _, rfl, ?_⟩
      refine ⟨d, D, b, fee, keep, nl, kvs, bests fee keep nl (ds.take i), rfl, hd, hKB, ?_, ?_, ?_, s5.seq hb, by omega, hz2, hf, hk, fun H2 v s6 hv => ?_⟩
      · rw [hfst]
        exact List.Pairwise.imp (fun h => Nat.ne_of_lt h) a1
      · intro y hy
        have : y.1 ∈ ds.take i := by rw [← hfst]; exact List.mem_map.mpr ⟨y, hy, rfl⟩
        exact Nat.le_of_lt (a2 _ this)
      · intro y hy z hz
        have := bests_size fee keep nl (ds.take i) a1 hBt y hy z hz
        rw [List.length_take] at this
        omega
      · have hd2 := s6 _ _ hd
        have hkl : kvs.length = i := by
          rw [paired_length hKB]
          have := congrArg List.length hfst
          rw [List.length_map, List.length_take] at this
          omega
        refine ⟨_, rfl, _, rfl, D, _, rfl, DPut.k (k := Sum.inl (d : Int)) hd2 (by rw [hkl]; exact szl (by omega)), ?_⟩
        have hnew : valV kvs (Sum.inl (d : Int)) = none := by
          refine valV_no ?_
          rw [paired_map (f := fun kv : Key × V => kv.1) (g := fun b : Nat × Option (Nat × List Nat) => (Sum.inl (b.1 : Int) : Key)) (fun x y q => q.1) hKB]
          intro hm
          obtain ⟨y, hy, e⟩ := List.mem_map.mp hm
          have e := Sum.inl.inj e
          have : y.1 ∈ ds.take i := by rw [← hfst]; exact List.mem_map.mpr ⟨y, hy, rfl⟩
          have := a2 _ this
          omega
        rw [putK_new v hnew]
        refine ⟨_, kvs ++ [(Sum.inl (d : Int), v)], rfl, (s5.trans s6).chg hD, upd_same, ?_, hi'⟩
        rw [take_snoc hdd, bests_snoc]
        exact Paired.snoc (paired_imp (fun x y q => ⟨q.1, BV.past hd2 (BV.same s6 q.2)⟩) hKB) ⟨rfl, BV.past hd2 hv⟩
    · rintro σ H' ⟨m, kvs, rfl, s5, hd, hKB, hi⟩
      rw [nv_length, List.take_length] at hKB
      have hfst := bests_fst fee keep nl ds
      refine ⟨_, rfl, b, _, rfl, .inl (s5.seq hb), _, rfl, _, rfl, _, rfl, _, rfl, ?_⟩
      refine ⟨nl.length, D, b, fee, keep, nl, kvs, bests fee keep nl ds, by rw [nv_length]; rfl, hd, hKB, ?_, ?_, ?_, s5.seq hb, Nat.le_refl _, hz2, hf, hk, fun H2 v s6 hv => ?_⟩
      · rw [hfst]
        exact List.Pairwise.imp (fun h => Nat.ne_of_lt h) hA
      · intro y hy
        have : y.1 ∈ ds := by rw [← hfst]; exact List.mem_map.mpr ⟨y, hy, rfl⟩
        exact Nat.le_of_lt (hB _ this)
      · intro y hy z hz
        have := bests_size fee keep nl ds hA hB y hy z hz
        omega
      · rw [← bestAlone_eq hA hB] at k
        exact k H2 v (s5.trans s6) hv
/-! ### alone_cost -/
abbrev sACost : Stmt := top 8
def spACost (K : PySem.W.Frag) : Sp := fun vs H Q _ => ∃ (b : Addr) (fee keep : Nat) (nl : List Nat), vs = [.ref b, .int (fee : Int), .int (keep : Int)] ∧ SqL K H b (nv nl) ∧ nl.length ≤ 100 ∧ fee < 4294967296 ∧ keep < 4294967296 ∧
  ∀ (H' : Hp), Same H H' → Q (.int (Su88.alone fee keep nl : Int)) H'
theorem scACost : FnScope ["needs", "fee", "keep"] ["needs", "fee", "keep"] (defScope sACost) := ⟨rfl, rfl, rfl, by decide +kernel, rfl, by decide +kernel, by decide +kernel⟩
theorem ok_acost {f fA : Addr} {fd fdA : FuncData} (F : Fun K "alone_cost" "alone_cost" sACost f fd) (O : Own mg) (GA : FnOk P w K mg base CX0 3 fA fdA ["days", "needs", "fee", "keep"] (spAlone K)) (mA : mg "best_alone" = some (.ref fA)) (kA : PySem.W.keepIn K (.ref fA) = true) (bA : Binds K fdA ["days", "needs", "fee", "keep"] []) :
    FnOk P w K mg base CX0 4 f fd ["needs", "fee", "keep"] (spACost K) := by
  refine F.ok scACost (fun vs H Q E h => ?_) (fun cdv A outer s H vs Q E hr h => ?_)
  · obtain ⟨b, fee, keep, nl, rfl, _⟩ := h
    rfl
  · obtain ⟨b, fee, keep, nl, rfl, hb, hz, hf, hk, k⟩ := h
    refine ⟨_, pss_one (ps_ret (pe_ix ix_tup (pe_call GA hr rfl mA kA bA .nil pass0 (pa_cons (pe_callTy (call_list_rng rfl) (by rfl) O.list boot_list (pa_cons (pe_callTy call_rng (by rfl) O.range boot_range (pa_cons (pe_callB call_len_seq (by rfl) O.len PySem.boot_len (pa_cons (pv 0) pa_nil)) pa_nil)) pa_nil)) (pa_cons (pv 0) (pa_cons (pv 1) (pa_cons (pv 2) pa_nil))))) pe_int (fun _ _ => rfl))), ?_⟩
    refine ⟨_, rfl, b, _, rfl, .inl hb, _, rfl, fun q0 hq0 => ⟨q0, nl.length, rfl, by rw [upd_same, nv_length], hz, fun q1 hq1 => ?_⟩⟩
    have s0 : Same H (upd H q0 (.rng 0 ((nv nl).length : Int))) := Same.new (.refl H) hq0
    have s1 := s0.new (o := .lst (nv (List.range nl.length))) hq1
    refine ⟨_, rfl, _, rfl, _, rfl, ?_⟩
    refine ⟨q1, b, fee, keep, List.range nl.length, nl, rfl, SqL.of upd_same, s1.seq hb, asc_range _, fun x hx => List.mem_range.mp hx, by rw [List.length_range]; exact hz, hz, hf, hk, fun H2 v s2 hv => ?_⟩
    obtain ⟨c, S, e, _⟩ := bb_range_some fee keep nl
    rw [e] at hv
    obtain ⟨p, l, rfl, hp, hl⟩ := hv
    refine ⟨p, _, _, _, rfl, rfl, SqT.of hp, rfl, ?_⟩
    rw [alone_of e] at k
    exact k H2 (s1.trans s2)
end
end TS
end
section
set_option Elab.async false
set_option Elab.async false
set_option linter.all false
set_option maxRecDepth 100000
set_option maxHeartbeats 2000000
namespace TS
open PySem PySem.Spec PyProof.Rows L2
theorem paired_append {a b : Type} {F : a → b → Prop} : ∀ {l l' : List a} {r r' : List b}, Paired F l r → Paired F l' r' → Paired F (l ++ l') (r ++ r')
  | _, _, _, _, .nil, h => h
  | _, _, _, _, .cons q t, h => .cons q (paired_append t h)
/-- a def that is called by its name -/
structure Cal (P : Program) (w : World) (K : PySem.W.Frag) (mg : Str → Option Value) (base : Heap) (k : Nat) (x : Str) (f : Addr) (fd : FuncData) (ps : List Str) (sp : Sp) : Prop where
  ok : FnOk P w K mg base CX0 k f fd ps sp
  m : mg x = some (.ref f)
  kp : PySem.W.keepIn K (.ref f) = true
  b : Binds K fd ps []
/-- lists of whole numbers, at these places -/
abbrev LL (H : Hp) (as : List Addr) (L : List (List Nat)) : Prop := Paired (fun a S => H a = some (.lst (nv S))) as L
section
variable {P : Program} {w : World} {K : PySem.W.Frag} {mg : Str → Option Value} {base : Heap}
/-! ### day_sets -/
abbrev sSets : Stmt := top 9
def spSets : Sp := fun vs H Q _ => ∃ n : Nat, vs = [.int (n : Int)] ∧ n ≤ 7 ∧
  ∀ (H' : Hp) (q : Addr) (as : List Addr), Same H H' → H' q = some (.lst (as.map V.ref)) → LL H' as (Su88.subsets (List.range n)) → Q (.ref q) H'
theorem scSets : FnScope ["count", "sets", "day", "days"] ["count"] (defScope sSets) := ⟨rfl, rfl, rfl, by decide +kernel, rfl, by decide +kernel, by decide +kernel⟩
theorem blkSets : BlkOk ["count", "sets", "day", "days"] (defScope sSets) { kind := .function, names := [(".0", .local), ("days", .local), ("day", .free)], isGenerator := false, isCoroutine := false } [("days", 3)] := ⟨rfl, by decide +kernel, by decide +kernel, by decide +kernel, by decide +kernel⟩
theorem pow_le {i n : Nat} (h : i ≤ n) (hn : n ≤ 7) : 2 ^ i ≤ 128 := Nat.le_trans (Nat.pow_le_pow_right (by decide) (Nat.le_trans h hn)) (by decide)
theorem ok_sets {f : Addr} {fd : FuncData} (F : Fun K "day_sets" "day_sets" sSets f fd) (O : Own mg) : FnOk P w K mg base CX0 1 f fd ["count"] spSets := by
  refine F.ok scSets (fun vs H Q E h => ?_) (fun cdv A outer s H vs Q E hr h => ?_)
  · obtain ⟨n, rfl, _⟩ := h
    rfl
  · obtain ⟨n, rfl, hn, k⟩ := h
    have nd := scSets.nd
    refine ⟨_, pss_cons (ps_set (i := 1) nd rfl (Or.inl rfl) (pe_lst (pa_cons (pe_lst pa_nil) pa_nil)))
      (pss_cons (ps_for PassesOwn.never rfl (pi_range1 rfl O.range (pa_cons (pv 0) pa_nil)) (pg_name (i := 2) nd rfl (Or.inr rfl))
        (pss_one (ps_set (i := 1) nd rfl (Or.inl rfl) (pe_op op_cat (pv 1) (pe_lc (own := [("days", 3)]) rfl nd (pi_list (pv 1)) blkSets (fun _ _ _ _ _ => pg_name (i := 3) nd rfl (Or.inl rfl)) (fun _ _ _ _ _ => pts_nil) (fun _ _ _ _ _ => pe_op op_cat (pv 3) (pe_lst (pa_cons (pv 2) pa_nil))))))))
      (pss_one (ps_ret (pv 1)))), ?_⟩
    refine ⟨Nat.zero_le _, fun q0 hq0 => ⟨by show 1 ≤ sizeLine; decide, fun q1 hq1 => ?_⟩⟩
    have s0 : Same H (upd H q0 (.lst [])) := Same.new (.refl H) hq0
    have s1 := s0.new (o := .lst [V.ref q0]) hq1
    refine ⟨_, rfl, _, rfl, by omega, by omega, for_range (lo := 0) (n := (n : Int).toNat) (fun i σ H' => ∃ (q : Addr) (as : List Addr) (m : Option V), σ = [some (.int (n : Int)), some (.ref q), m, none] ∧ Same H H' ∧ H' q = some (.lst (as.map V.ref)) ∧ LL H' as (Su88.subsets (List.range i)) ∧ i ≤ n)
      ⟨q1, [q0], none, rfl, s1, upd_same, .cons (by rw [upd_ne (ne_of_none upd_same hq1)]; exact upd_same) .nil, Nat.zero_le _⟩ ?_ ?_⟩
    · rintro i σ H' hi ⟨q, as, m, rfl, s5, hq, hLL, hin⟩
      have hi' : i + 1 ≤ n := by omega
      have hl1 : as.length = 2 ^ i := by rw [paired_length hLL, subsets_length, List.length_range]
      have hl2 : as.length ≤ 128 := by rw [hl1]; exact pow_le hin hn
      refine ⟨_, rfl, _, rfl, q, rfl, ⟨_, SqL.of hq⟩, fun D hD => ?_⟩
      have s6 : Same H' (upd H' D (.lst [])) := Same.new (.refl H') hD
      refine lc_list (K := K) (a := q) (xs := as.map V.ref) (fun j H2 => Same H' H2 ∧ ∃ bs : List Addr, H2 D = some (.lst (bs.map V.ref)) ∧ (∀ b ∈ bs, b ≠ D) ∧ LL H2 bs (((Su88.subsets (List.range i)).take j).map (· ++ [i])) ∧ bs.length = j ∧ j ≤ as.length)
        ⟨s6, [], upd_same, (fun b hb => by cases hb), .nil, rfl, Nat.zero_le _⟩ (fun j H2 _ q7 => SqL.of (q7.1 _ _ hq)) ?_ ?_
      · rintro j x H2 hx ⟨s7, bs, hD2, hne, hB, hbl, hj⟩
        obtain ⟨aS, haS, rfl⟩ : ∃ aS, as[j]? = some aS ∧ x = V.ref aS := by
          rw [List.getElem?_map] at hx
          cases e : as[j]? with
          | none => rw [e] at hx; cases hx
          | some z => rw [e] at hx; exact ⟨z, rfl, (Option.some.inj hx).symm⟩
        obtain ⟨S, hS, hSv⟩ := paired_get hLL haS
        have hSl : S.length ≤ 7 := by
          have := (subsets_sub (List.mem_of_getElem? hS)).length_le
          rw [List.length_range] at this
          omega
        have hj' : j + 1 ≤ as.length := (List.getElem?_eq_some_iff.mp haS).1
        refine ⟨rfl, ?_⟩
        dsimp only [tYes]
        rw [if_pos rfl]
        refine ⟨_, rfl, _, rfl, by show 1 ≤ sizeLine; decide, fun p1 hp1 => ?_⟩
        have s8 : Same H2 (upd H2 p1 (.lst [V.int (0 + (i : Int))])) := Same.new (.refl H2) hp1
        refine ⟨aS, p1, _, _, rfl, rfl, s8 _ _ (s7 _ _ hSv), upd_same, by rw [nv_length]; exact sz (by show _ + 1 ≤ _; omega), fun p2 hp2 => ?_⟩
        have s9 := s8.new (o := .lst (nv S ++ [V.int (0 + (i : Int))])) hp2
        have n2 : D ≠ p2 := ne_of_none (s8 _ _ hD2) hp2
        refine ⟨_, s9 _ _ hD2, by rw [List.length_map, hbl]; exact szl (by omega), fun b o e => by rw [upd_ne (ne_of_none e hD)]; exact s9 _ _ (s7 _ _ e), bs ++ [p2], by rw [upd_same, List.map_append]; rfl, ?_, ?_, by rw [List.length_append, hbl]; rfl, hj'⟩
        · intro b hb
          rw [List.mem_append, List.mem_singleton] at hb
          rcases hb with hb | rfl
          · exact hne b hb
          · exact fun z => n2 z.symm
        · rw [take_snoc hS, List.map_append]
          refine Paired.snoc ?_ (by
            rw [upd_ne (fun z => n2 z.symm), upd_same, nv_append]
            show some (HO.lst (nv S ++ [V.int (0 + (i : Int))])) = some (HO.lst (nv S ++ [V.int (i : Int)]))
            rw [Int.zero_add])
          have gen : ∀ {bs' : List Addr} {L : List (List Nat)}, (∀ b ∈ bs', b ≠ D) → LL H2 bs' L → LL (upd (upd (upd H2 p1 (.lst [V.int (0 + (i : Int))])) p2 (.lst (nv S ++ [V.int (0 + (i : Int))]))) D (.lst (bs.map V.ref ++ [V.ref p2]))) bs' L := by
            intro bs'
            induction bs' with
            | nil =>
              intro L _ h
              cases h
              exact .nil
            | cons b bs' ih =>
              intro L hn h
              cases h with
              | cons h1 h2 => exact .cons (by rw [upd_ne (hn b (.head _))]; exact s9 _ _ h1) (ih (fun c hc => hn c (.tail _ hc)) h2)
          exact gen hne hB
      · rintro H2 ⟨s7, bs, hD2, hne, hB, hbl, hj⟩
        rw [List.length_map, paired_length hLL, List.take_length] at hB
        refine ⟨q, D, _, _, rfl, rfl, s7 _ _ hq, hD2, ?_, fun p hp => ?_⟩
        · rw [List.length_map, List.length_map, hbl, List.length_map]
          exact sz (by omega)
        · have s8 : Same H2 (upd H2 p (.lst (as.map V.ref ++ bs.map V.ref))) := Same.new (.refl H2) hp
          refine ⟨p, as ++ bs, _, rfl, (s5.trans s7).trans s8, by rw [upd_same, List.map_append], ?_, hi'⟩
          rw [List.range_succ, subsets_snoc]
          exact paired_append (paired_imp (fun x y e => s8 _ _ (s7 _ _ e)) hLL) (paired_imp (fun x y e => s8 _ _ e) hB)
    · rintro σ H' ⟨q, as, m, rfl, s5, hq, hLL, hin⟩
      rw [Int.toNat_natCast] at hLL
      exact ⟨_, rfl, k H' q as s5 hq hLL⟩
/-! ### plan_cost -/
abbrev sPCost : Stmt := top 4
def spPCost (K : PySem.W.Frag) : Sp := fun vs H Q _ => ∃ (o b a f k : Addr) (os bs : List Nat) (A : Su88.Abs) (c : Nat), vs = [.ref o, .ref b, .ref a, .ref f, .ref k] ∧ SqL K H o (nv os) ∧ SqL K H b (nv bs) ∧ SqL K H a (nv A.needs) ∧ SqT K H f [.int (A.up : Int), .int (A.down : Int)] ∧ SqT K H k [.int (A.above : Int), .int (A.below : Int)] ∧
  os.length = A.needs.length ∧ bs.length = A.needs.length ∧ A.needs.length ≤ 7 ∧ A.up < 4294967296 ∧ A.down < 4294967296 ∧ A.above < 4294967296 ∧ A.below < 4294967296 ∧ A.cost os bs = some c ∧ ∀ H', Same H H' → Q (.int (c : Int)) H'
theorem scPCost : FnScope ["ordered", "brought", "needs", "fees", "keeps", "above", "below"] ["ordered", "brought", "needs", "fees", "keeps"] (defScope sPCost) := ⟨rfl, rfl, rfl, by decide +kernel, rfl, by decide +kernel, by decide +kernel⟩
theorem ok_pcost {f fL fS : Addr} {fd fdL fdS : FuncData} (F : Fun K "plan_cost" "plan_cost" sPCost f fd) (O : Own mg) (CL : Cal P w K mg base 1 "left_behind" fL fdL ["came", "went"] (spLeft K)) (CS : Cal P w K mg base 1 "store_cost" fS fdS ["fee", "keep", "came", "behind"] (spStore K)) :
    FnOk P w K mg base CX0 2 f fd ["ordered", "brought", "needs", "fees", "keeps"] (spPCost K) := by
  refine F.ok scPCost (fun vs H Q E h => ?_) (fun cdv A outer s H vs Q E hr h => ?_)
  · obtain ⟨o, b, a, f, k, os, bs, A, c, rfl, _⟩ := h
    rfl
  · obtain ⟨o, b, a, f, kk, os, bs, A, c, rfl, ho, hb, ha, hf, hk, lo, lb, hz, b1, b2, b3, b4, hc, k⟩ := h
    have nd := scPCost.nd
    refine ⟨_, pss_cons (ps_set (i := 5) nd rfl (Or.inl rfl) (pe_call CS.ok hr rfl CS.m CS.kp CS.b .nil pass0 (pa_cons (pe_ix ix_tup (pv 3) pe_int (fun _ _ => rfl)) (pa_cons (pe_ix ix_tup (pv 4) pe_int (fun _ _ => rfl)) (pa_cons (pv 0) (pa_cons (pe_call CL.ok hr rfl CL.m CL.kp CL.b .nil pass0 (pa_cons (pv 0) (pa_cons (pv 1) pa_nil))) pa_nil))))))
      (pss_cons (ps_set (i := 6) nd rfl (Or.inl rfl) (pe_call CS.ok hr rfl CS.m CS.kp CS.b .nil pass0 (pa_cons (pe_ix ix_tup (pv 3) pe_int (fun _ _ => rfl)) (pa_cons (pe_ix ix_tup (pv 4) pe_int (fun _ _ => rfl)) (pa_cons (pv 1) (pa_cons (pe_call CL.ok hr rfl CL.m CL.kp CL.b .nil pass0 (pa_cons (pv 1) (pa_cons (pv 2) pa_nil))) pa_nil))))))
      (pss_one (ps_ret (pe_op op_add (pv 5) (pv 6))))), ?_⟩
    unfold Su88.Abs.cost at hc
    cases ex : Su88.lies 0 os bs with
    | none => rw [ex] at hc; cases hc
    | some x =>
    cases ey : Su88.lies 0 bs A.needs with
    | none => rw [ex, ey] at hc; cases hc
    | some y =>
    rw [ex, ey] at hc
    have hc := Option.some.inj hc
    refine ⟨_, rfl, f, _, _, _, rfl, rfl, hf, rfl, _, rfl, kk, _, _, _, rfl, rfl, hk, rfl, _, rfl, _, rfl, _, rfl, ?_⟩
    refine ⟨o, b, os, bs, rfl, ho, hb, by omega, by omega, (fun h => by rw [ex] at h; cases h), fun x' hx' H1 p1 s1 n1 hp1 => ?_⟩
    rw [ex] at hx'
    cases hx'
    refine ⟨A.up, A.above, o, p1, os, x, rfl, s1.seq ho, SqL.of hp1, by omega, b1, b3, fun H2 s2 => ?_⟩
    have s12 := s1.trans s2
    refine ⟨_, rfl, f, _, _, _, rfl, rfl, s12.tup hf, rfl, _, rfl, kk, _, _, _, rfl, rfl, s12.tup hk, rfl, _, rfl, _, rfl, _, rfl, ?_⟩
    refine ⟨b, a, bs, A.needs, rfl, s12.seq hb, s12.seq ha, by omega, by omega, (fun h => by rw [ey] at h; cases h), fun y' hy' H3 p3 s3 n3 hp3 => ?_⟩
    rw [ey] at hy'
    cases hy'
    have s13 := s12.trans s3
    refine ⟨A.down, A.below, b, p3, bs, y, rfl, s13.seq hb, SqL.of hp3, by omega, b2, b4, fun H4 s4 => ?_⟩
    refine ⟨_, rfl, _, rfl, _, _, rfl, rfl, ?_⟩
    have e : (((A.up * Su88.times os + A.above * x.sum : Nat) : Int) + ((A.down * Su88.times bs + A.below * y.sum : Nat) : Int)) = (c : Int) := by
      rw [← hc]
      omega
    have := k H4 (s13.trans s4)
    rw [← e] at this
    exact this
end
end TS
end
section
set_option Elab.async false
set_option Elab.async false
set_option linter.all false
set_option maxRecDepth 100000
set_option maxHeartbeats 2000000
namespace TS
open PySem PySem.Spec PyProof.Rows L2
/-- how a plan told stands in the heap -/
def PV (H : Hp) (v : V) : Option (Nat × List Nat × List Nat) → Prop
  | none => v = .non
  | some z => ∃ p o b : Addr, v = .ref p ∧ H p = some (.tup [.int (z.1 : Int), .ref o, .ref b]) ∧ H o = some (.lst (nv z.2.1)) ∧ H b = some (.lst (nv z.2.2))
theorem PV.same {H H' : Hp} {v : V} {x : Option (Nat × List Nat × List Nat)} (s : Same H H') (h : PV H v x) : PV H' v x := by
  cases x with
  | none => exact h
  | some z =>
    obtain ⟨p, o, b, e, h1, h2, h3⟩ := h
    exact ⟨p, o, b, e, s _ _ h1, s _ _ h2, s _ _ h3⟩
theorem best_fold (A : Su88.Abs) : A.best = (Su88.subsets (List.range A.needs.length)).foldl (fun t s => better t (plan1 A s)) none := by
  rw [best_eq]
  unfold pick
  rw [List.foldl_map]
/-- the fees and keeping, as bounded here -/
structure Fits (A : Su88.Abs) : Prop where
  days : A.needs.length ≤ 7
  up : A.up < 4294967296
  down : A.down < 4294967296
  above : A.above < 4294967296
  below : A.below < 4294967296
section
variable {P : Program} {w : World} {K : PySem.W.Frag} {mg : Str → Option Value} {base : Heap}
/-! ### least_plan -/
abbrev sLeast : Stmt := top 10
/-- a shop's needs, fees and keeping are handed over -/
def Given (K : PySem.W.Frag) (vs : List V) (H : Hp) (A : Su88.Abs) : Prop := ∃ a f k : Addr, vs = [.ref a, .ref f, .ref k] ∧ SqL K H a (nv A.needs) ∧ SqT K H f [.int (A.up : Int), .int (A.down : Int)] ∧ SqT K H k [.int (A.above : Int), .int (A.below : Int)] ∧ Fits A
def spLeast (K : PySem.W.Frag) : Sp := fun vs H Q _ => ∃ A : Su88.Abs, Given K vs H A ∧ ∀ (H' : Hp) (v : V), Same H H' → PV H' v A.best → Q v H'
theorem scLeast : FnScope ["needs", "fees", "keeps", "told", "days", "brought", "behind", "above", "price"] ["needs", "fees", "keeps"] (defScope sLeast) := ⟨rfl, rfl, rfl, by decide +kernel, rfl, by decide +kernel, by decide +kernel⟩
theorem ok_least {f fSe fAm fL fA fS : Addr} {fd fdSe fdAm fdL fdA fdS : FuncData} (F : Fun K "least_plan" "least_plan" sLeast f fd) (O : Own mg) (CSe : Cal P w K mg base 1 "day_sets" fSe fdSe ["count"] spSets) (CAm : Cal P w K mg base 1 "amounts" fAm fdAm ["days", "needs"] (spAmts K))
    (CL : Cal P w K mg base 1 "left_behind" fL fdL ["came", "went"] (spLeft K)) (CA : Cal P w K mg base 3 "best_alone" fA fdA ["days", "needs", "fee", "keep"] (spAlone K)) (CS : Cal P w K mg base 1 "store_cost" fS fdS ["fee", "keep", "came", "behind"] (spStore K)) :
    FnOk P w K mg base CX0 4 f fd ["needs", "fees", "keeps"] (spLeast K) := by
  refine F.ok scLeast (fun vs H Q E h => ?_) (fun cdv Ar outer s H vs Q E hr h => ?_)
  · obtain ⟨A, ⟨a, f, k, rfl, _⟩, _⟩ := h
    rfl
  · obtain ⟨A, ⟨a, f, kk, rfl, ha, hf, hk, hF⟩, k⟩ := h
    have hz := hF.days
    have nd := scLeast.nd
    have hr1 : Room 1 _ := hr.mono (by decide)
    refine ⟨_, pss_cons (ps_set (i := 3) nd rfl (Or.inl rfl) pe_non)
      (pss_cons (ps_for PassesOwn.never rfl (pi_list (pe_call CSe.ok hr1 rfl CSe.m CSe.kp CSe.b .nil pass0 (pa_cons (pe_callB call_len_seq (by rfl) O.len PySem.boot_len (pa_cons (pv 0) pa_nil)) pa_nil))) (pg_name (i := 4) nd rfl (Or.inl rfl))
        (pss_cons (ps_set (i := 5) nd rfl (Or.inl rfl) (pe_call CAm.ok hr1 rfl CAm.m CAm.kp CAm.b .nil pass0 (pa_cons (pv 4) (pa_cons (pv 0) pa_nil))))
        (pss_cons (ps_set (i := 6) nd rfl (Or.inl rfl) (pe_call CL.ok hr1 rfl CL.m CL.kp CL.b .nil pass0 (pa_cons (pv 5) (pa_cons (pv 0) pa_nil))))
        (pss_cons (ps_if (pt_cmp (pc_isN (pv 6))) (pss_one ps_continue) pss_nil)
        (pss_cons (ps_set (i := 7) nd rfl (Or.inl rfl) (pe_call CA.ok hr rfl CA.m CA.kp CA.b .nil pass0 (pa_cons (pv 4) (pa_cons (pv 5) (pa_cons (pe_ix ix_tup (pv 1) pe_int (fun _ _ => rfl)) (pa_cons (pe_ix ix_tup (pv 2) pe_int (fun _ _ => rfl)) pa_nil))))))
        (pss_cons (ps_set (i := 8) nd rfl (Or.inl rfl) (pe_op op_add (pe_ix ix_tup (pv 7) pe_int (fun _ _ => rfl)) (pe_call CS.ok hr1 rfl CS.m CS.kp CS.b .nil pass0 (pa_cons (pe_ix ix_tup (pv 1) pe_int (fun _ _ => rfl)) (pa_cons (pe_ix ix_tup (pv 2) pe_int (fun _ _ => rfl)) (pa_cons (pv 5) (pa_cons (pv 6) pa_nil)))))))
        (pss_one (ps_if (PW.pt (pw_or (pt_cmp (pc_isN (pv 3))) (pw_or1 (pt_cmpR op_lt (pv 8) (pe_ix ix_tup (pv 3) pe_int (fun _ _ => rfl)) (nomark _)))))
          (pss_one (ps_set (i := 3) nd rfl (Or.inl rfl) (pe_tup (pa_cons (pv 8) (pa_cons (pe_call CAm.ok hr1 rfl CAm.m CAm.kp CAm.b .nil pass0 (pa_cons (pe_ix ix_tup (pv 7) pe_int (fun _ _ => rfl)) (pa_cons (pv 5) pa_nil))) (pa_cons (pv 5) pa_nil)))))) pss_nil))))))))
      (pss_one (ps_ret (pv 3)))), ?_⟩
    refine ⟨_, rfl, a, _, rfl, .inl ha, A.needs.length, by rw [nv_length]; rfl, hz, fun H0 q0 as s0 hq0 hLL => ?_⟩
    refine ⟨q0, rfl, ⟨_, SqL.of hq0⟩, for_list (K := K) (a := q0) (xs := as.map V.ref) (fun i σ H' => ∃ (tv : V) (m1 m2 m3 m4 m5 : Option V), σ = [some (.ref a), some (.ref f), some (.ref kk), some tv, m1, m2, m3, m4, m5] ∧ Same H0 H' ∧
      PV H' tv (((Su88.subsets (List.range A.needs.length)).take i).foldl (fun t s => better t (plan1 A s)) none))
      ⟨.non, none, none, none, none, none, rfl, .refl _, rfl⟩ (fun i σ H' _ ⟨_, _, _, _, _, _, _, s5, _⟩ => SqL.of (s5 _ _ hq0)) ?_ ?_⟩
    · rintro i x σ H' hx ⟨tv, m1, m2, m3, m4, m5, rfl, s5, hP⟩
      obtain ⟨aS, haS, rfl⟩ : ∃ aS, as[i]? = some aS ∧ x = V.ref aS := by
        rw [List.getElem?_map] at hx
        cases e : as[i]? with
        | none => rw [e] at hx; cases hx
        | some z => rw [e] at hx; exact ⟨z, rfl, (Option.some.inj hx).symm⟩
      obtain ⟨S, hS, hSv⟩ := paired_get hLL haS
      have hSv : H0 aS = some (.lst (nv S)) := hSv
      have hSm := List.mem_of_getElem? hS
      obtain ⟨aA, aB⟩ := sub_lt hSm
      have hSl : S.length ≤ 7 := by
        have := (subsets_sub hSm).length_le
        rw [List.length_range] at this
        omega
      rw [take_snoc hS, List.foldl_append]
      have s05 := s0.trans s5
      -- brought
      refine ⟨_, rfl, _, rfl, aS, a, S, A.needs, rfl, SqL.of (s5 _ _ hSv), s05.seq ha, aA, aB, by omega, by omega, fun H1 pb s1 nb hpb => ?_⟩
      have s01 := s05.trans s1
      -- behind
      refine ⟨_, rfl, _, rfl, pb, a, Su88.covers A.needs S, A.needs, rfl, SqL.of hpb, s01.seq ha, covers_length _ _, by rw [covers_length]; omega, fun hno H2 s2 => ?_, fun y hy H2 ph s2 nh hph => ?_⟩
      · refine ⟨_, rfl, _, rfl, iteT ?_⟩
        refine ⟨tv, _, _, _, _, _, rfl, (s5.trans s1).trans s2, ?_⟩
        have : plan1 A S = none := by
          unfold plan1
          rw [hno]
        show PV H2 tv (better _ (plan1 A S))
        rw [this, better_none]
        exact PV.same (s1.trans s2) hP
      · refine ⟨_, rfl, _, rfl, iteF ?_⟩
        have s02 := s01.trans s2
        have hpb2 := s2 _ _ hpb
        have cl : (Su88.covers A.needs S).length = A.needs.length := covers_length _ _
        -- above
        refine ⟨_, rfl, _, rfl, _, rfl, f, _, _, _, rfl, rfl, s02.tup hf, rfl, _, rfl, kk, _, _, _, rfl, rfl, s02.tup hk, rfl, ?_⟩
        refine ⟨aS, pb, A.up, A.above, S, Su88.covers A.needs S, rfl, SqL.of (s2 _ _ (s1 _ _ (s5 _ _ hSv))), SqL.of hpb2, aA, fun x hx => by rw [cl]; exact aB x hx, by omega, by omega, hF.up, hF.above, fun H3 v s3 hv => ?_⟩
        obtain ⟨c0, hc0⟩ := sv_some A.up A.above S (Su88.covers A.needs S) aA (fun x hx => by rw [cl]; exact aB x hx) fun k _ hn => covers_off hn
        obtain ⟨⟨c, u⟩, hbb, _⟩ := bb_le (self_mem_subsets S) hc0
        rw [hbb] at hv
        have hum := (bb_mem hbb).1
        have hus := subsets_sub hum
        obtain ⟨p, l, rfl, hp, hl⟩ := hv
        have s03 := s02.trans s3
        refine ⟨_, rfl, p, _, _, _, rfl, rfl, SqT.of hp, rfl, ?_⟩
        -- price
        refine ⟨_, rfl, f, _, _, _, rfl, rfl, s03.tup hf, rfl, _, rfl, kk, _, _, _, rfl, rfl, s03.tup hk, rfl, _, rfl, _, rfl, ?_⟩
        refine ⟨A.down, A.below, pb, ph, Su88.covers A.needs S, y, rfl, SqL.of (s3 _ _ hpb2), SqL.of (s3 _ _ hph), by omega, hF.down, hF.below, fun H4 s4 => ⟨_, _, rfl, rfl, ?_⟩⟩
        have s04 := s03.trans s4
        have sH : Same H' H4 := ((s1.trans s2).trans s3).trans s4
        generalize hpr : A.down * Su88.times (Su88.covers A.needs S) + A.below * y.sum = pr
        have hpl : plan1 A S = some (c + pr, Su88.covers (Su88.covers A.needs S) u, Su88.covers A.needs S) := by
          unfold plan1
          rw [hy]
          show shift _ _ _ = _
          rw [← cl, hbb, hpr]
          rfl
        have ep : ((c : Int) + (pr : Int)) = ((c + pr : Nat) : Int) := by omega
        -- what is told then
        have tell : ∀ (D : Ends) (v0 : Option V), (∀ (H5 : Hp) (t5 : V), Same H4 H5 → PV H5 t5 (some (c + pr, Su88.covers (Su88.covers A.needs S) u, Su88.covers A.needs S)) → D.nx [some (.ref a), some (.ref f), some (.ref kk), some t5, some (.ref aS), some (.ref pb), some (.ref ph), some (.ref p), some (.int ((c : Int) + (pr : Int)))] H5) →
            tAsg (tTup (tCons (tVar 8) (tCons (tCall (spAmts K) [] E0 (tCons (tOp (rIxT K) (tVar 7) (tC (.int 1))) (tCons (tVar 5) tNil))) (tCons (tVar 5) tNil)))) (gName 3) D [some (.ref a), some (.ref f), some (.ref kk), v0, some (.ref aS), some (.ref pb), some (.ref ph), some (.ref p), some (.int ((c : Int) + (pr : Int)))] H4 := by
          intro D v0 kD
          refine ⟨_, rfl, _, rfl, p, _, _, _, rfl, rfl, SqT.of (s4 _ _ hp), rfl, _, rfl, ?_⟩
          refine ⟨l, pb, u, Su88.covers A.needs S, rfl, SqL.of (s4 _ _ hl), SqL.of (s4 _ _ (s3 _ _ hpb2)), aA.sub hus, fun x hx => by rw [cl]; exact aB x (hus.subset hx), by omega, Nat.le_trans hus.length_le (by omega), fun H5 po s6 no hpo => ?_⟩
          refine ⟨_, rfl, by show 3 ≤ sizeLine; decide, fun pt hpt => ?_⟩
          have s7 : Same H5 (upd H5 pt (.tup [.int ((c : Int) + (pr : Int)), .ref po, .ref pb])) := Same.new (.refl H5) hpt
          exact kD _ _ (s6.trans s7) ⟨pt, po, pb, rfl, by rw [upd_same, ep], s7 _ _ hpo, s7 _ _ (s6 _ _ (s4 _ _ (s3 _ _ hpb2)))⟩
        have hfold : ∀ X, [S].foldl (fun t s => better t (plan1 A s)) X = better X (some (c + pr, Su88.covers (Su88.covers A.needs S) u, Su88.covers A.needs S)) := fun X => by
          show better X (plan1 A S) = _
          rw [hpl]
        rw [hfold]
        have hP4 := PV.same sH hP
        revert hP4
        generalize ((Su88.subsets (List.range A.needs.length)).take i).foldl (fun t s => better t (plan1 A s)) none = X
        intro hP4
        cases X with
        | none =>
          have hP4 : tv = .non := hP4
          subst hP4
          refine ⟨_, rfl, _, rfl, iteT (iteT ?_)⟩
          exact tell _ _ fun H5 t5 s6 h6 => ⟨t5, _, _, _, _, _, rfl, (s5.trans sH).trans s6, h6⟩
        | some zt =>
          obtain ⟨pt, po, pb', rfl, hpt, hpo, hpb'⟩ := hP4
          refine ⟨_, rfl, _, rfl, iteF ⟨_, rfl, _, rfl, pt, _, _, _, rfl, rfl, SqT.of hpt, rfl, _, _, rfl, rfl, _, rfl, iteD (fun hlt => ?_) (fun hge => ?_)⟩⟩
          · have : better (some zt) (some (c + pr, Su88.covers (Su88.covers A.needs S) u, Su88.covers A.needs S)) = some (c + pr, Su88.covers (Su88.covers A.needs S) u, Su88.covers A.needs S) := if_pos (show c + pr < zt.1 by omega)
            rw [this]
            exact tell _ _ fun H5 t5 s6 h6 => ⟨t5, _, _, _, _, _, rfl, (s5.trans sH).trans s6, h6⟩
          · have : better (some zt) (some (c + pr, Su88.covers (Su88.covers A.needs S) u, Su88.covers A.needs S)) = some zt := if_neg (show ¬ c + pr < zt.1 by omega)
            rw [this]
            exact ⟨_, _, _, _, _, _, rfl, s5.trans sH, pt, po, pb', rfl, hpt, hpo, hpb'⟩
    · rintro σ H' ⟨tv, m1, m2, m3, m4, m5, rfl, s5, hP⟩
      rw [List.length_map, paired_length hLL, List.take_length, ← best_fold] at hP
      exact ⟨_, rfl, k H' tv (s0.trans s5) hP⟩
/-! ### greedy_cost -/
abbrev sGreedy : Stmt := top 11
def spGreedy (K : PySem.W.Frag) : Sp := fun vs H Q _ => ∃ A : Su88.Abs, Given K vs H A ∧ ∀ (H' : Hp), Same H H' → Q (.int (A.greedy : Int)) H'
theorem scGreedy : FnScope ["needs", "fees", "keeps", "below"] ["needs", "fees", "keeps"] (defScope sGreedy) := ⟨rfl, rfl, rfl, by decide +kernel, rfl, by decide +kernel, by decide +kernel⟩
theorem ok_greedy {f fAm fA fC : Addr} {fd fdAm fdA fdC : FuncData} (F : Fun K "greedy_cost" "greedy_cost" sGreedy f fd) (O : Own mg) (CAm : Cal P w K mg base 1 "amounts" fAm fdAm ["days", "needs"] (spAmts K))
    (CA : Cal P w K mg base 3 "best_alone" fA fdA ["days", "needs", "fee", "keep"] (spAlone K)) (CC : Cal P w K mg base 4 "alone_cost" fC fdC ["needs", "fee", "keep"] (spACost K)) :
    FnOk P w K mg base CX0 5 f fd ["needs", "fees", "keeps"] (spGreedy K) := by
  refine F.ok scGreedy (fun vs H Q E h => ?_) (fun cdv Ar outer s H vs Q E hr h => ?_)
  · obtain ⟨A, ⟨a, f, k, rfl, _⟩, _⟩ := h
    rfl
  · obtain ⟨A, ⟨a, f, kk, rfl, ha, hf, hk, hF⟩, k⟩ := h
    have hz := hF.days
    have nd := scGreedy.nd
    have hr1 : Room 1 _ := hr.mono (by decide)
    have hr3 : Room 3 _ := hr.mono (by decide)
    refine ⟨_, pss_cons (ps_set (i := 3) nd rfl (Or.inl rfl) (pe_call CA.ok hr3 rfl CA.m CA.kp CA.b .nil pass0 (pa_cons (pe_callTy (call_list_rng rfl) (by rfl) O.list boot_list (pa_cons (pe_callTy call_rng (by rfl) O.range boot_range (pa_cons (pe_callB call_len_seq (by rfl) O.len PySem.boot_len (pa_cons (pv 0) pa_nil)) pa_nil)) pa_nil)) (pa_cons (pv 0) (pa_cons (pe_ix ix_tup (pv 1) pe_int (fun _ _ => rfl)) (pa_cons (pe_ix ix_tup (pv 2) pe_int (fun _ _ => rfl)) pa_nil))))))
      (pss_one (ps_ret (pe_op op_add (pe_ix ix_tup (pv 3) pe_int (fun _ _ => rfl)) (pe_call CC.ok hr rfl CC.m CC.kp CC.b .nil pass0 (pa_cons (pe_call CAm.ok hr1 rfl CAm.m CAm.kp CAm.b .nil pass0 (pa_cons (pe_ix ix_tup (pv 3) pe_int (fun _ _ => rfl)) (pa_cons (pv 0) pa_nil))) (pa_cons (pe_ix ix_tup (pv 1) pe_int (fun _ _ => rfl)) (pa_cons (pe_ix ix_tup (pv 2) pe_int (fun _ _ => rfl)) pa_nil))))))), ?_⟩
    refine ⟨_, rfl, a, _, rfl, .inl ha, _, rfl, fun q0 hq0 => ⟨q0, A.needs.length, rfl, by rw [upd_same, nv_length], by omega, fun q1 hq1 => ?_⟩⟩
    have s0 : Same H (upd H q0 (.rng 0 ((nv A.needs).length : Int))) := Same.new (.refl H) hq0
    have s1 := s0.new (o := .lst (nv (List.range A.needs.length))) hq1
    refine ⟨_, rfl, _, rfl, f, _, _, _, rfl, rfl, s1.tup hf, rfl, _, rfl, kk, _, _, _, rfl, rfl, s1.tup hk, rfl, ?_⟩
    refine ⟨q1, a, A.down, A.below, List.range A.needs.length, A.needs, rfl, SqL.of upd_same, s1.seq ha, asc_range _, fun x hx => List.mem_range.mp hx, by rw [List.length_range]; omega, by omega, hF.down, hF.below, fun H2 v s2 hv => ?_⟩
    obtain ⟨c, S, e, hSm, hsv⟩ := bb_range_some A.down A.below A.needs
    rw [e] at hv
    obtain ⟨p, l, rfl, hp, hl⟩ := hv
    obtain ⟨aA, aB⟩ := sub_lt hSm
    have s2' := s1.trans s2
    refine ⟨_, rfl, p, _, _, _, rfl, rfl, SqT.of hp, rfl, ?_⟩
    refine ⟨_, rfl, p, _, _, _, rfl, rfl, SqT.of hp, rfl, _, rfl, ?_⟩
    refine ⟨l, a, S, A.needs, rfl, SqL.of hl, s2'.seq ha, aA, aB, by omega, ?_, fun H3 pb s3 nb hpb => ?_⟩
    · have := (subsets_sub hSm).length_le
      rw [List.length_range] at this
      omega
    · have s3' := s2'.trans s3
      refine ⟨_, rfl, f, _, _, _, rfl, rfl, s3'.tup hf, rfl, _, rfl, kk, _, _, _, rfl, rfl, s3'.tup hk, rfl, ?_⟩
      refine ⟨pb, A.up, A.above, Su88.covers A.needs S, rfl, SqL.of hpb, by rw [covers_length]; omega, hF.up, hF.above, fun H4 s4 => ⟨_, _, rfl, rfl, ?_⟩⟩
      have := k H4 (s3'.trans s4)
      rw [(greedy_eq e).1, Int.natCast_add] at this
      exact this
end
end TS
end
section
set_option Elab.async false
set_option Elab.async false
set_option linter.all false
set_option maxRecDepth 100000
set_option maxHeartbeats 2000000
namespace TS
open PySem PySem.Spec PyProof.Rows L2
/-! ### a def that a local name holds -/
section
variable {X : Cx} {x : Str} {p pos : Pos} {e : Expr} {es : List Expr} {t : TA} {tn : TE}
def tCallL (P : Program) (w : World) (K : PySem.W.Frag) (mg : Str → Option Value) (base : Heap) (k : Nat) (tn : TE) (t : TA) : TE := fun σ H Q => tn σ H fun v H1 => ∃ (f : Addr) (fd : FuncData) (ps : List Str) (sp : Sp), v = .ref f ∧ FnOk P w K mg base CX0 k f fd ps sp ∧ PySem.W.keepIn K (.ref f) = true ∧ Binds K fd ps [] ∧ t σ H1 fun vs H2 => sp (vs ++ []) H2 Q E0
theorem pe_callL {k : Nat} (hv : PE X (.Name x p) tn) (hr : Room k X.A) (ha : PA X (e :: es) t) (he : starEach (e :: es) X.env = (false, eval e X.env) :: starEach es X.env := by rfl) (hpl : (backTo pos (starEach es X.env)).any (·.1) = false := by rfl) :
    PE X (.Call (.Name x p) (e :: es) [] pos) (tCallL X.prog X.w X.K X.mg X.base k tn t) := by
  intro pins s σ H Q I h
  refine wpAny_Call_Name_kw (thn (hv pins s σ H _ I h) fun u s1 ⟨v, H1, I1, r1, f, fd, ps, sp, ev, F, hk, hb, q⟩ => ?_)
  subst ev
  cases r1
  refine PySem.W.callWith_K (h₀ := X.base) I1.ok.mod.kin hk (thn (ha pos pins s1 σ H1 _ I1 q) fun us s2 ⟨vs, H2, I2, r, q2⟩ => ⟨I2.kIn, ?_⟩) he hpl
  exact run_fn F hr hb .nil pass0 I2 r q2
/-- a whole number of the text's top -/
def IsC (mg : Str → Option Value) (x : Str) (v : Int) : Prop := ∃ t, mg x = some (.int v t)
theorem pe_cst {v : Int} (h : IsC X.mg x v) (hg : Gl X x) (hd : (x == ("__debug__" : Str)) = false := by decide) : PE X (.Name x pos) (tC (.int v)) := by
  obtain ⟨t, h⟩ := h
  exact pe_glob hg h ⟨t, rfl⟩ hd
end
/-! ### the object -/
def sf (n f k : V) : List (Str × V) := putF "keep_pair" k (putF "fee_pair" f (putF "needs" n []))
theorem sf_needs (n f k : V) : (sf n f k).lookup ("needs" : Str) = some n := by
  unfold sf
  rw [lookup_putF, if_neg (by decide), lookup_putF, if_neg (by decide), lookup_putF, if_pos rfl]
theorem sf_fee (n f k : V) : (sf n f k).lookup ("fee_pair" : Str) = some f := by
  unfold sf
  rw [lookup_putF, if_neg (by decide), lookup_putF, if_pos rfl]
theorem sf_keep (n f k : V) : (sf n f k).lookup ("keep_pair" : Str) = some k := by
  unfold sf
  rw [lookup_putF, if_pos rfl]
theorem sf_puts (n f k v : V) : putF "needs" v (sf n f k) = sf v f k ∧ putF "fee_pair" v (sf n f k) = sf n v k ∧ putF "keep_pair" v (sf n f k) = sf n f v := ⟨rfl, rfl, rfl⟩
theorem sf_len (n f k : V) : (sf n f k).length < 1000 := by show 3 < 1000; decide
/-- a shop stands at sh, its needs at n -/
def ShopAt (C : Addr) (H : Hp) (sh n : Addr) (A : Su88.Abs) : Prop := ∃ dx f k : Addr, H sh = some (.ins C dx (sf (.ref n) (.ref f) (.ref k))) ∧ H n = some (.lst (nv A.needs)) ∧ H f = some (.tup [.int (A.up : Int), .int (A.down : Int)]) ∧ H k = some (.tup [.int (A.above : Int), .int (A.below : Int)])
theorem ShopAt.same {C : Addr} {H H' : Hp} {sh n : Addr} {A : Su88.Abs} (s : Same H H') (h : ShopAt C H sh n A) : ShopAt C H' sh n A := by
  obtain ⟨dx, f, k, h1, h2, h3, h4⟩ := h
  exact ⟨dx, f, k, s _ _ h1, s _ _ h2, s _ _ h3, s _ _ h4⟩
/-- all but the shop and its needs is as it was -/
def Kept (H H' : Hp) (sh n : Addr) : Prop := ∀ b o, H b = some o → b ≠ sh → b ≠ n → H' b = some o
theorem Kept.of {H H' : Hp} {sh n : Addr} (s : Same H H') : Kept H H' sh n := fun b o h _ _ => s b o h
def abs0 : Option Su88.Abs → Su88.Abs
  | none => ⟨0, 0, 0, 0, []⟩
  | some a => a
/-- what the top has: the class, its values, the constants -/
structure Txt (K : PySem.W.Frag) (mg : Str → Option Value) (C : Addr) : Prop where
  own : Own mg
  cl : Cls K C
  nN : NoAttr K C "needs"
  nF : NoAttr K C "fee_pair"
  nK : NoAttr K C "keep_pair"
  mgC : mg "Shop" = some (.ref C)
  cNone : IsC mg "NONE_SUCH" (-2)
  cNot : IsC mg "NOT_BEGUN" (-11)
  cLittle : IsC mg "TOO_LITTLE" (-12)
  cOut : IsC mg "OUT_OF_RANGE" (-22)
  cDays : IsC mg "MOST_DAYS" 7
  cNeeded : IsC mg "MOST_NEEDED" 1000
  cFee : IsC mg "MOST_FEE" 10000
  cKeep : IsC mg "MOST_KEEPING" 100
  cPlan : IsC mg "MOST_IN_PLAN" 100000
  cBegin : IsC mg "BEGIN" 0
theorem Good.fits {A : Su88.Abs} (g : Good A) : Fits A := ⟨g.days, by have := g.up; omega, by have := g.down; omega, by have := g.kp; have := g.below; omega, by have := g.below; omega⟩
/-- how a call of a shop ends: what it answers, and what the shop is then -/
abbrev Ends1 (C : Addr) (H : Hp) (Q : VK) (sh n : Addr) (A : Su88.Abs) (l : List Int) : Prop := ∀ (H' : Hp) (q n' : Addr), Kept H H' sh n → ShopAt C H' sh n' A → (n' = n ∨ H n' = none) → H q = none → q ≠ n' → H' q = some (.lst (l.map V.int)) → Q (.ref q) H'
/-- a call that leaves the shop as it is -/
theorem Ends1.still {C : Addr} {H H' : Hp} {Q : VK} {sh n q : Addr} {A : Su88.Abs} {l : List Int} (k : Ends1 C H Q sh n A l) (h : ShopAt C H sh n A) (s : Same H H') (hq : H q = none) (hv : H' q = some (.lst (l.map V.int))) : Q (.ref q) H' := by
  have hn : q ≠ n := by
    obtain ⟨dx, f, kk, h1, h2, h3, h4⟩ := h
    exact fun z => ne_of_none h2 hq z.symm
  exact k H' q n (Kept.of s) (h.same s) (.inl rfl) hq hn hv
/-- a call's promise: p its number -/
def spCall (C : Addr) (p : Nat) : Sp := fun vs H Q _ => ∃ (sh n g : Addr) (st : Option Su88.Abs) (gs : List Nat), vs = [.ref sh, .ref g] ∧ ShopAt C H sh n (abs0 st) ∧ GoodS st ∧ (p ≠ 0 → st ≠ none) ∧ H g = some (.lst (nv gs)) ∧ gs.length ≤ 9000 ∧ (¬ rowOf p → gs.length = sizeOf p) ∧
  Ends1 C H Q sh n (abs0 (Su88Neutral.step st ((p : Int) :: iv gs)).1) (Su88Neutral.step st ((p : Int) :: iv gs)).2
section
variable {P : Program} {w : World} {K : PySem.W.Frag} {mg : Str → Option Value} {base : Heap} {C : Addr}
/-! ### __init__ -/
abbrev sInit : Stmt := inClass (top 22) 0
def spInit (C : Addr) : Sp := fun vs H Q _ => ∃ (p dx : Addr), vs = [.ref p] ∧ H p = some (.ins C dx []) ∧ ∀ (H' : Hp) (n : Addr), (∀ b o, H b = some o → b ≠ p → H' b = some o) → ShopAt C H' p n (abs0 none) → H n = none → Q .non H'
theorem scInit : FnScope ["self"] ["self"] (defScope sInit) := ⟨rfl, rfl, rfl, by decide +kernel, rfl, by decide +kernel, by decide +kernel⟩
theorem ok_init {f : Addr} {fd : FuncData} (F : Fun K "__init__" "Shop.__init__" sInit f fd) (T : Txt K mg C) : FnOk P w K mg base CX0 1 f fd ["self"] (spInit C) := by
  refine F.ok scInit (fun vs H Q E h => ?_) (fun cdv A outer s H vs Q E hr h => ?_)
  · obtain ⟨p, dx, rfl, _⟩ := h
    rfl
  · obtain ⟨p, dx, rfl, hp, k⟩ := h
    refine ⟨_, pss_cons (ps_fld (pv 0) (pe_lst pa_nil) rfl) (pss_cons (ps_fld (pv 0) (pe_tup (pa_cons pe_int (pa_cons pe_int pa_nil))) rfl) (pss_one (ps_fld (pv 0) (pe_tup (pa_cons pe_int (pa_cons pe_int pa_nil))) rfl))), ?_⟩
    refine ⟨Nat.zero_le _, fun n hn => ?_⟩
    have n1 : p ≠ n := ne_of_none hp hn
    refine ⟨_, rfl, p, C, dx, _, rfl, by rw [upd_ne n1]; exact hp, T.cl, T.nN, by show 0 < 1000; decide, ?_⟩
    refine ⟨by show 2 ≤ sizeLine; decide, fun f hf => ?_⟩
    have n2 : p ≠ f := ne_of_none upd_same hf
    refine ⟨_, rfl, p, C, dx, _, rfl, by rw [upd_ne n2]; exact upd_same, T.cl, T.nF, by show 1 < 1000; decide, ?_⟩
    refine ⟨by show 2 ≤ sizeLine; decide, fun kk hk => ?_⟩
    have n3 : p ≠ kk := ne_of_none upd_same hk
    refine ⟨_, rfl, p, C, dx, _, rfl, by rw [upd_ne n3]; exact upd_same, T.cl, T.nK, by show 2 < 1000; decide, ?_⟩
    have hnf : n ≠ f := ne_of_none (by rw [upd_ne (fun z => n1 z.symm)]; exact upd_same) hf
    have hnk : n ≠ kk := ne_of_none (by rw [upd_ne (fun z => n1 z.symm), upd_ne hnf, upd_ne (fun z => n1 z.symm)]; exact upd_same) hk
    have hfk : f ≠ kk := ne_of_none (by rw [upd_ne (fun z => n2 z.symm)]; exact upd_same) hk
    refine k _ n (fun b o e hb => ?_) ⟨dx, f, kk, upd_same, ?_, ?_, ?_⟩ hn
    · have b1 : b ≠ n := ne_of_none e hn
      have e1 := show upd H n (.lst []) b = some o by rw [upd_ne b1]; exact e
      have e2 := show upd (upd H n (.lst [])) p (.ins C dx (putF "needs" (V.ref n) [])) b = some o by rw [upd_ne hb]; exact e1
      have b2 : b ≠ f := ne_of_none e2 hf
      have e3 := show upd (upd (upd (upd H n (.lst [])) p (.ins C dx (putF "needs" (V.ref n) []))) f (.tup [V.int 0, V.int 0])) p (.ins C dx (putF "fee_pair" (V.ref f) (putF "needs" (V.ref n) []))) b = some o by rw [upd_ne hb, upd_ne b2]; exact e2
      have b3 : b ≠ kk := ne_of_none e3 hk
      rw [upd_ne hb, upd_ne b3]
      exact e3
    · rw [upd_ne (fun z => n1 z.symm), upd_ne hnk, upd_ne (fun z => n1 z.symm), upd_ne hnf, upd_ne (fun z => n1 z.symm), upd_same]
      rfl
    · rw [upd_ne (fun z => n2 z.symm), upd_ne hfk, upd_ne (fun z => n2 z.symm), upd_same]
      rfl
    · rw [upd_ne (fun z => n3 z.symm), upd_same]
      rfl
/-! ### fees_fit, keeping_fits, told_plan -/
abbrev sFit : Stmt := top 23
def spFit : Sp := fun vs H Q _ => ∃ u d : Nat, vs = [.int (u : Int), .int (d : Int)] ∧ Q (.bl (Su88.okF u d)) H
theorem scFit : FnScope ["above", "bringing"] ["above", "bringing"] (defScope sFit) := ⟨rfl, rfl, rfl, by decide +kernel, rfl, by decide +kernel, by decide +kernel⟩
theorem dec_nat {a b : Nat} {x y : Int} (h1 : x = (a : Int)) (h2 : y = (b : Int)) : decide (x ≤ y) = decide (a ≤ b) := by
  subst h1 h2
  exact decide_eq_decide.mpr (by omega)
theorem ok_fit {f : Addr} {fd : FuncData} (F : Fun K "fees_fit" "fees_fit" sFit f fd) (T : Txt K mg C) : FnOk P w K mg base CX0 1 f fd ["above", "bringing"] spFit := by
  refine F.ok scFit (fun vs H Q E h => ?_) (fun cdv A outer s H vs Q E hr h => ?_)
  · obtain ⟨u, d, rfl, _⟩ := h
    rfl
  · obtain ⟨u, d, rfl, k⟩ := h
    refine ⟨_, pss_one (ps_ret (pe_and (pe_cmpR op_le (pv 0) (pe_cst T.cFee rfl) (nomark _)) (pe_one (pe_cmpR op_le (pv 1) (pe_cst T.cFee rfl) (nomark _))))), ?_⟩
    refine ⟨_, rfl, _, _, rfl, rfl, _, rfl, ?_⟩
    unfold Su88.okF at k
    refine iteD (fun h1 => ?_) (fun h1 => ?_)
    · refine ⟨_, rfl, _, _, rfl, rfl, ?_⟩
      rw [decide_eq_true (by omega : u ≤ 10000), Bool.true_and] at k
      rw [show (fun i j : Int => V.bl (decide (i ≤ j))) (d : Int) 10000 = V.bl (decide (d ≤ 10000)) from congrArg V.bl (dec_nat rfl rfl)]
      exact k
    · rw [decide_eq_false (by omega : ¬ u ≤ 10000), Bool.false_and] at k
      exact k
abbrev sKFit : Stmt := top 24
def spKFit : Sp := fun vs H Q _ => ∃ a b : Nat, vs = [.int (a : Int), .int (b : Int)] ∧ Q (.bl (Su88.okK a b)) H
theorem scKFit : FnScope ["above", "below"] ["above", "below"] (defScope sKFit) := ⟨rfl, rfl, rfl, by decide +kernel, rfl, by decide +kernel, by decide +kernel⟩
theorem ok_kfit {f : Addr} {fd : FuncData} (F : Fun K "keeping_fits" "keeping_fits" sKFit f fd) (T : Txt K mg C) : FnOk P w K mg base CX0 1 f fd ["above", "below"] spKFit := by
  refine F.ok scKFit (fun vs H Q E h => ?_) (fun cdv A outer s H vs Q E hr h => ?_)
  · obtain ⟨u, d, rfl, _⟩ := h
    rfl
  · obtain ⟨u, d, rfl, k⟩ := h
    refine ⟨_, pss_one (ps_ret (pe_and (pe_cmpR op_le (pv 0) (pv 1) (nomark _)) (pe_one (pe_cmpR op_le (pv 1) (pe_cst T.cKeep rfl) (nomark _))))), ?_⟩
    refine ⟨_, rfl, _, rfl, _, _, rfl, rfl, _, rfl, ?_⟩
    unfold Su88.okK at k
    refine iteD (fun h1 => ?_) (fun h1 => ?_)
    · refine ⟨_, rfl, _, _, rfl, rfl, ?_⟩
      rw [decide_eq_true (by omega : u ≤ d), Bool.true_and] at k
      rw [show (fun i j : Int => V.bl (decide (i ≤ j))) (d : Int) 100 = V.bl (decide (d ≤ 100)) from congrArg V.bl (dec_nat rfl rfl)]
      exact k
    · rw [decide_eq_false (by omega : ¬ u ≤ d), Bool.false_and] at k
      exact k
abbrev sTold : Stmt := top 25
def spTold (C : Addr) : Sp := fun vs H Q _ => ∃ (sh n : Addr) (A : Su88.Abs), vs = [.ref sh] ∧ ShopAt C H sh n A ∧ Good A ∧ ∀ (H' : Hp) (p o b : Addr) (z : Nat × List Nat × List Nat), Same H H' → A.best = some z → H' p = some (.tup [.int (z.1 : Int), .ref o, .ref b]) → H' o = some (.lst (nv z.2.1)) → H' b = some (.lst (nv z.2.2)) → Q (.ref p) H'
theorem scTold : FnScope ["shop"] ["shop"] (defScope sTold) := ⟨rfl, rfl, rfl, by decide +kernel, rfl, by decide +kernel, by decide +kernel⟩
theorem ok_told {f fL : Addr} {fd fdL : FuncData} (F : Fun K "told_plan" "told_plan" sTold f fd) (T : Txt K mg C) (CL : Cal P w K mg base 4 "least_plan" fL fdL ["needs", "fees", "keeps"] (spLeast K)) : FnOk P w K mg base CX0 5 f fd ["shop"] (spTold C) := by
  refine F.ok scTold (fun vs H Q E h => ?_) (fun cdv Ar outer s H vs Q E hr h => ?_)
  · obtain ⟨sh, n, A, rfl, _⟩ := h
    rfl
  · obtain ⟨sh, n, A, rfl, ⟨dx, f, kk, h1, h2, h3, h4⟩, g, k⟩ := h
    refine ⟨_, pss_one (ps_ret (pe_call CL.ok hr rfl CL.m CL.kp CL.b .nil pass0 (pa_cons (pe_fld (pv 0) rfl) (pa_cons (pe_fld (pv 0) rfl) (pa_cons (pe_fld (pv 0) rfl) pa_nil))))), ?_⟩
    refine ⟨_, rfl, sh, C, dx, _, _, rfl, h1, T.cl, T.nN, sf_needs _ _ _, _, rfl, sh, C, dx, _, _, rfl, h1, T.cl, T.nF, sf_fee _ _ _, _, rfl, sh, C, dx, _, _, rfl, h1, T.cl, T.nK, sf_keep _ _ _, ?_⟩
    refine ⟨A, ⟨n, f, kk, rfl, SqL.of h2, SqT.of h3, SqT.of h4, g.fits⟩, fun H' v s hv => ?_⟩
    obtain ⟨z, hz⟩ := best_some A
    rw [hz] at hv
    obtain ⟨p, o, b, rfl, q1, q2, q3⟩ := hv
    exact k H' p o b z s hz q1 q2 q3
end
end TS
end
section
set_option Elab.async false
set_option Elab.async false
set_option linter.all false
set_option maxRecDepth 100000
set_option maxHeartbeats 2000000
namespace TS
open PySem PySem.Spec PyProof.Rows L2
theorem iteE {c A B : Prop} {d : Bool} [Decidable c] (e : d = decide c) (h1 : c → A) (h2 : ¬ c → B) : if d = true then A else B := by
  subst e
  exact iteD h1 h2
theorem iteB {A B : Prop} {d : Bool} (h1 : d = true → A) (h2 : d = false → B) : if d = true then A else B := by
  cases d with
  | true => exact iteT (h1 rfl)
  | false => exact iteF (h2 rfl)
theorem ShopAt.put {C : Addr} {H : Hp} {sh n q : Addr} {A : Su88.Abs} {o : HO} (h : ShopAt C H sh n A) (hq : H q = none) : ShopAt C (upd H q o) sh n A := h.same (Same.new (.refl H) hq)
section
variable {P : Program} {w : World} {K : PySem.W.Frag} {mg : Str → Option Value} {base : Heap} {C : Addr}
/-- one number is answered, and nothing was done -/
theorem one_ret {D : Ends} {σ : L2.St} {H H' : Hp} {sh n : Addr} {A : Su88.Abs} {c : Int} {te : TE} (k : Ends1 C H D.rt sh n A [c]) (h : ShopAt C H sh n A) (s : Same H H') (ht : ∀ Q : VK, te σ H' Q ↔ Q (.int c) H') : tRet (tLst (tCons te tNil)) D σ H' := by
  refine (ht _).mpr ⟨by show 1 ≤ sizeLine; decide, fun q hq => ?_⟩
  exact Ends1.still k h (s.new hq) (s.free hq) upd_same
theorem con_one {σ : L2.St} {H : Hp} {c : Int} (Q : VK) : tC (.int c) σ H Q ↔ Q (.int c) H := Iff.rfl
/-! ### begin -/
abbrev sBegin : Stmt := top 29
theorem scBegin : FnScope ["shop", "given"] ["shop", "given"] (defScope sBegin) := ⟨rfl, rfl, rfl, by decide +kernel, rfl, by decide +kernel, by decide +kernel⟩
theorem ok_begin {f fF fK : Addr} {fd fdF fdK : FuncData} (F : Fun K "begin" "begin" sBegin f fd) (T : Txt K mg C) (CF : Cal P w K mg base 1 "fees_fit" fF fdF ["above", "bringing"] spFit) (CK : Cal P w K mg base 1 "keeping_fits" fK fdK ["above", "below"] spKFit) : FnOk P w K mg base CX0 2 f fd ["shop", "given"] (spCall C 0) := by
  refine F.ok scBegin (fun vs H Q E h => ?_) (fun cdv Ar outer s H vs Q E hr h => ?_)
  · obtain ⟨sh, n, g, st, gs, rfl, _⟩ := h
    rfl
  · obtain ⟨sh, n, g, st, gs, rfl, hS, hG, _, hg, _, hl, k⟩ := h
    obtain ⟨a0, a1, a2, a3, a4, rfl⟩ := len5 (hl (by decide))
    have e := step_said (st := st) (c := ((0 : Nat) : Int) :: iv [a0, a1, a2, a3, a4]) (x := .begin_ a0 a1 a2 a3 a4) rfl
    rw [e, begin_step] at k
    refine ⟨_, pss_cons (ps_if (PW.pt (pw_or (pt_cmpR op_lt (pe_ix ix_list (pv 1) pe_int (fun _ _ => rfl)) pe_int (nomark _)) (pw_or1 (pt_cmpR op_gt (pe_ix ix_list (pv 1) pe_int (fun _ _ => rfl)) (pe_cst T.cDays rfl) (nomark _))))) (pss_one (ps_ret (pe_lst (pa_cons (pe_cst T.cOut rfl) pa_nil)))) pss_nil)
      (pss_cons (ps_if (PW.pt (pw_or (pt_not (pt_val (pe_call CF.ok hr rfl CF.m CF.kp CF.b .nil pass0 (pa_cons (pe_ix ix_list (pv 1) pe_int (fun _ _ => rfl)) (pa_cons (pe_ix ix_list (pv 1) pe_int (fun _ _ => rfl)) pa_nil))))) (pw_or1 (pt_not (pt_val (pe_call CK.ok hr rfl CK.m CK.kp CK.b .nil pass0 (pa_cons (pe_ix ix_list (pv 1) pe_int (fun _ _ => rfl)) (pa_cons (pe_ix ix_list (pv 1) pe_int (fun _ _ => rfl)) pa_nil)))))))) (pss_one (ps_ret (pe_lst (pa_cons (pe_cst T.cOut rfl) pa_nil)))) pss_nil)
      (pss_cons (ps_fld (pv 0) (pe_op op_rep (pe_lst (pa_cons pe_int pa_nil)) (pe_ix ix_list (pv 1) pe_int (fun _ _ => rfl))) rfl)
      (pss_cons (ps_fld (pv 0) (pe_tup (pa_cons (pe_ix ix_list (pv 1) pe_int (fun _ _ => rfl)) (pa_cons (pe_ix ix_list (pv 1) pe_int (fun _ _ => rfl)) pa_nil))) rfl)
      (pss_cons (ps_fld (pv 0) (pe_tup (pa_cons (pe_ix ix_list (pv 1) pe_int (fun _ _ => rfl)) (pa_cons (pe_ix ix_list (pv 1) pe_int (fun _ _ => rfl)) pa_nil))) rfl)
      (pss_one (ps_ret (pe_lst (pa_cons pe_int pa_nil)))))))), ?_⟩
    -- what is refused
    have ref : ∀ {D : Ends} {σ : L2.St}, D.rt = Q → (a0 = 0 ∨ 7 < a0 ∨ Su88.okF a1 a2 = false ∨ Su88.okK a3 a4 = false) → tRet (tLst (tCons (tC (.int (-22))) tNil)) D σ H := fun {D σ} eD hn => by
      rw [if_pos hn] at k
      subst eD
      exact one_ret k hS (.refl H) con_one
    refine ⟨_, rfl, g, _, _, _, rfl, rfl, SqL.of hg, rfl, _, _, rfl, rfl, _, rfl, iteD (fun h1 => iteT (ref rfl (.inl (by omega)))) fun h1 => ?_⟩
    refine ⟨_, rfl, g, _, _, _, rfl, rfl, SqL.of hg, rfl, _, _, rfl, rfl, _, rfl, iteD (fun h2 => ref rfl (.inr (.inl (by omega)))) fun h2 => ?_⟩
    refine ⟨_, rfl, g, _, _, _, rfl, rfl, SqL.of hg, rfl, _, rfl, g, _, _, _, rfl, rfl, SqL.of hg, rfl, a1, a2, rfl, _, rfl, iteB (fun h3 => iteT (ref rfl (.inr (.inr (.inl (by simpa using h3)))))) fun h3 => ?_⟩
    refine ⟨_, rfl, g, _, _, _, rfl, rfl, SqL.of hg, rfl, _, rfl, g, _, _, _, rfl, rfl, SqL.of hg, rfl, a3, a4, rfl, _, rfl, iteB (fun h4 => ref rfl (.inr (.inr (.inr (by simpa using h4))))) fun h4 => ?_⟩
    have h3 : Su88.okF a1 a2 = true := by simpa using h3
    have h4 : Su88.okK a3 a4 = true := by simpa using h4
    rw [if_neg (by rw [h3, h4]; simp; omega)] at k
    -- a new shop
    obtain ⟨dx, f, kk, s1, s2, s3, s4⟩ := hS
    refine ⟨by show 1 ≤ sizeLine; decide, fun q0 hq0 => ?_⟩
    have e0 : Same H (upd H q0 (.lst [V.int 0])) := Same.new (.refl H) hq0
    refine ⟨_, rfl, g, _, _, _, rfl, rfl, SqL.of (e0 _ _ hg), rfl, q0, _, _, rfl, rfl, upd_same, by omega, by omega, sz (by show 1 * _ ≤ _; omega), fun n' hn' => ?_⟩
    have e1 := e0.new (o := .lst (List.replicate (a0 : Int).toNat [V.int 0]).flatten) hn'
    refine ⟨_, rfl, sh, C, dx, _, rfl, e1 _ _ s1, T.cl, T.nN, sf_len _ _ _, ?_⟩
    have ng : g ≠ sh := ne_of hg s1 (by intro z; cases z)
    have nn : n' ≠ sh := fun z => ne_of_none (e0 _ _ s1) hn' z.symm
    rw [(sf_puts _ _ _ _).1]
    have g1 : upd (upd (upd H q0 (.lst [V.int 0])) n' (.lst (List.replicate (a0 : Int).toNat [V.int 0]).flatten)) sh (.ins C dx (sf (.ref n') (.ref f) (.ref kk))) g = some (.lst (nv [a0, a1, a2, a3, a4])) := by rw [upd_ne ng]; exact e1 _ _ hg
    refine ⟨_, rfl, g, _, _, _, rfl, rfl, SqL.of g1, rfl, _, rfl, g, _, _, _, rfl, rfl, SqL.of g1, rfl, by show 2 ≤ sizeLine; decide, fun f' hf' => ?_⟩
    have nf : sh ≠ f' := ne_of_none upd_same hf'
    have gf : g ≠ f' := ne_of_none g1 hf'
    have nnf : n' ≠ f' := ne_of_none (by rw [upd_ne nn]; exact upd_same) hf'
    refine ⟨_, rfl, sh, C, dx, _, rfl, by rw [upd_ne nf]; exact upd_same, T.cl, T.nF, sf_len _ _ _, ?_⟩
    rw [(sf_puts _ _ _ _).2.1]
    refine ⟨_, rfl, g, _, _, _, rfl, rfl, SqL.of (by rw [upd_ne ng, upd_ne gf]; exact g1), rfl, _, rfl, g, _, _, _, rfl, rfl, SqL.of (by rw [upd_ne ng, upd_ne gf]; exact g1), rfl, by show 2 ≤ sizeLine; decide, fun k' hk' => ?_⟩
    have nk : sh ≠ k' := ne_of_none upd_same hk'
    have nfk : f' ≠ k' := ne_of_none (by rw [upd_ne (fun z => nf z.symm)]; exact upd_same) hk'
    have nnk : n' ≠ k' := ne_of_none (by rw [upd_ne nn, upd_ne nnf, upd_ne nn]; exact upd_same) hk'
    refine ⟨_, rfl, sh, C, dx, _, rfl, by rw [upd_ne nk]; exact upd_same, T.cl, T.nK, sf_len _ _ _, ?_⟩
    rw [(sf_puts _ _ _ _).2.2]
    refine ⟨by show 1 ≤ sizeLine; decide, fun q hq => ?_⟩
    -- its places
    have nq : sh ≠ q := ne_of_none upd_same hq
    have nkq : k' ≠ q := ne_of_none (by rw [upd_ne (fun z => nk z.symm)]; exact upd_same) hq
    have nfq : f' ≠ q := ne_of_none (by rw [upd_ne (fun z => nf z.symm), upd_ne nfk, upd_ne (fun z => nf z.symm)]; exact upd_same) hq
    have nnq : n' ≠ q := ne_of_none (by rw [upd_ne nn, upd_ne nnk, upd_ne nn, upd_ne nnf, upd_ne nn]; exact upd_same) hq
    have old : ∀ b o, H b = some o → b ≠ sh → upd (upd (upd (upd (upd (upd (upd (upd H q0 (.lst [V.int 0])) n' (.lst (List.replicate (a0 : Int).toNat [V.int 0]).flatten)) sh (.ins C dx (sf (.ref n') (.ref f) (.ref kk)))) f' (.tup [V.int (a1 : Int), V.int (a2 : Int)])) sh (.ins C dx (sf (.ref n') (.ref f') (.ref kk)))) k' (.tup [V.int (a3 : Int), V.int (a4 : Int)])) sh (.ins C dx (sf (.ref n') (.ref f') (.ref k')))) q (.lst [V.int 0]) b = some o := fun b o hb hs => by
      have b1 := e1 b o hb
      have b2 := show upd (upd (upd H q0 (.lst [V.int 0])) n' (.lst (List.replicate (a0 : Int).toNat [V.int 0]).flatten)) sh (.ins C dx (sf (.ref n') (.ref f) (.ref kk))) b = some o by rw [upd_ne hs]; exact b1
      have d1 : b ≠ f' := ne_of_none b2 hf'
      have b3 := show upd (upd (upd (upd (upd H q0 (.lst [V.int 0])) n' (.lst (List.replicate (a0 : Int).toNat [V.int 0]).flatten)) sh (.ins C dx (sf (.ref n') (.ref f) (.ref kk)))) f' (.tup [V.int (a1 : Int), V.int (a2 : Int)])) sh (.ins C dx (sf (.ref n') (.ref f') (.ref kk))) b = some o by rw [upd_ne hs, upd_ne d1]; exact b2
      have d2 : b ≠ k' := ne_of_none b3 hk'
      have b4 : (upd (upd (upd (upd (upd (upd (upd H q0 (.lst [V.int 0])) n' (.lst (List.replicate (a0 : Int).toNat [V.int 0]).flatten)) sh (.ins C dx (sf (.ref n') (.ref f) (.ref kk)))) f' (.tup [V.int (a1 : Int), V.int (a2 : Int)])) sh (.ins C dx (sf (.ref n') (.ref f') (.ref kk)))) k' (.tup [V.int (a3 : Int), V.int (a4 : Int)])) sh (.ins C dx (sf (.ref n') (.ref f') (.ref k')))) b = some o := by rw [upd_ne hs, upd_ne d2]; exact b3
      have d3 : b ≠ q := ne_of_none b4 hq
      rw [upd_ne d3]
      exact b4
    refine k _ q n' (fun b o hb hs _ => old b o hb hs) ⟨dx, f', k', by rw [upd_ne nq]; exact upd_same, ?_, ?_, ?_⟩ (.inr (e0.free hn')) ?_ (fun z => nnq z.symm) upd_same
    · rw [upd_ne nnq, upd_ne nn, upd_ne nnk, upd_ne nn, upd_ne nnf, upd_ne nn, upd_same, rep_flat, Int.toNat_natCast]
      rfl
    · rw [upd_ne nfq, upd_ne (fun z => nf z.symm), upd_ne nfk, upd_ne (fun z => nf z.symm), upd_same]
      rfl
    · rw [upd_ne nkq, upd_ne (fun z => nk z.symm), upd_same]
      rfl
    · cases hb : H q with
      | none => rfl
      | some o =>
        by_cases hs : q = sh
        · exact absurd hs.symm nq
        · exfalso
          have b1 := e1 q o hb
          have b2 := show upd (upd (upd H q0 (.lst [V.int 0])) n' (.lst (List.replicate (a0 : Int).toNat [V.int 0]).flatten)) sh (.ins C dx (sf (.ref n') (.ref f) (.ref kk))) q = some o by rw [upd_ne hs]; exact b1
          have d1 : q ≠ f' := fun z => nfq z.symm
          have d2 : q ≠ k' := fun z => nkq z.symm
          rw [upd_ne hs, upd_ne d2, upd_ne hs, upd_ne d1] at hq
          rw [b2] at hq
          cases hq
end
end TS
end
section
set_option Elab.async false
set_option Elab.async false
set_option linter.all false
set_option maxRecDepth 100000
set_option maxHeartbeats 2000000
namespace TS
open PySem PySem.Spec PyProof.Rows L2
theorem some_of {st : Option Su88.Abs} (h : st ≠ none) : ∃ a, st = some a := by
  cases st with
  | none => exact absurd rfl h
  | some a => exact ⟨a, rfl⟩
theorem outs_nat (n : Nat) : ([(n : Int)] : List Int).map V.int = [V.int (n : Int)] := rfl
theorem get_need {a : Su88.Abs} {t : Nat} (h : t < a.needs.length) : a.needs[t]? = some (a.need t) := by
  unfold Su88.Abs.need
  rw [List.getD_eq_getElem?_getD, List.getElem?_eq_getElem h]
  rfl
section
variable {P : Program} {w : World} {K : PySem.W.Frag} {mg : Str → Option Value} {base : Heap} {C : Addr}
/-! ### need -/
abbrev sNRef : Stmt := top 30
def nref (A : Su88.Abs) (t m : Nat) : Int := if A.needs.length ≤ t then -2 else if 1000 < m then -22 else 0
theorem nref_neg {a : Su88.Abs} {t m : Nat} (h : nref a t m < 0) (x : Su88.Abs × Su88.Ans) : (if a.needs.length ≤ t then (a, Su88.no (-2)) else if 1000 < m then (a, Su88.no (-22)) else x) = (a, Su88.no (nref a t m)) := by
  unfold nref at h ⊢
  by_cases h1 : a.needs.length ≤ t
  · rw [if_pos h1, if_pos h1]
  · rw [if_neg h1] at h ⊢
    rw [if_neg h1]
    by_cases h2 : 1000 < m
    · rw [if_pos h2, if_pos h2]
    · rw [if_neg h2] at h
      exact absurd h (by decide)
theorem nref_pos {a : Su88.Abs} {t m : Nat} (h : ¬ nref a t m < 0) : t < a.needs.length ∧ m ≤ 1000 := by
  unfold nref at h
  by_cases h1 : a.needs.length ≤ t
  · rw [if_pos h1] at h
    exact absurd (by decide) h
  · rw [if_neg h1] at h
    by_cases h2 : 1000 < m
    · rw [if_pos h2] at h
      exact absurd (by decide) h
    · exact ⟨by omega, by omega⟩
def spNRef (C : Addr) : Sp := fun vs H Q _ => ∃ (sh n : Addr) (A : Su88.Abs) (t m : Nat), vs = [.ref sh, .int (t : Int), .int (m : Int)] ∧ ShopAt C H sh n A ∧ Q (.int (nref A t m)) H
theorem scNRef : FnScope ["shop", "day", "pieces"] ["shop", "day", "pieces"] (defScope sNRef) := ⟨rfl, rfl, rfl, by decide +kernel, rfl, by decide +kernel, by decide +kernel⟩
theorem ok_nref {f : Addr} {fd : FuncData} (F : Fun K "need_refusal" "need_refusal" sNRef f fd) (T : Txt K mg C) : FnOk P w K mg base CX0 1 f fd ["shop", "day", "pieces"] (spNRef C) := by
  refine F.ok scNRef (fun vs H Q E h => ?_) (fun cdv Ar outer s H vs Q E hr h => ?_)
  · obtain ⟨sh, n, A, t, m, rfl, _⟩ := h
    rfl
  · obtain ⟨sh, n, A, t, m, rfl, ⟨dx, f, kk, s1, s2, s3, s4⟩, k⟩ := h
    refine ⟨_, pss_cons (ps_if (pt_cmpR op_ge (pv 1) (pe_callB call_len_seq (by rfl) T.own.len PySem.boot_len (pa_cons (pe_fld (pv 0) rfl) pa_nil)) (nomark _)) (pss_one (ps_ret (pe_cst T.cNone rfl))) pss_nil)
      (pss_cons (ps_if (pt_cmpR op_gt (pv 2) (pe_cst T.cNeeded rfl) (nomark _)) (pss_one (ps_ret (pe_cst T.cOut rfl))) pss_nil)
      (pss_one (ps_ret pe_int))), ?_⟩
    refine ⟨_, rfl, _, rfl, sh, C, dx, _, _, rfl, s1, T.cl, T.nN, sf_needs _ _ _, n, _, rfl, .inl (SqL.of s2), _, _, rfl, rfl, _, rfl, iteD (fun h1 => ?_) (fun h1 => ?_)⟩
    · rw [nv_length] at h1
      unfold nref at k
      rw [if_pos (by omega)] at k
      exact k
    · rw [nv_length] at h1
      unfold nref at k
      rw [if_neg (by omega)] at k
      refine ⟨_, rfl, _, _, rfl, rfl, _, rfl, iteD (fun h2 => ?_) (fun h2 => ?_)⟩
      · rw [if_pos (by omega)] at k
        exact k
      · rw [if_neg (by omega)] at k
        exact k
abbrev sNeed : Stmt := top 31
theorem scNeed : FnScope ["shop", "given", "day", "refusal", "before"] ["shop", "given"] (defScope sNeed) := ⟨rfl, rfl, rfl, by decide +kernel, rfl, by decide +kernel, by decide +kernel⟩
theorem ixN_nat {t k : Nat} (h : t < k) : ixN k (t : Int) = some t := by
  unfold ixN
  rw [if_pos (by omega), if_pos (by omega), Int.toNat_natCast]
theorem nv_set (l : List Nat) (t m : Nat) : (nv l).set t (V.int (m : Int)) = nv (l.set t m) := by rw [nv, nv, List.map_set]
theorem ok_need {f fR : Addr} {fd fdR : FuncData} (F : Fun K "need" "need" sNeed f fd) (T : Txt K mg C) (CR : Cal P w K mg base 1 "need_refusal" fR fdR ["shop", "day", "pieces"] (spNRef C)) : FnOk P w K mg base CX0 2 f fd ["shop", "given"] (spCall C 1) := by
  refine F.ok scNeed (fun vs H Q E h => ?_) (fun cdv Ar outer s H vs Q E hr h => ?_)
  · obtain ⟨sh, n, g, st, gs, rfl, _⟩ := h
    rfl
  · obtain ⟨sh, n, g, st, gs, rfl, hS, hG, hne, hg, _, hl, k⟩ := h
    obtain ⟨a, rfl⟩ := some_of (hne (by decide))
    obtain ⟨t, m, rfl⟩ := len2 (hl (by decide))
    have G := hG a rfl
    rw [step_said (x := .need t m) rfl, said_some] at k
    have ed : Su88.does a (.need t m) = if a.needs.length ≤ t then (a, Su88.no (-2)) else if 1000 < m then (a, Su88.no (-22)) else ({ a with needs := a.needs.set t m }, Su88.num (a.need t) []) := rfl
    rw [ed] at k
    have nd := scNeed.nd
    refine ⟨_, pss_cons (ps_set (i := 2) nd rfl (Or.inl rfl) (pe_ix ix_list (pv 1) pe_int (fun _ _ => rfl)))
      (pss_cons (ps_set (i := 3) nd rfl (Or.inl rfl) (pe_call CR.ok hr rfl CR.m CR.kp CR.b .nil pass0 (pa_cons (pv 0) (pa_cons (pv 2) (pa_cons (pe_ix ix_list (pv 1) pe_int (fun _ _ => rfl)) pa_nil)))))
      (pss_cons (ps_if (pt_cmpR op_lt (pv 3) pe_int (nomark _)) (pss_one (ps_ret (pe_lst (pa_cons (pv 3) pa_nil)))) pss_nil)
      (pss_cons (ps_set (i := 4) nd rfl (Or.inl rfl) (pe_ix ix_list (pe_fld (pv 0) rfl) (pv 2) (fun _ _ => rfl)))
      (pss_cons (ps_asg (pe_ix ix_list (pv 1) pe_int (fun _ _ => rfl)) (pg_sub (pe_fld (pv 0) rfl) (pv 2) set_list))
      (pss_one (ps_ret (pe_lst (pa_cons (pv 4) pa_nil)))))))), ?_⟩
    have hS0 := hS
    obtain ⟨dx, f, kk, s1, s2, s3, s4⟩ := hS
    refine ⟨_, rfl, g, _, _, _, rfl, rfl, SqL.of hg, rfl, ?_⟩
    refine ⟨_, rfl, _, rfl, _, rfl, g, _, _, _, rfl, rfl, SqL.of hg, rfl, sh, n, a, t, m, rfl, hS0, ?_⟩
    refine ⟨_, rfl, _, _, rfl, rfl, _, rfl, iteD (fun hneg => ?_) (fun hpos => ?_)⟩
    · rw [nref_neg hneg] at k
      refine ⟨_, rfl, by show 1 ≤ sizeLine; decide, fun q hq => ?_⟩
      exact Ends1.still k hS0 (Same.new (.refl H) hq) hq upd_same
    · obtain ⟨h1, h2⟩ := nref_pos hpos
      rw [if_neg (by omega), if_neg (by omega)] at k
      refine ⟨_, rfl, sh, C, dx, _, _, rfl, s1, T.cl, T.nN, sf_needs _ _ _, _, rfl, n, _, _, _, rfl, rfl, SqL.of s2, atI_nat (nv_get (get_need h1)), ?_⟩
      refine ⟨_, rfl, g, _, _, _, rfl, rfl, SqL.of hg, rfl, _, rfl, sh, C, dx, _, _, rfl, s1, T.cl, T.nN, sf_needs _ _ _, _, rfl, n, _, _, t, rfl, rfl, s2, ?_, ?_⟩
      · rw [nv_length]
        exact ixN_nat h1
      · refine ⟨_, rfl, by show 1 ≤ sizeLine; decide, fun q hq => ?_⟩
        have nsn : sh ≠ n := ne_of s1 s2 (by intro z; cases z)
        have nfn : f ≠ n := ne_of s3 s2 (by intro z; cases z)
        have nkn : kk ≠ n := ne_of s4 s2 (by intro z; cases z)
        have nq : n ≠ q := ne_of_none upd_same hq
        have hq0 : H q = none := by
          rw [upd_ne (fun z => nq z.symm)] at hq
          exact hq
        refine k _ q n (fun b o hb h3 h4 => by rw [upd_ne (ne_of_none hb hq0), upd_ne h4]; exact hb) ⟨dx, f, kk, by rw [upd_ne (ne_of_none s1 hq0), upd_ne nsn]; exact s1, ?_, by rw [upd_ne (ne_of_none s3 hq0), upd_ne nfn]; exact s3, by rw [upd_ne (ne_of_none s4 hq0), upd_ne nkn]; exact s4⟩ (.inl rfl) hq0 (fun z => nq z.symm) upd_same
        rw [upd_ne nq, upd_same]
        exact congrArg (fun z => some (HO.lst z)) (nv_set a.needs t m)
/-! ### fees, keeping -/
theorem upd_shop {H : Hp} {sh p : Addr} {o o' : HO} (hp : H p = none) (hsh : ∃ x, H sh = some x) : ∀ b x, H b = some x → b ≠ sh → upd (upd H p o) sh o' b = some x := fun b x hb hs => by
  rw [upd_ne hs, upd_ne (ne_of_none hb hp)]
  exact hb
abbrev sFees : Stmt := top 32
theorem scFees : FnScope ["shop", "given", "before"] ["shop", "given"] (defScope sFees) := ⟨rfl, rfl, rfl, by decide +kernel, rfl, by decide +kernel, by decide +kernel⟩
theorem ok_fees {f fF : Addr} {fd fdF : FuncData} (F : Fun K "fees" "fees" sFees f fd) (T : Txt K mg C) (CF : Cal P w K mg base 1 "fees_fit" fF fdF ["above", "bringing"] spFit) : FnOk P w K mg base CX0 2 f fd ["shop", "given"] (spCall C 2) := by
  refine F.ok scFees (fun vs H Q E h => ?_) (fun cdv Ar outer s H vs Q E hr h => ?_)
  · obtain ⟨sh, n, g, st, gs, rfl, _⟩ := h
    rfl
  · obtain ⟨sh, n, g, st, gs, rfl, hS, hG, hne, hg, _, hl, k⟩ := h
    obtain ⟨a, rfl⟩ := some_of (hne (by decide))
    obtain ⟨u, d, rfl⟩ := len2 (hl (by decide))
    rw [step_said (x := .fees u d) rfl, said_some] at k
    have ed : Su88.does a (.fees u d) = if Su88.okF u d = false then (a, Su88.no (-22)) else ({ a with up := u, down := d }, Su88.num a.up [a.down]) := rfl
    rw [ed] at k
    have nd := scFees.nd
    refine ⟨_, pss_cons (ps_if (pt_not (pt_val (pe_call CF.ok hr rfl CF.m CF.kp CF.b .nil pass0 (pa_cons (pe_ix ix_list (pv 1) pe_int (fun _ _ => rfl)) (pa_cons (pe_ix ix_list (pv 1) pe_int (fun _ _ => rfl)) pa_nil))))) (pss_one (ps_ret (pe_lst (pa_cons (pe_cst T.cOut rfl) pa_nil)))) pss_nil)
      (pss_cons (ps_set (i := 2) nd rfl (Or.inl rfl) (pe_fld (pv 0) rfl))
      (pss_cons (ps_fld (pv 0) (pe_tup (pa_cons (pe_ix ix_list (pv 1) pe_int (fun _ _ => rfl)) (pa_cons (pe_ix ix_list (pv 1) pe_int (fun _ _ => rfl)) pa_nil))) rfl)
      (pss_one (ps_ret (pe_callTy call_list_of (by rfl) T.own.list boot_list (pa_cons (pv 2) pa_nil)))))), ?_⟩
    have hS0 := hS
    obtain ⟨dx, f, kk, s1, s2, s3, s4⟩ := hS
    refine ⟨_, rfl, g, _, _, _, rfl, rfl, SqL.of hg, rfl, _, rfl, g, _, _, _, rfl, rfl, SqL.of hg, rfl, u, d, rfl, _, rfl, iteB (fun h1 => ?_) fun h1 => ?_⟩
    · have h1 : Su88.okF u d = false := by simpa using h1
      rw [if_pos h1] at k
      exact one_ret k hS0 (.refl H) con_one
    · have h1 : Su88.okF u d = true := by simpa using h1
      rw [if_neg (by rw [h1]; decide)] at k
      refine ⟨_, rfl, sh, C, dx, _, _, rfl, s1, T.cl, T.nF, sf_fee _ _ _, ?_⟩
      refine ⟨_, rfl, g, _, _, _, rfl, rfl, SqL.of hg, rfl, _, rfl, g, _, _, _, rfl, rfl, SqL.of hg, rfl, by show 2 ≤ sizeLine; decide, fun p hp => ?_⟩
      have n1 : sh ≠ p := ne_of_none s1 hp
      refine ⟨_, rfl, sh, C, dx, _, rfl, by rw [upd_ne n1]; exact s1, T.cl, T.nF, sf_len _ _ _, ?_⟩
      rw [(sf_puts _ _ _ _).2.1]
      have nf : f ≠ sh := ne_of s3 s1 (by intro z; cases z)
      have nn : n ≠ sh := ne_of s2 s1 (by intro z; cases z)
      have nk : kk ≠ sh := ne_of s4 s1 (by intro z; cases z)
      have old := upd_shop (o := .tup [V.int (u : Int), V.int (d : Int)]) (o' := .ins C dx (sf (.ref n) (.ref p) (.ref kk))) hp ⟨_, s1⟩
      refine ⟨_, rfl, f, _, rfl, .inr (SqT.of (old _ _ s3 nf)), fun q hq => ?_⟩
      have hq0 : H q = none := by
        cases hb : H q with
        | none => rfl
        | some o =>
          by_cases e : q = sh
          · rw [e, upd_same] at hq; cases hq
          · rw [old _ _ hb e] at hq; cases hq
      have nqn : q ≠ n := fun z => ne_of_none s2 hq0 z.symm
      have nqp : p ≠ q := ne_of_none (by rw [upd_ne (fun z => n1 z.symm)]; exact upd_same) hq
      refine k _ q n (fun b o hb h3 h4 => by rw [upd_ne (ne_of_none hb hq0)]; exact old b o hb h3) ⟨dx, p, kk, by rw [upd_ne (ne_of_none s1 hq0), upd_same], by rw [upd_ne (ne_of_none s2 hq0)]; exact old _ _ s2 nn, by rw [upd_ne nqp, upd_ne (fun z => n1 z.symm), upd_same]; rfl, by rw [upd_ne (ne_of_none s4 hq0)]; exact old _ _ s4 nk⟩ (.inl rfl) hq0 nqn upd_same
abbrev sKeeping : Stmt := top 33
theorem scKeeping : FnScope ["shop", "given", "before"] ["shop", "given"] (defScope sKeeping) := ⟨rfl, rfl, rfl, by decide +kernel, rfl, by decide +kernel, by decide +kernel⟩
theorem ok_keeping {f fF : Addr} {fd fdF : FuncData} (F : Fun K "keeping" "keeping" sKeeping f fd) (T : Txt K mg C) (CF : Cal P w K mg base 1 "keeping_fits" fF fdF ["above", "below"] spKFit) : FnOk P w K mg base CX0 2 f fd ["shop", "given"] (spCall C 3) := by
  refine F.ok scKeeping (fun vs H Q E h => ?_) (fun cdv Ar outer s H vs Q E hr h => ?_)
  · obtain ⟨sh, n, g, st, gs, rfl, _⟩ := h
    rfl
  · obtain ⟨sh, n, g, st, gs, rfl, hS, hG, hne, hg, _, hl, k⟩ := h
    obtain ⟨a, rfl⟩ := some_of (hne (by decide))
    obtain ⟨u, d, rfl⟩ := len2 (hl (by decide))
    rw [step_said (x := .keeping u d) rfl, said_some] at k
    have ed : Su88.does a (.keeping u d) = if Su88.okK u d = false then (a, Su88.no (-22)) else ({ a with above := u, below := d }, Su88.num a.above [a.below]) := rfl
    rw [ed] at k
    have nd := scKeeping.nd
    refine ⟨_, pss_cons (ps_if (pt_not (pt_val (pe_call CF.ok hr rfl CF.m CF.kp CF.b .nil pass0 (pa_cons (pe_ix ix_list (pv 1) pe_int (fun _ _ => rfl)) (pa_cons (pe_ix ix_list (pv 1) pe_int (fun _ _ => rfl)) pa_nil))))) (pss_one (ps_ret (pe_lst (pa_cons (pe_cst T.cOut rfl) pa_nil)))) pss_nil)
      (pss_cons (ps_set (i := 2) nd rfl (Or.inl rfl) (pe_fld (pv 0) rfl))
      (pss_cons (ps_fld (pv 0) (pe_tup (pa_cons (pe_ix ix_list (pv 1) pe_int (fun _ _ => rfl)) (pa_cons (pe_ix ix_list (pv 1) pe_int (fun _ _ => rfl)) pa_nil))) rfl)
      (pss_one (ps_ret (pe_callTy call_list_of (by rfl) T.own.list boot_list (pa_cons (pv 2) pa_nil)))))), ?_⟩
    have hS0 := hS
    obtain ⟨dx, f, kk, s1, s2, s3, s4⟩ := hS
    refine ⟨_, rfl, g, _, _, _, rfl, rfl, SqL.of hg, rfl, _, rfl, g, _, _, _, rfl, rfl, SqL.of hg, rfl, u, d, rfl, _, rfl, iteB (fun h1 => ?_) fun h1 => ?_⟩
    · have h1 : Su88.okK u d = false := by simpa using h1
      rw [if_pos h1] at k
      exact one_ret k hS0 (.refl H) con_one
    · have h1 : Su88.okK u d = true := by simpa using h1
      rw [if_neg (by rw [h1]; decide)] at k
      refine ⟨_, rfl, sh, C, dx, _, _, rfl, s1, T.cl, T.nK, sf_keep _ _ _, ?_⟩
      refine ⟨_, rfl, g, _, _, _, rfl, rfl, SqL.of hg, rfl, _, rfl, g, _, _, _, rfl, rfl, SqL.of hg, rfl, by show 2 ≤ sizeLine; decide, fun p hp => ?_⟩
      have n1 : sh ≠ p := ne_of_none s1 hp
      refine ⟨_, rfl, sh, C, dx, _, rfl, by rw [upd_ne n1]; exact s1, T.cl, T.nK, sf_len _ _ _, ?_⟩
      rw [(sf_puts _ _ _ _).2.2]
      have nf : f ≠ sh := ne_of s3 s1 (by intro z; cases z)
      have nn : n ≠ sh := ne_of s2 s1 (by intro z; cases z)
      have nk : kk ≠ sh := ne_of s4 s1 (by intro z; cases z)
      have old := upd_shop (o := .tup [V.int (u : Int), V.int (d : Int)]) (o' := .ins C dx (sf (.ref n) (.ref f) (.ref p))) hp ⟨_, s1⟩
      refine ⟨_, rfl, kk, _, rfl, .inr (SqT.of (old _ _ s4 nk)), fun q hq => ?_⟩
      have hq0 : H q = none := by
        cases hb : H q with
        | none => rfl
        | some o =>
          by_cases e : q = sh
          · rw [e, upd_same] at hq; cases hq
          · rw [old _ _ hb e] at hq; cases hq
      have nqn : q ≠ n := fun z => ne_of_none s2 hq0 z.symm
      have nqp : p ≠ q := ne_of_none (by rw [upd_ne (fun z => n1 z.symm)]; exact upd_same) hq
      refine k _ q n (fun b o hb h3 h4 => by rw [upd_ne (ne_of_none hb hq0)]; exact old b o hb h3) ⟨dx, f, p, by rw [upd_ne (ne_of_none s1 hq0), upd_same], by rw [upd_ne (ne_of_none s2 hq0)]; exact old _ _ s2 nn, by rw [upd_ne (ne_of_none s3 hq0)]; exact old _ _ s3 nf, by rw [upd_ne nqp, upd_ne (fun z => n1 z.symm), upd_same]; rfl⟩ (.inl rfl) hq0 nqn upd_same
end
end TS
end
section
set_option Elab.async false
set_option Elab.async false
set_option linter.all false
set_option maxRecDepth 100000
set_option maxHeartbeats 2000000
namespace TS
open PySem PySem.Spec PyProof.Rows L2
theorem least_of {A : Su88.Abs} {z : Nat × List Nat × List Nat} (h : A.best = some z) : A.least = z.1 := by
  unfold Su88.Abs.least
  rw [h]
  rfl
theorem best_len {A : Su88.Abs} {z : Nat × List Nat × List Nat} (h : A.best = some z) : z.2.1.length = A.needs.length ∧ z.2.2.length = A.needs.length := by
  rw [best_pick] at h
  obtain ⟨p, hp, e⟩ := List.mem_map.mp (pick_mem h)
  unfold Su88.Abs.plans at hp
  obtain ⟨s, hs, hu⟩ := List.mem_flatMap.mp hp
  obtain ⟨u, hu, e2⟩ := List.mem_map.mp hu
  subst e2
  cases q : A.cost (Su88.covers (Su88.covers A.needs s) u) (Su88.covers A.needs s) with
  | none => rw [show tag2 (Su88.covers (Su88.covers A.needs s) u, Su88.covers A.needs s) (A.cost (Su88.covers (Su88.covers A.needs s) u, Su88.covers A.needs s).1 (Su88.covers (Su88.covers A.needs s) u, Su88.covers A.needs s).2) = none from by show tag2 _ (A.cost (Su88.covers (Su88.covers A.needs s) u) (Su88.covers A.needs s)) = none; rw [q]; rfl] at e; cases e
  | some c =>
    have e : tag2 (Su88.covers (Su88.covers A.needs s) u, Su88.covers A.needs s) (A.cost (Su88.covers (Su88.covers A.needs s) u) (Su88.covers A.needs s)) = some z := e
    rw [q] at e
    cases e
    exact ⟨by show (Su88.covers (Su88.covers A.needs s) u).length = _; rw [covers_length, covers_length], covers_length _ _⟩
theorem nv_iv (l : List Nat) : (iv l).map V.int = nv l := by rw [List.map_map]; rfl
theorem outs_iv (l : List Nat) : Su88Neutral.outs l = iv l := rfl
section
variable {P : Program} {w : World} {K : PySem.W.Frag} {mg : Str → Option Value} {base : Heap} {C : Addr}
/-! ### least_now, least_for -/
abbrev sNow : Stmt := top 26
def spNow (C : Addr) : Sp := fun vs H Q _ => ∃ (sh n : Addr) (A : Su88.Abs), vs = [.ref sh] ∧ ShopAt C H sh n A ∧ Good A ∧ ∀ H', Same H H' → Q (.int (A.least : Int)) H'
theorem scNow : FnScope ["shop"] ["shop"] (defScope sNow) := ⟨rfl, rfl, rfl, by decide +kernel, rfl, by decide +kernel, by decide +kernel⟩
theorem ok_now {f fT : Addr} {fd fdT : FuncData} (F : Fun K "least_now" "least_now" sNow f fd) (T : Txt K mg C) (CT : Cal P w K mg base 5 "told_plan" fT fdT ["shop"] (spTold C)) : FnOk P w K mg base CX0 6 f fd ["shop"] (spNow C) := by
  refine F.ok scNow (fun vs H Q E h => ?_) (fun cdv Ar outer s H vs Q E hr h => ?_)
  · obtain ⟨sh, n, A, rfl, _⟩ := h
    rfl
  · obtain ⟨sh, n, A, rfl, hS, G, k⟩ := h
    refine ⟨_, pss_one (ps_ret (pe_ix ix_tup (pe_call CT.ok hr rfl CT.m CT.kp CT.b .nil pass0 (pa_cons (pv 0) pa_nil)) pe_int (fun _ _ => rfl))), ?_⟩
    refine ⟨_, rfl, sh, n, A, rfl, hS, G, fun H' p o b z s1 hz h1 h2 h3 => ⟨p, _, _, _, rfl, rfl, SqT.of h1, rfl, ?_⟩⟩
    have := k H' s1
    rw [least_of hz] at this
    exact this
abbrev sFor : Stmt := top 27
def spFor (K : PySem.W.Frag) (C : Addr) : Sp := fun vs H Q _ => ∃ (sh n m : Addr) (A : Su88.Abs) (l : List Nat), vs = [.ref sh, .ref m] ∧ ShopAt C H sh n A ∧ Good A ∧ SqL K H m (nv l) ∧ l.length ≤ 7 ∧ ∀ H', Same H H' → Q (.int (({ A with needs := l } : Su88.Abs).least : Int)) H'
theorem scFor : FnScope ["shop", "needs"] ["shop", "needs"] (defScope sFor) := ⟨rfl, rfl, rfl, by decide +kernel, rfl, by decide +kernel, by decide +kernel⟩
theorem ok_for {f fL : Addr} {fd fdL : FuncData} (F : Fun K "least_for" "least_for" sFor f fd) (T : Txt K mg C) (CL : Cal P w K mg base 4 "least_plan" fL fdL ["needs", "fees", "keeps"] (spLeast K)) : FnOk P w K mg base CX0 5 f fd ["shop", "needs"] (spFor K C) := by
  refine F.ok scFor (fun vs H Q E h => ?_) (fun cdv Ar outer s H vs Q E hr h => ?_)
  · obtain ⟨sh, n, m, A, l, rfl, _⟩ := h
    rfl
  · obtain ⟨sh, n, m, A, l, rfl, ⟨dx, f, kk, h1, h2, h3, h4⟩, G, hm, hl, k⟩ := h
    refine ⟨_, pss_one (ps_ret (pe_ix ix_tup (pe_call CL.ok hr rfl CL.m CL.kp CL.b .nil pass0 (pa_cons (pv 1) (pa_cons (pe_fld (pv 0) rfl) (pa_cons (pe_fld (pv 0) rfl) pa_nil)))) pe_int (fun _ _ => rfl))), ?_⟩
    refine ⟨_, rfl, _, rfl, sh, C, dx, _, _, rfl, h1, T.cl, T.nF, sf_fee _ _ _, _, rfl, sh, C, dx, _, _, rfl, h1, T.cl, T.nK, sf_keep _ _ _, ?_⟩
    have fit := G.fits
    refine ⟨{ A with needs := l }, ⟨m, f, kk, rfl, hm, SqT.of h3, SqT.of h4, ⟨hl, fit.up, fit.down, fit.above, fit.below⟩⟩, fun H' v s hv => ?_⟩
    obtain ⟨z, hz⟩ := best_some ({ A with needs := l } : Su88.Abs)
    rw [hz] at hv
    obtain ⟨p, o, b, rfl, q1, q2, q3⟩ := hv
    refine ⟨p, _, _, _, rfl, rfl, SqT.of q1, rfl, ?_⟩
    have := k H' s
    rw [least_of hz] at this
    exact this
/-! ### least, plan -/
abbrev sLst : Stmt := top 34
theorem scLst : FnScope ["shop", "given"] ["shop", "given"] (defScope sLst) := ⟨rfl, rfl, rfl, by decide +kernel, rfl, by decide +kernel, by decide +kernel⟩
theorem ok_lst {f fT : Addr} {fd fdT : FuncData} (F : Fun K "least" "least" sLst f fd) (T : Txt K mg C) (CT : Cal P w K mg base 6 "least_now" fT fdT ["shop"] (spNow C)) : FnOk P w K mg base CX0 7 f fd ["shop", "given"] (spCall C 4) := by
  refine F.ok scLst (fun vs H Q E h => ?_) (fun cdv Ar outer s H vs Q E hr h => ?_)
  · obtain ⟨sh, n, g, st, gs, rfl, _⟩ := h
    rfl
  · obtain ⟨sh, n, g, st, gs, rfl, hS, hG, hne, hg, _, hl, k⟩ := h
    obtain ⟨a, rfl⟩ := some_of (hne (by decide))
    obtain rfl := len0 (hl (by decide))
    rw [step_said (x := .least) rfl, said_some] at k
    refine ⟨_, pss_one (ps_ret (pe_lst (pa_cons (pe_call CT.ok hr rfl CT.m CT.kp CT.b .nil pass0 (pa_cons (pv 0) pa_nil)) pa_nil))), ?_⟩
    refine ⟨_, rfl, sh, n, a, rfl, hS, hG a rfl, fun H' s1 => ⟨by show 1 ≤ sizeLine; decide, fun q hq => ?_⟩⟩
    refine Ends1.still k hS (s1.new hq) (s1.free hq) ?_
    rw [upd_same]
    rfl
abbrev sPlan : Stmt := top 35
theorem scPlan : FnScope ["shop", "given", "told"] ["shop", "given"] (defScope sPlan) := ⟨rfl, rfl, rfl, by decide +kernel, rfl, by decide +kernel, by decide +kernel⟩
theorem ok_plan {f fT : Addr} {fd fdT : FuncData} (F : Fun K "plan" "plan" sPlan f fd) (T : Txt K mg C) (CT : Cal P w K mg base 5 "told_plan" fT fdT ["shop"] (spTold C)) : FnOk P w K mg base CX0 6 f fd ["shop", "given"] (spCall C 5) := by
  refine F.ok scPlan (fun vs H Q E h => ?_) (fun cdv Ar outer s H vs Q E hr h => ?_)
  · obtain ⟨sh, n, g, st, gs, rfl, _⟩ := h
    rfl
  · obtain ⟨sh, n, g, st, gs, rfl, hS, hG, hne, hg, _, hl, k⟩ := h
    obtain ⟨a, rfl⟩ := some_of (hne (by decide))
    obtain rfl := len0 (hl (by decide))
    have G := hG a rfl
    rw [step_said (x := .plan) rfl, said_some] at k
    have nd := scPlan.nd
    refine ⟨_, pss_cons (ps_set (i := 2) nd rfl (Or.inl rfl) (pe_call CT.ok hr rfl CT.m CT.kp CT.b .nil pass0 (pa_cons (pv 0) pa_nil)))
      (pss_one (ps_ret (pe_op op_cat (pe_op op_cat (pe_lst (pa_cons (pe_ix ix_tup (pv 2) pe_int (fun _ _ => rfl)) pa_nil)) (pe_ix ix_tup (pv 2) pe_int (fun _ _ => rfl))) (pe_ix ix_tup (pv 2) pe_int (fun _ _ => rfl))))), ?_⟩
    refine ⟨_, rfl, sh, n, a, rfl, hS, G, fun H' p o b z s1 hz h1 h2 h3 => ?_⟩
    obtain ⟨l1, l2⟩ := best_len hz
    have gd := G.days
    have ed : Su88.does a .plan = (a, Su88.num z.1 (z.2.1 ++ z.2.2)) := by
      show (match a.best with | none => (a, Su88.no (-33)) | some x => (a, Su88.num x.1 (x.2.1 ++ x.2.2))) = _
      rw [hz]
    rw [ed] at k
    refine ⟨_, rfl, p, _, _, _, rfl, rfl, SqT.of h1, rfl, by show 1 ≤ sizeLine; decide, fun q0 hq0 => ?_⟩
    have e0 : Same H' (upd H' q0 (.lst [V.int (z.1 : Int)])) := Same.new (.refl H') hq0
    refine ⟨_, rfl, p, _, _, _, rfl, rfl, SqT.of (e0 _ _ h1), rfl, q0, o, _, _, rfl, rfl, upd_same, e0 _ _ h2, by rw [nv_length]; exact sz (by show 1 + _ ≤ _; omega), fun q1 hq1 => ?_⟩
    have e1 := e0.new (o := .lst ([V.int (z.1 : Int)] ++ nv z.2.1)) hq1
    refine ⟨_, rfl, p, _, _, _, rfl, rfl, SqT.of (e1 _ _ h1), rfl, q1, b, _, _, rfl, rfl, upd_same, e1 _ _ h3, by rw [List.length_append, nv_length, nv_length]; exact sz (by show (1 + _) + _ ≤ _; omega), fun q2 hq2 => ?_⟩
    have e2 := e1.new (o := .lst ([V.int (z.1 : Int)] ++ nv z.2.1 ++ nv z.2.2)) hq2
    refine Ends1.still k hS (s1.trans e2) ((s1.trans e1).free hq2) ?_
    rw [upd_same]
    show some (HO.lst ([V.int (z.1 : Int)] ++ nv z.2.1 ++ nv z.2.2)) = some (HO.lst (V.int (z.1 : Int) :: (iv (z.2.1 ++ z.2.2)).map V.int))
    rw [nv_iv, nv_append, List.append_assoc]
    rfl
/-! ### plan_refusal -/
abbrev sRef : Stmt := top 36
def refusal (A : Su88.Abs) (l : List Nat) : Int := if A.okP l = false then -22 else (match Su88.lies 0 (l.take A.needs.length) (l.drop A.needs.length), Su88.lies 0 (l.drop A.needs.length) A.needs with
  | some _, some _ => 0
  | _, _ => -12)
def spRef (C : Addr) : Sp := fun vs H Q _ => ∃ (sh n g : Addr) (A : Su88.Abs) (l : List Nat), vs = [.ref sh, .ref g] ∧ ShopAt C H sh n A ∧ Good A ∧ H g = some (.lst (nv l)) ∧ l.length ≤ 9000 ∧ ∀ H', Same H H' → Q (.int (refusal A l)) H'
theorem scRef : FnScope ["shop", "given", "days", "brought", "pieces"] ["shop", "given"] (defScope sRef) := ⟨rfl, rfl, rfl, by decide +kernel, rfl, by decide +kernel, by decide +kernel⟩
theorem blkRef : BlkOk ["shop", "given", "days", "brought", "pieces"] (defScope sRef) { kind := .function, names := [(".0", .local), ("pieces", .local), ("MOST_IN_PLAN", .globalImplicit)], isGenerator := false, isCoroutine := false } [("pieces", 4)] := ⟨rfl, by decide +kernel, by decide +kernel, by decide +kernel, by decide +kernel⟩
theorem any_big (l : List Nat) : (l.map fun x => decide (100000 < x)).any id = !(l.all fun x => decide (x ≤ 100000)) := by
  induction l with
  | nil => rfl
  | cons a l ih =>
    rw [List.map_cons, List.any_cons, List.all_cons, ih, Bool.not_and]
    congr 1
    show decide (100000 < a) = !decide (a ≤ 100000)
    by_cases h : a ≤ 100000
    · rw [decide_eq_true h, decide_eq_false (by omega)]; rfl
    · rw [decide_eq_false h, decide_eq_true (by omega)]; rfl
theorem ok_ref {f fL : Addr} {fd fdL : FuncData} (F : Fun K "plan_refusal" "plan_refusal" sRef f fd) (T : Txt K mg C) (CL : Cal P w K mg base 1 "left_behind" fL fdL ["came", "went"] (spLeft K)) : FnOk P w K mg base CX0 2 f fd ["shop", "given"] (spRef C) := by
  refine F.ok scRef (fun vs H Q E h => ?_) (fun cdv Ar outer s H vs Q E hr h => ?_)
  · obtain ⟨sh, n, g, A, l, rfl, _⟩ := h
    rfl
  · obtain ⟨sh, n, g, A, l, rfl, ⟨dx, f, kk, s1, s2, s3, s4⟩, G, hg, hl, k⟩ := h
    have nd := scRef.nd
    have gd := G.days
    refine ⟨_, pss_cons (ps_set (i := 2) nd rfl (Or.inl rfl) (pe_callB call_len_seq (by rfl) T.own.len PySem.boot_len (pa_cons (pe_fld (pv 0) rfl) pa_nil)))
      (pss_cons (ps_if (PW.pt (pw_or (pt_cmpR op_ne (pe_callB call_len_seq (by rfl) T.own.len PySem.boot_len (pa_cons (pv 1) pa_nil)) (pe_op op_mul pe_int (pv 2)) (nomark _)) (pw_or1 (pt_val (pe_callB (cr_any rfl) (by rfl) T.own.any boot_any (pa_cons (pe_lc (own := [("pieces", 4)]) rfl nd (pi_list (pv 1)) blkRef (fun _ _ _ _ _ => pg_name (i := 4) nd rfl (Or.inl rfl)) (fun _ _ _ _ _ => pts_nil) (fun _ _ _ _ _ => pe_cmpR op_gt (pv 4) (pe_cst T.cPlan rfl) (nomark _))) pa_nil)))))) (pss_one (ps_ret (pe_cst T.cOut rfl))) pss_nil)
      (pss_cons (ps_set (i := 3) nd rfl (Or.inl rfl) (pe_slice sl_list (pv 1) (po_some (pv 2)) po_none))
      (pss_cons (ps_if (PW.pt (pw_or (pt_cmp (pc_isN (pe_call CL.ok hr rfl CL.m CL.kp CL.b .nil pass0 (pa_cons (pe_slice sl_list (pv 1) po_none (po_some (pv 2))) (pa_cons (pv 3) pa_nil))))) (pw_or1 (pt_cmp (pc_isN (pe_call CL.ok hr rfl CL.m CL.kp CL.b .nil pass0 (pa_cons (pv 3) (pa_cons (pe_fld (pv 0) rfl) pa_nil)))))))) (pss_one (ps_ret (pe_cst T.cLittle rfl))) pss_nil)
      (pss_one (ps_ret pe_int))))), ?_⟩
    refine ⟨_, rfl, sh, C, dx, _, _, rfl, s1, T.cl, T.nN, sf_needs _ _ _, n, _, rfl, .inl (SqL.of s2), ?_⟩
    rw [nv_length]
    refine ⟨_, rfl, g, _, rfl, .inl (SqL.of hg), _, rfl, _, _, rfl, rfl, .inl ⟨by omega, by omega⟩, rfl, _, rfl, ?_⟩
    rw [nv_length]
    have e22 : ∀ {D : Ends} {σ : L2.St} {H' : Hp}, D.rt = Q → Same H H' → A.okP l = false → tRet (tC (.int (-22))) D σ H' := fun {D σ H'} eD s5 ho => by
      subst eD
      have := k H' s5
      unfold refusal at this
      rw [if_pos ho] at this
      exact this
    have okP : A.okP l = (l.length == 2 * A.needs.length && l.all fun x => decide (x ≤ 100000)) := rfl
    refine iteB (fun h1 => iteT (e22 rfl (.refl H) ?_)) fun h1 => ?_
    · have h1 : ¬ l.length = 2 * A.needs.length := fun z => by
        rw [z] at h1
        simp at h1
      rw [okP, beq_eq_false_iff_ne.mpr h1, Bool.false_and]
    · have h1 : l.length = 2 * A.needs.length := by
        simp at h1
        omega
      refine ⟨_, rfl, g, rfl, ⟨_, SqL.of hg⟩, fun D hD => ?_⟩
      have s0 : Same H (upd H D (.lst [])) := Same.new (.refl H) hD
      refine lc_list (K := K) (a := g) (xs := nv l) (fun i H' => Same H H' ∧ i ≤ l.length ∧ H' D = some (.lst (((l.take i).map fun x => decide (100000 < x)).map V.bl))) ⟨s0, Nat.zero_le _, upd_same⟩ (fun i H' _ q => SqL.of (q.1 _ _ hg)) ?_ ?_
      · rintro i x H' hx ⟨s5, hi, hd⟩
        obtain ⟨c, hc, rfl⟩ := nv_at hx
        have hi' : i + 1 ≤ l.length := (List.getElem?_eq_some_iff.mp hc).1
        refine ⟨rfl, ?_⟩
        dsimp only [tYes]
        rw [if_pos rfl]
        refine ⟨_, rfl, _, _, rfl, rfl, _, hd, by rw [List.length_map, List.length_map, List.length_take]; exact szl (by omega), s5.chg hD, hi', ?_⟩
        rw [upd_same, take_snoc hc, List.map_append, List.map_append]
        have e : decide ((100000 : Int) < (c : Int)) = decide (100000 < c) := decide_eq_decide.mpr (by omega)
        show some (HO.lst (_ ++ [V.bl (decide ((100000 : Int) < (c : Int)))])) = some (HO.lst (_ ++ [V.bl (decide (100000 < c))]))
        rw [e]
      · rintro H' ⟨s5, hi, hd⟩
        rw [nv_length, List.take_length] at hd
        refine ⟨D, _, rfl, SqL.of hd, _, rfl, ?_⟩
        rw [any_big]
        refine iteB (fun h2 => e22 rfl s5 ?_) fun h2 => ?_
        · have h2 : (l.all fun x => decide (x ≤ 100000)) = false := by simpa using h2
          rw [okP, h2, Bool.and_false]
        · have h2 : (l.all fun x => decide (x ≤ 100000)) = true := by simpa using h2
          have ho : A.okP l = true := by rw [okP, h2, h1, beq_self_eq_true]; rfl
          have k2 : ∀ H', Same H H' → Q (.int (match Su88.lies 0 (l.take A.needs.length) (l.drop A.needs.length), Su88.lies 0 (l.drop A.needs.length) A.needs with
              | some _, some _ => 0
              | _, _ => -12)) H' := fun H' s => by
            have := k H' s
            unfold refusal at this
            rw [if_neg (by rw [ho]; decide)] at this
            exact this
          have lt1 : (l.take A.needs.length).length = A.needs.length := by rw [List.length_take]; omega
          have lt2 : (l.drop A.needs.length).length = A.needs.length := by rw [List.length_drop]; omega
          -- brought
          refine ⟨_, rfl, _, rfl, _, rfl, g, _, rfl, SqL.of (s5 _ _ hg), fun pb hpb => ?_⟩
          rw [cut_from]
          have s6 := s5.new (o := .lst (nv (l.drop A.needs.length))) hpb
          refine ⟨_, rfl, _, rfl, _, rfl, g, _, rfl, SqL.of (s6 _ _ hg), fun po hpo => ?_⟩
          rw [cut_to]
          have s7 := s6.new (o := .lst (nv (l.take A.needs.length))) hpo
          have nb : pb ≠ po := ne_of_none upd_same hpo
          have hb7 : upd (upd H' pb (.lst (nv (l.drop A.needs.length)))) po (.lst (nv (l.take A.needs.length))) pb = some (.lst (nv (l.drop A.needs.length))) := by rw [upd_ne nb]; exact upd_same
          refine ⟨_, rfl, po, pb, l.take A.needs.length, l.drop A.needs.length, rfl, SqL.of upd_same, SqL.of hb7, by omega, by omega, fun hno H1 t1 => ?_, fun x hx H1 px t1 nx hpx => ?_⟩
          · refine ⟨_, rfl, iteT ?_⟩
            have := k2 H1 (s7.trans t1)
            rw [hno] at this
            exact this
          · refine ⟨_, rfl, iteF ?_⟩
            have s8 := s7.trans t1
            refine ⟨_, rfl, _, rfl, sh, C, dx, _, _, rfl, s8 _ _ s1, T.cl, T.nN, sf_needs _ _ _, ?_⟩
            refine ⟨pb, n, l.drop A.needs.length, A.needs, rfl, SqL.of (t1 _ _ hb7), SqL.of (s8 _ _ s2), by omega, by omega, fun hno H2 t2 => ?_, fun y hy H2 py t2 ny hpy => ?_⟩
            · refine ⟨_, rfl, iteT ?_⟩
              have := k2 H2 (s8.trans t2)
              rw [hx, hno] at this
              exact this
            · refine ⟨_, rfl, iteF ?_⟩
              have := k2 H2 (s8.trans t2)
              rw [hx, hy] at this
              exact this
end
end TS
end
section
set_option Elab.async false
set_option Elab.async false
set_option linter.all false
set_option maxRecDepth 100000
set_option maxHeartbeats 2000000
namespace TS
open PySem PySem.Spec PyProof.Rows L2
theorem cost_split (A : Su88.Abs) (o b : List Nat) : A.cost o b = match Su88.lies 0 o b, Su88.lies 0 b A.needs with
    | some x, some y => some (A.up * Su88.times o + A.down * Su88.times b + A.above * x.sum + A.below * y.sum)
    | _, _ => none := rfl
section
variable {P : Program} {w : World} {K : PySem.W.Frag} {mg : Str → Option Value} {base : Heap} {C : Addr}
/-! ### cost_of -/
abbrev sCof : Stmt := top 28
def spCof (K : PySem.W.Frag) (C : Addr) : Sp := fun vs H Q _ => ∃ (sh n o b : Addr) (A : Su88.Abs) (os bs : List Nat) (c : Nat), vs = [.ref sh, .ref o, .ref b] ∧ ShopAt C H sh n A ∧ Good A ∧ SqL K H o (nv os) ∧ SqL K H b (nv bs) ∧ os.length = A.needs.length ∧ bs.length = A.needs.length ∧ A.cost os bs = some c ∧ ∀ H', Same H H' → Q (.int (c : Int)) H'
theorem scCof : FnScope ["shop", "ordered", "brought"] ["shop", "ordered", "brought"] (defScope sCof) := ⟨rfl, rfl, rfl, by decide +kernel, rfl, by decide +kernel, by decide +kernel⟩
theorem ok_cof {f fP : Addr} {fd fdP : FuncData} (F : Fun K "cost_of" "cost_of" sCof f fd) (T : Txt K mg C) (CP : Cal P w K mg base 2 "plan_cost" fP fdP ["ordered", "brought", "needs", "fees", "keeps"] (spPCost K)) : FnOk P w K mg base CX0 3 f fd ["shop", "ordered", "brought"] (spCof K C) := by
  refine F.ok scCof (fun vs H Q E h => ?_) (fun cdv Ar outer s H vs Q E hr h => ?_)
  · obtain ⟨sh, n, o, b, A, os, bs, c, rfl, _⟩ := h
    rfl
  · obtain ⟨sh, n, o, b, A, os, bs, c, rfl, ⟨dx, f, kk, h1, h2, h3, h4⟩, G, ho, hb, lo, lb, hc, k⟩ := h
    refine ⟨_, pss_one (ps_ret (pe_call CP.ok hr rfl CP.m CP.kp CP.b .nil pass0 (pa_cons (pv 1) (pa_cons (pv 2) (pa_cons (pe_fld (pv 0) rfl) (pa_cons (pe_fld (pv 0) rfl) (pa_cons (pe_fld (pv 0) rfl) pa_nil))))))), ?_⟩
    refine ⟨_, rfl, _, rfl, _, rfl, sh, C, dx, _, _, rfl, h1, T.cl, T.nN, sf_needs _ _ _, _, rfl, sh, C, dx, _, _, rfl, h1, T.cl, T.nF, sf_fee _ _ _, _, rfl, sh, C, dx, _, _, rfl, h1, T.cl, T.nK, sf_keep _ _ _, ?_⟩
    have fit := G.fits
    exact ⟨o, b, n, f, kk, os, bs, A, c, rfl, ho, hb, SqL.of h2, SqT.of h3, SqT.of h4, lo, lb, G.days, fit.up, fit.down, fit.above, fit.below, hc, k⟩
/-! ### cost -/
abbrev sCost : Stmt := top 37
theorem scCost : FnScope ["shop", "given", "refusal", "days", "price"] ["shop", "given"] (defScope sCost) := ⟨rfl, rfl, rfl, by decide +kernel, rfl, by decide +kernel, by decide +kernel⟩
theorem ok_cost {f fR fP fT : Addr} {fd fdR fdP fdT : FuncData} (F : Fun K "cost" "cost" sCost f fd) (T : Txt K mg C) (CR : Cal P w K mg base 2 "plan_refusal" fR fdR ["shop", "given"] (spRef C)) (CP : Cal P w K mg base 3 "cost_of" fP fdP ["shop", "ordered", "brought"] (spCof K C))
    (CT : Cal P w K mg base 6 "least_now" fT fdT ["shop"] (spNow C)) : FnOk P w K mg base CX0 7 f fd ["shop", "given"] (spCall C 6) := by
  refine F.ok scCost (fun vs H Q E h => ?_) (fun cdv Ar outer s H vs Q E hr h => ?_)
  · obtain ⟨sh, n, g, st, gs, rfl, _⟩ := h
    rfl
  · obtain ⟨sh, n, g, st, l, rfl, hS, hG, hne, hg, hl, _, k⟩ := h
    obtain ⟨a, rfl⟩ := some_of (hne (by decide))
    have G := hG a rfl
    have gd := G.days
    rw [step_said (x := .cost ((iv l).map Int.toNat)) rfl, said_some, iv_toNat] at k
    have ed : Su88.does a (.cost l) = if a.okP l = false then (a, Su88.no (-22)) else (match a.cost (l.take a.needs.length) (l.drop a.needs.length) with
      | none => (a, Su88.no (-12))
      | some c => (a, Su88.num c [c - a.least])) := rfl
    have nd := scCost.nd
    have hr3 : Room 3 _ := hr.mono (by decide)
    have hr2 : Room 2 _ := hr.mono (by decide)
    refine ⟨_, pss_cons (ps_set (i := 2) nd rfl (Or.inl rfl) (pe_call CR.ok hr2 rfl CR.m CR.kp CR.b .nil pass0 (pa_cons (pv 0) (pa_cons (pv 1) pa_nil))))
      (pss_cons (ps_if (pt_cmpR op_lt (pv 2) pe_int (nomark _)) (pss_one (ps_ret (pe_lst (pa_cons (pv 2) pa_nil)))) pss_nil)
      (pss_cons (ps_set (i := 3) nd rfl (Or.inl rfl) (pe_callB call_len_seq (by rfl) T.own.len PySem.boot_len (pa_cons (pe_fld (pv 0) rfl) pa_nil)))
      (pss_cons (ps_set (i := 4) nd rfl (Or.inl rfl) (pe_call CP.ok hr3 rfl CP.m CP.kp CP.b .nil pass0 (pa_cons (pv 0) (pa_cons (pe_slice sl_list (pv 1) po_none (po_some (pv 3))) (pa_cons (pe_slice sl_list (pv 1) (po_some (pv 3)) po_none) pa_nil)))))
      (pss_one (ps_ret (pe_lst (pa_cons (pv 4) (pa_cons (pe_op op_sub (pv 4) (pe_call CT.ok hr rfl CT.m CT.kp CT.b .nil pass0 (pa_cons (pv 0) pa_nil))) pa_nil)))))))), ?_⟩
    refine ⟨_, rfl, _, rfl, sh, n, g, a, l, rfl, hS, G, hg, hl, fun H1 t1 => ?_⟩
    refine ⟨_, rfl, _, _, rfl, rfl, _, rfl, iteD (fun hneg => ?_) (fun hpos => ?_)⟩
    · -- refused
      have : (Su88.does a (.cost l)) = (a, Su88.no (refusal a l)) := by
        rw [ed]
        unfold refusal at hneg ⊢
        by_cases ho : a.okP l = false
        · rw [if_pos ho, if_pos ho]
        · rw [if_neg ho] at hneg ⊢
          rw [if_neg ho, cost_split]
          cases hx : Su88.lies 0 (l.take a.needs.length) (l.drop a.needs.length) with
          | none => rfl
          | some x =>
            cases hy : Su88.lies 0 (l.drop a.needs.length) a.needs with
            | none => rfl
            | some y => rw [hx, hy] at hneg; exact absurd hneg (by show ¬ (0 : Int) < 0; decide)
      rw [this] at k
      refine ⟨_, rfl, by show 1 ≤ sizeLine; decide, fun q hq => ?_⟩
      exact Ends1.still k hS (t1.new hq) (t1.free hq) upd_same
    · have ho : ¬ a.okP l = false := fun ho => by
        unfold refusal at hpos
        rw [if_pos ho] at hpos
        omega
      have ho2 : a.okP l = true := eq_true_of_ne_false ho
      have okP : a.okP l = (l.length == 2 * a.needs.length && l.all fun x => decide (x ≤ 100000)) := rfl
      have hlen : l.length = 2 * a.needs.length := by
        rw [okP, Bool.and_eq_true] at ho2
        exact eq_of_beq ho2.1
      obtain ⟨x, y, hx, hy⟩ : ∃ x y, Su88.lies 0 (l.take a.needs.length) (l.drop a.needs.length) = some x ∧ Su88.lies 0 (l.drop a.needs.length) a.needs = some y := by
        unfold refusal at hpos
        rw [if_neg ho] at hpos
        cases hx : Su88.lies 0 (l.take a.needs.length) (l.drop a.needs.length) with
        | none => rw [hx] at hpos; exact absurd (by show (-12 : Int) < 0; decide) hpos
        | some x =>
          cases hy : Su88.lies 0 (l.drop a.needs.length) a.needs with
          | none => rw [hx, hy] at hpos; exact absurd (by show (-12 : Int) < 0; decide) hpos
          | some y => exact ⟨x, y, rfl, rfl⟩
      obtain ⟨c, hc⟩ : ∃ c, a.cost (l.take a.needs.length) (l.drop a.needs.length) = some c := by
        rw [cost_split, hx, hy]
        exact ⟨_, rfl⟩
      have lt1 : (l.take a.needs.length).length = a.needs.length := by rw [List.length_take]; omega
      have lt2 : (l.drop a.needs.length).length = a.needs.length := by rw [List.length_drop]; omega
      have hle : a.least ≤ c := no_less G.kp lt1 lt2 hc
      rw [ed, if_neg ho, hc] at k
      have S1 := hS.same t1
      obtain ⟨dx, f, kk, s1, s2, s3, s4⟩ := S1
      have e0 : (abs0 (some a)).needs = a.needs := rfl
      refine ⟨_, rfl, sh, C, dx, _, _, rfl, s1, T.cl, T.nN, sf_needs _ _ _, n, _, rfl, .inl (SqL.of s2), ?_⟩
      rw [nv_length, e0]
      have hg1 := t1 _ _ hg
      refine ⟨_, rfl, _, rfl, _, rfl, _, rfl, g, _, rfl, SqL.of hg1, fun po hpo => ?_⟩
      rw [cut_to]
      have t2 : Same H1 (upd H1 po (.lst (nv (l.take a.needs.length)))) := Same.new (.refl H1) hpo
      refine ⟨_, rfl, _, rfl, _, rfl, g, _, rfl, SqL.of (t2 _ _ hg1), fun pb hpb => ?_⟩
      rw [cut_from]
      have t3 := t2.new (o := .lst (nv (l.drop a.needs.length))) hpb
      have nb : po ≠ pb := ne_of_none upd_same hpb
      refine ⟨sh, n, po, pb, a, l.take a.needs.length, l.drop a.needs.length, c, rfl, hS.same (t1.trans t3), G, SqL.of (by rw [upd_ne nb]; exact upd_same), SqL.of upd_same, lt1, lt2, hc, fun H4 t4 => ?_⟩
      have t04 := (t1.trans t3).trans t4
      refine ⟨_, rfl, _, rfl, _, rfl, sh, n, a, rfl, hS.same t04, G, fun H5 t5 => ?_⟩
      refine ⟨_, _, rfl, rfl, by show 2 ≤ sizeLine; decide, fun q hq => ?_⟩
      have t05 := t04.trans t5
      refine Ends1.still k hS (t05.new hq) (t05.free hq) ?_
      rw [upd_same]
      show some (HO.lst [V.int (c : Int), V.int ((c : Int) - (a.least : Int))]) = some (HO.lst [V.int (c : Int), V.int ((c - a.least : Nat) : Int)])
      rw [Int.ofNat_sub hle]
/-! ### lies -/
abbrev sLies : Stmt := top 38
theorem scLies : FnScope ["shop", "given", "refusal", "days", "brought", "behind"] ["shop", "given"] (defScope sLies) := ⟨rfl, rfl, rfl, by decide +kernel, rfl, by decide +kernel, by decide +kernel⟩
theorem lies_len : ∀ (cs gs : List Nat) (s : Nat) (x : List Nat), Su88.lies s cs gs = some x → x.length ≤ cs.length
  | [], gs, s, x, h => by
    have : Su88.lies s [] gs = some [] := by cases gs <;> rfl
    rw [this] at h
    cases h
    exact Nat.le_refl _
  | c :: cs, [], s, x, h => by
    have : Su88.lies s (c :: cs) [] = some [] := rfl
    rw [this] at h
    cases h
    exact Nat.zero_le _
  | c :: cs, g :: gs, s, x, h => by
    rw [lies_step] at h
    by_cases q : s + c < g
    · rw [if_pos q] at h; cases h
    · rw [if_neg q] at h
      cases w : Su88.lies (s + c - g) cs gs with
      | none => rw [w] at h; cases h
      | some y =>
        rw [w] at h
        cases h
        have := lies_len cs gs _ y w
        show y.length + 1 ≤ cs.length + 1
        omega
theorem ok_lies {f fR fL : Addr} {fd fdR fdL : FuncData} (F : Fun K "lies" "lies" sLies f fd) (T : Txt K mg C) (CR : Cal P w K mg base 2 "plan_refusal" fR fdR ["shop", "given"] (spRef C)) (CL : Cal P w K mg base 1 "left_behind" fL fdL ["came", "went"] (spLeft K)) :
    FnOk P w K mg base CX0 6 f fd ["shop", "given"] (spCall C 7) := by
  refine F.ok scLies (fun vs H Q E h => ?_) (fun cdv Ar outer s H vs Q E hr h => ?_)
  · obtain ⟨sh, n, g, st, gs, rfl, _⟩ := h
    rfl
  · obtain ⟨sh, n, g, st, l, rfl, hS, hG, hne, hg, hl, _, k⟩ := h
    obtain ⟨a, rfl⟩ := some_of (hne (by decide))
    have G := hG a rfl
    have gd := G.days
    rw [step_said (x := .lies ((iv l).map Int.toNat)) rfl, said_some, iv_toNat] at k
    have ed : Su88.does a (.lies l) = if a.okP l = false then (a, Su88.no (-22)) else (match Su88.lies 0 (l.take a.needs.length) (l.drop a.needs.length), Su88.lies 0 (l.drop a.needs.length) a.needs with
      | some x, some y => (a, Su88.num (x.sum + y.sum) (x ++ y))
      | _, _ => (a, Su88.no (-12))) := rfl
    have nd := scLies.nd
    have hr2 : Room 2 _ := hr.mono (by decide)
    have hr1 : Room 1 _ := hr.mono (by decide)
    refine ⟨_, pss_cons (ps_set (i := 2) nd rfl (Or.inl rfl) (pe_call CR.ok hr2 rfl CR.m CR.kp CR.b .nil pass0 (pa_cons (pv 0) (pa_cons (pv 1) pa_nil))))
      (pss_cons (ps_if (pt_cmpR op_lt (pv 2) pe_int (nomark _)) (pss_one (ps_ret (pe_lst (pa_cons (pv 2) pa_nil)))) pss_nil)
      (pss_cons (ps_set (i := 3) nd rfl (Or.inl rfl) (pe_callB call_len_seq (by rfl) T.own.len PySem.boot_len (pa_cons (pe_fld (pv 0) rfl) pa_nil)))
      (pss_cons (ps_set (i := 4) nd rfl (Or.inl rfl) (pe_slice sl_list (pv 1) (po_some (pv 3)) po_none))
      (pss_cons (ps_set (i := 5) nd rfl (Or.inl rfl) (pe_op op_cat (pe_call CL.ok hr1 rfl CL.m CL.kp CL.b .nil pass0 (pa_cons (pe_slice sl_list (pv 1) po_none (po_some (pv 3))) (pa_cons (pv 4) pa_nil))) (pe_call CL.ok hr1 rfl CL.m CL.kp CL.b .nil pass0 (pa_cons (pv 4) (pa_cons (pe_fld (pv 0) rfl) pa_nil)))))
      (pss_one (ps_ret (pe_op op_cat (pe_lst (pa_cons (pe_callB (cr_sum rfl) (by rfl) T.own.sum PyProof.Rows.boot_sum (pa_cons (pv 5) pa_nil)) pa_nil)) (pv 5)))))))), ?_⟩
    refine ⟨_, rfl, _, rfl, sh, n, g, a, l, rfl, hS, G, hg, hl, fun H1 t1 => ?_⟩
    refine ⟨_, rfl, _, _, rfl, rfl, _, rfl, iteD (fun hneg => ?_) (fun hpos => ?_)⟩
    · have : (Su88.does a (.lies l)) = (a, Su88.no (refusal a l)) := by
        rw [ed]
        unfold refusal at hneg ⊢
        by_cases ho : a.okP l = false
        · rw [if_pos ho, if_pos ho]
        · rw [if_neg ho] at hneg ⊢
          rw [if_neg ho]
          cases hx : Su88.lies 0 (l.take a.needs.length) (l.drop a.needs.length) with
          | none => rfl
          | some x =>
            cases hy : Su88.lies 0 (l.drop a.needs.length) a.needs with
            | none => rfl
            | some y => rw [hx, hy] at hneg; exact absurd hneg (by show ¬ (0 : Int) < 0; decide)
      rw [this] at k
      refine ⟨_, rfl, by show 1 ≤ sizeLine; decide, fun q hq => ?_⟩
      exact Ends1.still k hS (t1.new hq) (t1.free hq) upd_same
    · have ho : ¬ a.okP l = false := fun ho => by
        unfold refusal at hpos
        rw [if_pos ho] at hpos
        omega
      have ho2 : a.okP l = true := eq_true_of_ne_false ho
      have okP : a.okP l = (l.length == 2 * a.needs.length && l.all fun x => decide (x ≤ 100000)) := rfl
      have hlen : l.length = 2 * a.needs.length := by
        rw [okP, Bool.and_eq_true] at ho2
        exact eq_of_beq ho2.1
      obtain ⟨x, y, hx, hy⟩ : ∃ x y, Su88.lies 0 (l.take a.needs.length) (l.drop a.needs.length) = some x ∧ Su88.lies 0 (l.drop a.needs.length) a.needs = some y := by
        unfold refusal at hpos
        rw [if_neg ho] at hpos
        cases hx : Su88.lies 0 (l.take a.needs.length) (l.drop a.needs.length) with
        | none => rw [hx] at hpos; exact absurd (by show (-12 : Int) < 0; decide) hpos
        | some x =>
          cases hy : Su88.lies 0 (l.drop a.needs.length) a.needs with
          | none => rw [hx, hy] at hpos; exact absurd (by show (-12 : Int) < 0; decide) hpos
          | some y => exact ⟨x, y, rfl, rfl⟩
      have lt1 : (l.take a.needs.length).length = a.needs.length := by rw [List.length_take]; omega
      have lt2 : (l.drop a.needs.length).length = a.needs.length := by rw [List.length_drop]; omega
      have lx := lies_len _ _ _ _ hx
      have ly := lies_len _ _ _ _ hy
      rw [ed, if_neg ho, hx, hy] at k
      have S1 := hS.same t1
      obtain ⟨dx, f, kk, s1, s2, s3, s4⟩ := S1
      have e0 : (abs0 (some a)).needs = a.needs := rfl
      refine ⟨_, rfl, sh, C, dx, _, _, rfl, s1, T.cl, T.nN, sf_needs _ _ _, n, _, rfl, .inl (SqL.of s2), ?_⟩
      rw [nv_length, e0]
      have hg1 := t1 _ _ hg
      refine ⟨_, rfl, _, rfl, _, rfl, g, _, rfl, SqL.of hg1, fun pb hpb => ?_⟩
      rw [cut_from]
      have t2 : Same H1 (upd H1 pb (.lst (nv (l.drop a.needs.length)))) := Same.new (.refl H1) hpb
      refine ⟨_, rfl, _, rfl, _, rfl, g, _, rfl, SqL.of (t2 _ _ hg1), fun po hpo => ?_⟩
      rw [cut_to]
      have t3 := t2.new (o := .lst (nv (l.take a.needs.length))) hpo
      have nb : pb ≠ po := ne_of_none upd_same hpo
      have hb3 : upd (upd H1 pb (.lst (nv (l.drop a.needs.length)))) po (.lst (nv (l.take a.needs.length))) pb = some (.lst (nv (l.drop a.needs.length))) := by rw [upd_ne nb]; exact upd_same
      refine ⟨_, rfl, po, pb, l.take a.needs.length, l.drop a.needs.length, rfl, SqL.of upd_same, SqL.of hb3, by omega, by omega, (fun hno => by rw [hx] at hno; cases hno), fun x' hx' H4 px t4 nx hpx => ?_⟩
      rw [hx] at hx'
      cases hx'
      have t34 := t3.trans t4
      refine ⟨_, rfl, _, rfl, sh, C, dx, _, _, rfl, t34 _ _ s1, T.cl, T.nN, sf_needs _ _ _, ?_⟩
      refine ⟨pb, n, l.drop a.needs.length, a.needs, rfl, SqL.of (t4 _ _ hb3), SqL.of (t34 _ _ s2), by omega, by omega, (fun hno => by rw [hy] at hno; cases hno), fun y' hy' H5 py t5 ny hpy => ?_⟩
      rw [hy] at hy'
      cases hy'
      refine ⟨px, py, _, _, rfl, rfl, t5 _ _ hpx, hpy, by rw [nv_length, nv_length]; exact sz (by omega), fun pz hpz => ?_⟩
      rw [← nv_append]
      have t6 : Same H5 (upd H5 pz (.lst (nv (x ++ y)))) := Same.new (.refl H5) hpz
      refine ⟨_, rfl, pz, (x ++ y).map (fun n : Nat => (n : Int)), rfl, SqL.of (by rw [upd_same, nv_ints]), by show 1 ≤ sizeLine; decide, fun p1 hp1 => ?_⟩
      have n1 : pz ≠ p1 := ne_of_none upd_same hp1
      refine ⟨_, rfl, p1, pz, _, _, rfl, rfl, upd_same, by rw [upd_ne n1]; exact upd_same, by rw [nv_length, List.length_append]; exact sz (by show 1 + _ ≤ _; omega), fun q hq => ?_⟩
      have t7 := t6.new (o := .lst [V.int ((x ++ y).map (fun n : Nat => (n : Int))).sum]) hp1
      have t17 := ((t1.trans t34).trans t5).trans t7
      refine Ends1.still k hS (t17.new hq) (t17.free hq) ?_
      rw [upd_same, isum]
      show some (HO.lst ([V.int (((x ++ y).sum : Nat) : Int)] ++ nv (x ++ y))) = some (HO.lst (V.int ((x.sum + y.sum : Nat) : Int) :: (iv (x ++ y)).map V.int))
      rw [nv_iv, List.sum_append]
      rfl
/-! ### parts, greedy -/
abbrev sParts : Stmt := top 39
theorem scParts : FnScope ["shop", "given", "keep", "above", "below"] ["shop", "given"] (defScope sParts) := ⟨rfl, rfl, rfl, by decide +kernel, rfl, by decide +kernel, by decide +kernel⟩
theorem ok_parts {f fA : Addr} {fd fdA : FuncData} (F : Fun K "parts" "parts" sParts f fd) (T : Txt K mg C) (CA : Cal P w K mg base 4 "alone_cost" fA fdA ["needs", "fee", "keep"] (spACost K)) : FnOk P w K mg base CX0 6 f fd ["shop", "given"] (spCall C 8) := by
  refine F.ok scParts (fun vs H Q E h => ?_) (fun cdv Ar outer s H vs Q E hr h => ?_)
  · obtain ⟨sh, n, g, st, gs, rfl, _⟩ := h
    rfl
  · obtain ⟨sh, n, g, st, gs, rfl, hS, hG, hne, hg, _, hl, k⟩ := h
    obtain ⟨a, rfl⟩ := some_of (hne (by decide))
    obtain rfl := len0 (hl (by decide))
    have G := hG a rfl
    have gd := G.days
    have fit := G.fits
    have gk := G.kp
    rw [step_said (x := .parts) rfl, said_some] at k
    have nd := scParts.nd
    have hr4 : Room 4 _ := hr.mono (by decide)
    refine ⟨_, pss_cons (ps_set (i := 2) nd rfl (Or.inl rfl) (pe_fld (pv 0) rfl))
      (pss_cons (ps_set (i := 3) nd rfl (Or.inl rfl) (pe_call CA.ok hr4 rfl CA.m CA.kp CA.b .nil pass0 (pa_cons (pe_fld (pv 0) rfl) (pa_cons (pe_ix ix_tup (pe_fld (pv 0) rfl) pe_int (fun _ _ => rfl)) (pa_cons (pe_ix ix_tup (pv 2) pe_int (fun _ _ => rfl)) pa_nil)))))
      (pss_cons (ps_set (i := 4) nd rfl (Or.inl rfl) (pe_call CA.ok hr4 rfl CA.m CA.kp CA.b .nil pass0 (pa_cons (pe_fld (pv 0) rfl) (pa_cons (pe_ix ix_tup (pe_fld (pv 0) rfl) pe_int (fun _ _ => rfl)) (pa_cons (pe_op op_sub (pe_ix ix_tup (pv 2) pe_int (fun _ _ => rfl)) (pe_ix ix_tup (pv 2) pe_int (fun _ _ => rfl))) pa_nil)))))
      (pss_one (ps_ret (pe_lst (pa_cons (pe_op op_add (pv 3) (pv 4)) (pa_cons (pv 3) (pa_cons (pv 4) pa_nil)))))))), ?_⟩
    have hS0 := hS
    obtain ⟨dx, f, kk, s1, s2, s3, s4⟩ := hS
    refine ⟨_, rfl, sh, C, dx, _, _, rfl, s1, T.cl, T.nK, sf_keep _ _ _, ?_⟩
    refine ⟨_, rfl, sh, C, dx, _, _, rfl, s1, T.cl, T.nN, sf_needs _ _ _, _, rfl, sh, C, dx, _, _, rfl, s1, T.cl, T.nF, sf_fee _ _ _, f, _, _, _, rfl, rfl, SqT.of s3, rfl, _, rfl, kk, _, _, _, rfl, rfl, SqT.of s4, rfl, ?_⟩
    refine ⟨n, a.up, a.above, a.needs, rfl, SqL.of s2, by omega, fit.up, fit.above, fun H1 t1 => ?_⟩
    refine ⟨_, rfl, sh, C, dx, _, _, rfl, t1 _ _ s1, T.cl, T.nN, sf_needs _ _ _, _, rfl, sh, C, dx, _, _, rfl, t1 _ _ s1, T.cl, T.nF, sf_fee _ _ _, f, _, _, _, rfl, rfl, SqT.of (t1 _ _ s3), rfl, _, rfl, kk, _, _, _, rfl, rfl, SqT.of (t1 _ _ s4), rfl, _, rfl, kk, _, _, _, rfl, rfl, SqT.of (t1 _ _ s4), rfl, _, _, rfl, rfl, ?_⟩
    have ek : ((a.below : Int) - (a.above : Int)) = ((a.below - a.above : Nat) : Int) := (Int.ofNat_sub gk).symm
    refine ⟨n, a.down, a.below - a.above, a.needs, by rw [← ek]; rfl, SqL.of (t1 _ _ s2), by omega, fit.down, by have := fit.below; omega, fun H2 t2 => ?_⟩
    refine ⟨_, rfl, _, rfl, _, _, rfl, rfl, _, rfl, _, rfl, by show 3 ≤ sizeLine; decide, fun q hq => ?_⟩
    have t12 := t1.trans t2
    exact Ends1.still k hS0 (t12.new hq) (t12.free hq) (by rw [upd_same]; rfl)
abbrev sGr : Stmt := top 40
theorem scGr : FnScope ["shop", "given", "price"] ["shop", "given"] (defScope sGr) := ⟨rfl, rfl, rfl, by decide +kernel, rfl, by decide +kernel, by decide +kernel⟩
theorem ok_gr {f fG fT : Addr} {fd fdG fdT : FuncData} (F : Fun K "greedy" "greedy" sGr f fd) (T : Txt K mg C) (CG : Cal P w K mg base 5 "greedy_cost" fG fdG ["needs", "fees", "keeps"] (spGreedy K)) (CT : Cal P w K mg base 6 "least_now" fT fdT ["shop"] (spNow C)) : FnOk P w K mg base CX0 7 f fd ["shop", "given"] (spCall C 9) := by
  refine F.ok scGr (fun vs H Q E h => ?_) (fun cdv Ar outer s H vs Q E hr h => ?_)
  · obtain ⟨sh, n, g, st, gs, rfl, _⟩ := h
    rfl
  · obtain ⟨sh, n, g, st, gs, rfl, hS, hG, hne, hg, _, hl, k⟩ := h
    obtain ⟨a, rfl⟩ := some_of (hne (by decide))
    obtain rfl := len0 (hl (by decide))
    have G := hG a rfl
    rw [step_said (x := .greedy) rfl, said_some] at k
    have nd := scGr.nd
    have hr5 : Room 5 _ := hr.mono (by decide)
    refine ⟨_, pss_cons (ps_set (i := 2) nd rfl (Or.inl rfl) (pe_call CG.ok hr5 rfl CG.m CG.kp CG.b .nil pass0 (pa_cons (pe_fld (pv 0) rfl) (pa_cons (pe_fld (pv 0) rfl) (pa_cons (pe_fld (pv 0) rfl) pa_nil)))))
      (pss_one (ps_ret (pe_lst (pa_cons (pv 2) (pa_cons (pe_op op_sub (pv 2) (pe_call CT.ok hr rfl CT.m CT.kp CT.b .nil pass0 (pa_cons (pv 0) pa_nil))) pa_nil))))), ?_⟩
    have hS0 := hS
    obtain ⟨dx, f, kk, s1, s2, s3, s4⟩ := hS
    refine ⟨_, rfl, sh, C, dx, _, _, rfl, s1, T.cl, T.nN, sf_needs _ _ _, _, rfl, sh, C, dx, _, _, rfl, s1, T.cl, T.nF, sf_fee _ _ _, _, rfl, sh, C, dx, _, _, rfl, s1, T.cl, T.nK, sf_keep _ _ _, ?_⟩
    refine ⟨a, ⟨n, f, kk, rfl, SqL.of s2, SqT.of s3, SqT.of s4, G.fits⟩, fun H1 t1 => ?_⟩
    refine ⟨_, rfl, _, rfl, _, rfl, sh, n, a, rfl, hS0.same t1, G, fun H5 t5 => ?_⟩
    refine ⟨_, _, rfl, rfl, by show 2 ≤ sizeLine; decide, fun q hq => ?_⟩
    have t05 := t1.trans t5
    refine Ends1.still k hS0 (t05.new hq) (t05.free hq) ?_
    rw [upd_same]
    have hle := greedy_no_less G.kp
    show some (HO.lst [V.int (a.greedy : Int), V.int ((a.greedy : Int) - (a.least : Int))]) = some (HO.lst [V.int (a.greedy : Int), V.int ((a.greedy - a.least : Nat) : Int)])
    rw [Int.ofNat_sub hle]
end
end TS
end
section
set_option Elab.async false
set_option Elab.async false
set_option linter.all false
set_option maxRecDepth 100000
set_option maxHeartbeats 2000000
namespace TS
open PySem PySem.Spec PyProof.Rows L2
section
variable {P : Program} {w : World} {K : PySem.W.Frag} {mg : Str → Option Value} {base : Heap} {C : Addr}
/-! ### alone -/
abbrev sAln : Stmt := top 41
theorem scAln : FnScope ["shop", "given"] ["shop", "given"] (defScope sAln) := ⟨rfl, rfl, rfl, by decide +kernel, rfl, by decide +kernel, by decide +kernel⟩
theorem ok_aln {f fA : Addr} {fd fdA : FuncData} (F : Fun K "alone" "alone" sAln f fd) (T : Txt K mg C) (CA : Cal P w K mg base 4 "alone_cost" fA fdA ["needs", "fee", "keep"] (spACost K)) : FnOk P w K mg base CX0 5 f fd ["shop", "given"] (spCall C 10) := by
  refine F.ok scAln (fun vs H Q E h => ?_) (fun cdv Ar outer s H vs Q E hr h => ?_)
  · obtain ⟨sh, n, g, st, gs, rfl, _⟩ := h
    rfl
  · obtain ⟨sh, n, g, st, gs, rfl, hS, hG, hne, hg, _, hl, k⟩ := h
    obtain ⟨a, rfl⟩ := some_of (hne (by decide))
    obtain ⟨u, d, rfl⟩ := len2 (hl (by decide))
    have G := hG a rfl
    have gd := G.days
    rw [step_said (x := .alone u d) rfl, said_some] at k
    have ed : Su88.does a (.alone u d) = if 10000 < u ∨ 100 < d then (a, Su88.no (-22)) else (a, Su88.num (Su88.alone u d a.needs) []) := rfl
    rw [ed] at k
    refine ⟨_, pss_cons (ps_if (PW.pt (pw_or (pt_cmpR op_gt (pe_ix ix_list (pv 1) pe_int (fun _ _ => rfl)) (pe_cst T.cFee rfl) (nomark _)) (pw_or1 (pt_cmpR op_gt (pe_ix ix_list (pv 1) pe_int (fun _ _ => rfl)) (pe_cst T.cKeep rfl) (nomark _))))) (pss_one (ps_ret (pe_lst (pa_cons (pe_cst T.cOut rfl) pa_nil)))) pss_nil)
      (pss_one (ps_ret (pe_lst (pa_cons (pe_call CA.ok hr rfl CA.m CA.kp CA.b .nil pass0 (pa_cons (pe_fld (pv 0) rfl) (pa_cons (pe_ix ix_list (pv 1) pe_int (fun _ _ => rfl)) (pa_cons (pe_ix ix_list (pv 1) pe_int (fun _ _ => rfl)) pa_nil)))) pa_nil)))), ?_⟩
    have ref : ∀ {D : Ends} {σ : L2.St}, D.rt = Q → (10000 < u ∨ 100 < d) → tRet (tLst (tCons (tC (.int (-22))) tNil)) D σ H := fun {D σ} eD hn => by
      rw [if_pos hn] at k
      subst eD
      exact one_ret k hS (.refl H) con_one
    refine ⟨_, rfl, g, _, _, _, rfl, rfl, SqL.of hg, rfl, _, _, rfl, rfl, _, rfl, iteD (fun h1 => iteT (ref rfl (.inl (by omega)))) fun h1 => ?_⟩
    refine ⟨_, rfl, g, _, _, _, rfl, rfl, SqL.of hg, rfl, _, _, rfl, rfl, _, rfl, iteD (fun h2 => ref rfl (.inr (by omega))) fun h2 => ?_⟩
    rw [if_neg (by omega)] at k
    have hS0 := hS
    obtain ⟨dx, f, kk, s1, s2, s3, s4⟩ := hS
    refine ⟨_, rfl, sh, C, dx, _, _, rfl, s1, T.cl, T.nN, sf_needs _ _ _, _, rfl, g, _, _, _, rfl, rfl, SqL.of hg, rfl, _, rfl, g, _, _, _, rfl, rfl, SqL.of hg, rfl, ?_⟩
    refine ⟨n, u, d, a.needs, rfl, SqL.of s2, by omega, by omega, by omega, fun H1 t1 => ⟨by show 1 ≤ sizeLine; decide, fun q hq => ?_⟩⟩
    exact Ends1.still k hS0 (t1.new hq) (t1.free hq) (by rw [upd_same]; rfl)
/-! ### would -/
abbrev sWld : Stmt := top 42
theorem scWld : FnScope ["shop", "given", "day", "refusal", "needs"] ["shop", "given"] (defScope sWld) := ⟨rfl, rfl, rfl, by decide +kernel, rfl, by decide +kernel, by decide +kernel⟩
theorem ok_wld {f fR fF fN : Addr} {fd fdR fdF fdN : FuncData} (F : Fun K "would" "would" sWld f fd) (T : Txt K mg C) (CR : Cal P w K mg base 1 "need_refusal" fR fdR ["shop", "day", "pieces"] (spNRef C)) (CF : Cal P w K mg base 5 "least_for" fF fdF ["shop", "needs"] (spFor K C)) (CN : Cal P w K mg base 6 "least_now" fN fdN ["shop"] (spNow C)) :
    FnOk P w K mg base CX0 7 f fd ["shop", "given"] (spCall C 11) := by
  refine F.ok scWld (fun vs H Q E h => ?_) (fun cdv Ar outer s H vs Q E hr h => ?_)
  · obtain ⟨sh, n, g, st, gs, rfl, _⟩ := h
    rfl
  · obtain ⟨sh, n, g, st, gs, rfl, hS, hG, hne, hg, _, hl, k⟩ := h
    obtain ⟨a, rfl⟩ := some_of (hne (by decide))
    obtain ⟨t, m, rfl⟩ := len2 (hl (by decide))
    have G := hG a rfl
    have gd := G.days
    rw [step_said (x := .would t m) rfl, said_some] at k
    have ed : Su88.does a (.would t m) = if a.needs.length ≤ t then (a, Su88.no (-2)) else if 1000 < m then (a, Su88.no (-22)) else (a, Su88.num ({ a with needs := a.needs.set t m } : Su88.Abs).least [a.least]) := rfl
    rw [ed] at k
    have nd := scWld.nd
    have hr1 : Room 1 _ := hr.mono (by decide)
    have hr5 : Room 5 _ := hr.mono (by decide)
    refine ⟨_, pss_cons (ps_set (i := 2) nd rfl (Or.inl rfl) (pe_ix ix_list (pv 1) pe_int (fun _ _ => rfl)))
      (pss_cons (ps_set (i := 3) nd rfl (Or.inl rfl) (pe_call CR.ok hr1 rfl CR.m CR.kp CR.b .nil pass0 (pa_cons (pv 0) (pa_cons (pv 2) (pa_cons (pe_ix ix_list (pv 1) pe_int (fun _ _ => rfl)) pa_nil)))))
      (pss_cons (ps_if (pt_cmpR op_lt (pv 3) pe_int (nomark _)) (pss_one (ps_ret (pe_lst (pa_cons (pv 3) pa_nil)))) pss_nil)
      (pss_cons (ps_set (i := 4) nd rfl (Or.inl rfl) (pe_callTy call_list_of (by rfl) T.own.list boot_list (pa_cons (pe_fld (pv 0) rfl) pa_nil)))
      (pss_cons (ps_asg (pe_ix ix_list (pv 1) pe_int (fun _ _ => rfl)) (pg_sub (pv 4) (pv 2) set_list))
      (pss_one (ps_ret (pe_lst (pa_cons (pe_call CF.ok hr5 rfl CF.m CF.kp CF.b .nil pass0 (pa_cons (pv 0) (pa_cons (pv 4) pa_nil))) (pa_cons (pe_call CN.ok hr rfl CN.m CN.kp CN.b .nil pass0 (pa_cons (pv 0) pa_nil)) pa_nil))))))))), ?_⟩
    have hS0 := hS
    obtain ⟨dx, f, kk, s1, s2, s3, s4⟩ := hS
    refine ⟨_, rfl, g, _, _, _, rfl, rfl, SqL.of hg, rfl, ?_⟩
    refine ⟨_, rfl, _, rfl, _, rfl, g, _, _, _, rfl, rfl, SqL.of hg, rfl, sh, n, a, t, m, rfl, hS0, ?_⟩
    refine ⟨_, rfl, _, _, rfl, rfl, _, rfl, iteD (fun hneg => ?_) (fun hpos => ?_)⟩
    · rw [nref_neg hneg] at k
      refine ⟨_, rfl, by show 1 ≤ sizeLine; decide, fun q hq => ?_⟩
      exact Ends1.still k hS0 (Same.new (.refl H) hq) hq upd_same
    · obtain ⟨h1, h2⟩ := nref_pos hpos
      rw [if_neg (by omega), if_neg (by omega)] at k
      refine ⟨_, rfl, sh, C, dx, _, _, rfl, s1, T.cl, T.nN, sf_needs _ _ _, n, _, rfl, .inl (SqL.of s2), fun c hc => ?_⟩
      have t1 : Same H (upd H c (.lst (nv a.needs))) := Same.new (.refl H) hc
      refine ⟨_, rfl, g, _, _, _, rfl, rfl, SqL.of (t1 _ _ hg), rfl, _, rfl, _, rfl, c, _, _, t, rfl, rfl, upd_same, ?_, ?_⟩
      · rw [nv_length]
        exact ixN_nat h1
      · have t2 : Same H (upd (upd H c (.lst (nv a.needs))) c (.lst ((nv a.needs).set t (V.int (m : Int))))) := t1.chg hc
        have hc2 : upd (upd H c (.lst (nv a.needs))) c (.lst ((nv a.needs).set t (V.int (m : Int)))) c = some (.lst (nv (a.needs.set t m))) := by rw [upd_same, nv_set]
        refine ⟨_, rfl, _, rfl, sh, n, c, a, a.needs.set t m, rfl, hS0.same t2, G, SqL.of hc2, by rw [List.length_set]; exact gd, fun H3 t3 => ?_⟩
        have t03 := t2.trans t3
        refine ⟨_, rfl, sh, n, a, rfl, hS0.same t03, G, fun H4 t4 => ⟨by show 2 ≤ sizeLine; decide, fun q hq => ?_⟩⟩
        have t04 := t03.trans t4
        exact Ends1.still k hS0 (t04.new hq) (t04.free hq) (by rw [upd_same]; rfl)
/-! ### dear -/
abbrev sDear : Stmt := top 43
theorem scDear : FnScope ["shop", "given", "price"] ["shop", "given"] (defScope sDear) := ⟨rfl, rfl, rfl, by decide +kernel, rfl, by decide +kernel, by decide +kernel⟩
theorem ok_dear {f fF fL fN : Addr} {fd fdF fdL fdN : FuncData} (F : Fun K "dear" "dear" sDear f fd) (T : Txt K mg C) (CF : Cal P w K mg base 1 "fees_fit" fF fdF ["above", "bringing"] spFit) (CL : Cal P w K mg base 4 "least_plan" fL fdL ["needs", "fees", "keeps"] (spLeast K)) (CN : Cal P w K mg base 6 "least_now" fN fdN ["shop"] (spNow C)) :
    FnOk P w K mg base CX0 7 f fd ["shop", "given"] (spCall C 12) := by
  refine F.ok scDear (fun vs H Q E h => ?_) (fun cdv Ar outer s H vs Q E hr h => ?_)
  · obtain ⟨sh, n, g, st, gs, rfl, _⟩ := h
    rfl
  · obtain ⟨sh, n, g, st, gs, rfl, hS, hG, hne, hg, _, hl, k⟩ := h
    obtain ⟨a, rfl⟩ := some_of (hne (by decide))
    obtain ⟨u, d, rfl⟩ := len2 (hl (by decide))
    have G := hG a rfl
    have gd := G.days
    rw [step_said (x := .dear u d) rfl, said_some] at k
    have ed : Su88.does a (.dear u d) = if Su88.okF u d = false then (a, Su88.no (-22)) else (a, Su88.num ({ a with up := u, down := d } : Su88.Abs).least [a.least]) := rfl
    rw [ed] at k
    have nd := scDear.nd
    have hr1 : Room 1 _ := hr.mono (by decide)
    have hr4 : Room 4 _ := hr.mono (by decide)
    refine ⟨_, pss_cons (ps_if (pt_not (pt_val (pe_call CF.ok hr1 rfl CF.m CF.kp CF.b .nil pass0 (pa_cons (pe_ix ix_list (pv 1) pe_int (fun _ _ => rfl)) (pa_cons (pe_ix ix_list (pv 1) pe_int (fun _ _ => rfl)) pa_nil))))) (pss_one (ps_ret (pe_lst (pa_cons (pe_cst T.cOut rfl) pa_nil)))) pss_nil)
      (pss_cons (ps_set (i := 2) nd rfl (Or.inl rfl) (pe_ix ix_tup (pe_call CL.ok hr4 rfl CL.m CL.kp CL.b .nil pass0 (pa_cons (pe_fld (pv 0) rfl) (pa_cons (pe_tup (pa_cons (pe_ix ix_list (pv 1) pe_int (fun _ _ => rfl)) (pa_cons (pe_ix ix_list (pv 1) pe_int (fun _ _ => rfl)) pa_nil))) (pa_cons (pe_fld (pv 0) rfl) pa_nil)))) pe_int (fun _ _ => rfl)))
      (pss_one (ps_ret (pe_lst (pa_cons (pv 2) (pa_cons (pe_call CN.ok hr rfl CN.m CN.kp CN.b .nil pass0 (pa_cons (pv 0) pa_nil)) pa_nil)))))), ?_⟩
    have hS0 := hS
    obtain ⟨dx, f, kk, s1, s2, s3, s4⟩ := hS
    refine ⟨_, rfl, g, _, _, _, rfl, rfl, SqL.of hg, rfl, _, rfl, g, _, _, _, rfl, rfl, SqL.of hg, rfl, u, d, rfl, _, rfl, iteB (fun h1 => ?_) fun h1 => ?_⟩
    · have h1 : Su88.okF u d = false := by simpa using h1
      rw [if_pos h1] at k
      exact one_ret k hS0 (.refl H) con_one
    · have h1 : Su88.okF u d = true := by simpa using h1
      rw [if_neg (by rw [h1]; decide)] at k
      have hud : u ≤ 10000 ∧ d ≤ 10000 := by
        unfold Su88.okF at h1
        rw [Bool.and_eq_true] at h1
        exact ⟨of_decide_eq_true h1.1, of_decide_eq_true h1.2⟩
      refine ⟨_, rfl, sh, C, dx, _, _, rfl, s1, T.cl, T.nN, sf_needs _ _ _, _, rfl, g, _, _, _, rfl, rfl, SqL.of hg, rfl, _, rfl, g, _, _, _, rfl, rfl, SqL.of hg, rfl, by show 2 ≤ sizeLine; decide, fun p hp => ?_⟩
      have t1 : Same H (upd H p (.tup [V.int (u : Int), V.int (d : Int)])) := Same.new (.refl H) hp
      refine ⟨_, rfl, sh, C, dx, _, _, rfl, t1 _ _ s1, T.cl, T.nK, sf_keep _ _ _, ?_⟩
      have fit := G.fits
      refine ⟨{ a with up := u, down := d }, ⟨n, p, kk, rfl, SqL.of (t1 _ _ s2), SqT.of upd_same, SqT.of (t1 _ _ s4), ⟨gd, by show u < _; omega, by show d < _; omega, fit.above, fit.below⟩⟩, fun H2 v t2 hv => ?_⟩
      obtain ⟨z, hz⟩ := best_some ({ a with up := u, down := d } : Su88.Abs)
      rw [hz] at hv
      obtain ⟨pz, o, b, rfl, q1, q2, q3⟩ := hv
      refine ⟨pz, _, _, _, rfl, rfl, SqT.of q1, rfl, ?_⟩
      have t02 := t1.trans t2
      refine ⟨_, rfl, _, rfl, sh, n, a, rfl, hS0.same t02, G, fun H3 t3 => ⟨by show 2 ≤ sizeLine; decide, fun q hq => ?_⟩⟩
      have t03 := t02.trans t3
      refine Ends1.still k hS0 (t03.new hq) (t03.free hq) ?_
      rw [upd_same]
      show some (HO.lst [V.int (z.1 : Int), V.int (a.least : Int)]) = some (HO.lst [V.int ((({ a with up := u, down := d } : Su88.Abs).least : Nat) : Int), V.int (a.least : Int)])
      rw [least_of hz]
/-! ### all_at_first, both, daily, once -/
abbrev sFst : Stmt := top 44
def spFst (K : PySem.W.Frag) : Sp := fun vs H Q _ => ∃ (b : Addr) (nl : List Nat), vs = [.ref b] ∧ SqL K H b (nv nl) ∧ 0 < nl.length ∧ nl.length ≤ 100 ∧ ∀ (H' : Hp) (p : Addr), Same H H' → H' p = some (.lst (nv (Su88.covers nl [0]))) → Q (.ref p) H'
theorem scFst : FnScope ["needs"] ["needs"] (defScope sFst) := ⟨rfl, rfl, rfl, by decide +kernel, rfl, by decide +kernel, by decide +kernel⟩
theorem ok_fst {f fA : Addr} {fd fdA : FuncData} (F : Fun K "all_at_first" "all_at_first" sFst f fd) (T : Txt K mg C) (CA : Cal P w K mg base 1 "amounts" fA fdA ["days", "needs"] (spAmts K)) : FnOk P w K mg base CX0 2 f fd ["needs"] (spFst K) := by
  refine F.ok scFst (fun vs H Q E h => ?_) (fun cdv Ar outer s H vs Q E hr h => ?_)
  · obtain ⟨b, nl, rfl, _⟩ := h
    rfl
  · obtain ⟨b, nl, rfl, hb, h0, hz, k⟩ := h
    refine ⟨_, pss_one (ps_ret (pe_call CA.ok hr rfl CA.m CA.kp CA.b .nil pass0 (pa_cons (pe_lst (pa_cons pe_int pa_nil)) (pa_cons (pv 0) pa_nil)))), ?_⟩
    refine ⟨by show 1 ≤ sizeLine; decide, fun q hq => ?_⟩
    have t1 : Same H (upd H q (.lst [V.int 0])) := Same.new (.refl H) hq
    refine ⟨_, rfl, q, b, [0], nl, rfl, SqL.of upd_same, t1.seq hb, List.pairwise_singleton _ _, (fun x hx => ?_), hz, by show 1 ≤ 100; decide, fun H' p t2 _ hp => k H' p (t1.trans t2) hp⟩
    rw [List.mem_singleton.mp hx]
    exact h0
abbrev sBoth : Stmt := top 45
theorem scBoth : FnScope ["shop", "given"] ["shop", "given"] (defScope sBoth) := ⟨rfl, rfl, rfl, by decide +kernel, rfl, by decide +kernel, by decide +kernel⟩
theorem ok_both {f fP : Addr} {fd fdP : FuncData} (F : Fun K "both" "both" sBoth f fd) (T : Txt K mg C) (CP : Cal P w K mg base 3 "cost_of" fP fdP ["shop", "ordered", "brought"] (spCof K C)) : FnOk P w K mg base CX0 4 f fd ["shop", "given"] (spCall C 13) := by
  refine F.ok scBoth (fun vs H Q E h => ?_) (fun cdv Ar outer s H vs Q E hr h => ?_)
  · obtain ⟨sh, n, g, st, gs, rfl, _⟩ := h
    rfl
  · obtain ⟨sh, n, g, st, gs, rfl, hS, hG, hne, hg, _, hl, k⟩ := h
    obtain ⟨a, rfl⟩ := some_of (hne (by decide))
    obtain rfl := len0 (hl (by decide))
    have G := hG a rfl
    rw [step_said (x := .both) rfl, said_some] at k
    have ed : Su88.does a .both = (match a.cost a.needs a.needs with
      | none => (a, Su88.no (-12))
      | some c => (a, Su88.num c [])) := rfl
    rw [ed, both_cost] at k
    refine ⟨_, pss_one (ps_ret (pe_lst (pa_cons (pe_call CP.ok hr rfl CP.m CP.kp CP.b .nil pass0 (pa_cons (pv 0) (pa_cons (pe_fld (pv 0) rfl) (pa_cons (pe_fld (pv 0) rfl) pa_nil)))) pa_nil))), ?_⟩
    have hS0 := hS
    obtain ⟨dx, f, kk, s1, s2, s3, s4⟩ := hS
    refine ⟨_, rfl, _, rfl, sh, C, dx, _, _, rfl, s1, T.cl, T.nN, sf_needs _ _ _, _, rfl, sh, C, dx, _, _, rfl, s1, T.cl, T.nN, sf_needs _ _ _, ?_⟩
    refine ⟨sh, n, n, n, a, a.needs, a.needs, _, rfl, hS0, G, SqL.of s2, SqL.of s2, rfl, rfl, both_cost a, fun H1 t1 => ⟨by show 1 ≤ sizeLine; decide, fun q hq => ?_⟩⟩
    exact Ends1.still k hS0 (t1.new hq) (t1.free hq) (by rw [upd_same]; rfl)
abbrev sDaily : Stmt := top 46
theorem scDaily : FnScope ["shop", "given"] ["shop", "given"] (defScope sDaily) := ⟨rfl, rfl, rfl, by decide +kernel, rfl, by decide +kernel, by decide +kernel⟩
theorem ok_daily {f fP fA : Addr} {fd fdP fdA : FuncData} (F : Fun K "daily" "daily" sDaily f fd) (T : Txt K mg C) (CP : Cal P w K mg base 3 "cost_of" fP fdP ["shop", "ordered", "brought"] (spCof K C)) (CA : Cal P w K mg base 2 "all_at_first" fA fdA ["needs"] (spFst K)) : FnOk P w K mg base CX0 4 f fd ["shop", "given"] (spCall C 14) := by
  refine F.ok scDaily (fun vs H Q E h => ?_) (fun cdv Ar outer s H vs Q E hr h => ?_)
  · obtain ⟨sh, n, g, st, gs, rfl, _⟩ := h
    rfl
  · obtain ⟨sh, n, g, st, gs, rfl, hS, hG, hne, hg, _, hl, k⟩ := h
    obtain ⟨a, rfl⟩ := some_of (hne (by decide))
    obtain rfl := len0 (hl (by decide))
    have G := hG a rfl
    have gd := G.days
    have hp := G.pos
    rw [step_said (x := .daily) rfl, said_some] at k
    have ed : Su88.does a .daily = (match a.cost (Su88.covers a.needs [0]) a.needs with
      | none => (a, Su88.no (-12))
      | some c => (a, Su88.num c [])) := rfl
    rw [ed, daily_cost hp] at k
    have hr2 : Room 2 _ := hr.mono (by decide)
    refine ⟨_, pss_one (ps_ret (pe_lst (pa_cons (pe_call CP.ok hr rfl CP.m CP.kp CP.b .nil pass0 (pa_cons (pv 0) (pa_cons (pe_call CA.ok hr2 rfl CA.m CA.kp CA.b .nil pass0 (pa_cons (pe_fld (pv 0) rfl) pa_nil)) (pa_cons (pe_fld (pv 0) rfl) pa_nil)))) pa_nil))), ?_⟩
    have hS0 := hS
    obtain ⟨dx, f, kk, s1, s2, s3, s4⟩ := hS
    refine ⟨_, rfl, _, rfl, sh, C, dx, _, _, rfl, s1, T.cl, T.nN, sf_needs _ _ _, n, a.needs, rfl, SqL.of s2, hp, by omega, fun H1 p t1 hv => ?_⟩
    refine ⟨_, rfl, sh, C, dx, _, _, rfl, t1 _ _ s1, T.cl, T.nN, sf_needs _ _ _, ?_⟩
    refine ⟨sh, n, p, n, a, Su88.covers a.needs [0], a.needs, _, rfl, hS0.same t1, G, SqL.of hv, SqL.of (t1 _ _ s2), covers_length _ _, rfl, daily_cost hp, fun H2 t2 => ⟨by show 1 ≤ sizeLine; decide, fun q hq => ?_⟩⟩
    have t12 := t1.trans t2
    exact Ends1.still k hS0 (t12.new hq) (t12.free hq) (by rw [upd_same]; rfl)
abbrev sOnce : Stmt := top 47
theorem scOnce : FnScope ["shop", "given", "first"] ["shop", "given"] (defScope sOnce) := ⟨rfl, rfl, rfl, by decide +kernel, rfl, by decide +kernel, by decide +kernel⟩
theorem ok_once {f fP fA : Addr} {fd fdP fdA : FuncData} (F : Fun K "once" "once" sOnce f fd) (T : Txt K mg C) (CP : Cal P w K mg base 3 "cost_of" fP fdP ["shop", "ordered", "brought"] (spCof K C)) (CA : Cal P w K mg base 2 "all_at_first" fA fdA ["needs"] (spFst K)) : FnOk P w K mg base CX0 4 f fd ["shop", "given"] (spCall C 15) := by
  refine F.ok scOnce (fun vs H Q E h => ?_) (fun cdv Ar outer s H vs Q E hr h => ?_)
  · obtain ⟨sh, n, g, st, gs, rfl, _⟩ := h
    rfl
  · obtain ⟨sh, n, g, st, gs, rfl, hS, hG, hne, hg, _, hl, k⟩ := h
    obtain ⟨a, rfl⟩ := some_of (hne (by decide))
    obtain rfl := len0 (hl (by decide))
    have G := hG a rfl
    have gd := G.days
    have hp := G.pos
    rw [step_said (x := .once) rfl, said_some] at k
    have ed : Su88.does a .once = (match a.cost (Su88.covers a.needs [0]) (Su88.covers a.needs [0]) with
      | none => (a, Su88.no (-12))
      | some c => (a, Su88.num c [])) := rfl
    rw [ed, once_cost hp] at k
    have nd := scOnce.nd
    have hr2 : Room 2 _ := hr.mono (by decide)
    refine ⟨_, pss_cons (ps_set (i := 2) nd rfl (Or.inl rfl) (pe_call CA.ok hr2 rfl CA.m CA.kp CA.b .nil pass0 (pa_cons (pe_fld (pv 0) rfl) pa_nil)))
      (pss_one (ps_ret (pe_lst (pa_cons (pe_call CP.ok hr rfl CP.m CP.kp CP.b .nil pass0 (pa_cons (pv 0) (pa_cons (pv 2) (pa_cons (pv 2) pa_nil)))) pa_nil)))), ?_⟩
    have hS0 := hS
    obtain ⟨dx, f, kk, s1, s2, s3, s4⟩ := hS
    refine ⟨_, rfl, sh, C, dx, _, _, rfl, s1, T.cl, T.nN, sf_needs _ _ _, n, a.needs, rfl, SqL.of s2, hp, by omega, fun H1 p t1 hv => ?_⟩
    refine ⟨_, rfl, _, rfl, _, rfl, ?_⟩
    refine ⟨sh, n, p, p, a, Su88.covers a.needs [0], Su88.covers a.needs [0], _, rfl, hS0.same t1, G, SqL.of hv, SqL.of hv, covers_length _ _, covers_length _ _, once_cost hp, fun H2 t2 => ⟨by show 1 ≤ sizeLine; decide, fun q hq => ?_⟩⟩
    have t12 := t1.trans t2
    exact Ends1.still k hS0 (t12.new hq) (t12.free hq) (by rw [upd_same]; rfl)
/-! ### sums, state -/
abbrev sSums : Stmt := top 49
theorem scSums : FnScope ["shop", "given"] ["shop", "given"] (defScope sSums) := ⟨rfl, rfl, rfl, by decide +kernel, rfl, by decide +kernel, by decide +kernel⟩
theorem ok_sums {f : Addr} {fd : FuncData} (F : Fun K "sums" "sums" sSums f fd) (T : Txt K mg C) : FnOk P w K mg base CX0 1 f fd ["shop", "given"] (spCall C 17) := by
  refine F.ok scSums (fun vs H Q E h => ?_) (fun cdv Ar outer s H vs Q E hr h => ?_)
  · obtain ⟨sh, n, g, st, gs, rfl, _⟩ := h
    rfl
  · obtain ⟨sh, n, g, st, gs, rfl, hS, hG, hne, hg, _, hl, k⟩ := h
    obtain ⟨a, rfl⟩ := some_of (hne (by decide))
    obtain rfl := len0 (hl (by decide))
    rw [step_said (x := .sums) rfl, said_some] at k
    refine ⟨_, pss_one (ps_ret (pe_op op_cat (pe_op op_cat (pe_lst (pa_cons pe_int (pa_cons (pe_callB (cr_sum rfl) (by rfl) T.own.sum PyProof.Rows.boot_sum (pa_cons (pe_fld (pv 0) rfl) pa_nil)) pa_nil))) (pe_callTy call_list_of (by rfl) T.own.list boot_list (pa_cons (pe_fld (pv 0) rfl) pa_nil))) (pe_callTy call_list_of (by rfl) T.own.list boot_list (pa_cons (pe_fld (pv 0) rfl) pa_nil)))), ?_⟩
    have hS0 := hS
    obtain ⟨dx, f, kk, s1, s2, s3, s4⟩ := hS
    refine ⟨_, rfl, sh, C, dx, _, _, rfl, s1, T.cl, T.nN, sf_needs _ _ _, n, a.needs.map (fun n : Nat => (n : Int)), rfl, SqL.of (s2.trans (congrArg (fun z => some (HO.lst z)) (nv_ints a.needs))), by show 2 ≤ sizeLine; decide, fun q0 hq0 => ?_⟩
    rw [isum]
    have t0 : Same H (upd H q0 (.lst [V.int 0, V.int (a.needs.sum : Int)])) := Same.new (.refl H) hq0
    refine ⟨_, rfl, sh, C, dx, _, _, rfl, t0 _ _ s1, T.cl, T.nF, sf_fee _ _ _, f, _, rfl, .inr (SqT.of (t0 _ _ s3)), fun q1 hq1 => ?_⟩
    have t1 := t0.new (o := .lst [V.int (a.up : Int), V.int (a.down : Int)]) hq1
    have n01 : q0 ≠ q1 := ne_of_none upd_same hq1
    refine ⟨q0, q1, _, _, rfl, rfl, by rw [upd_ne n01]; exact upd_same, upd_same, by show 2 + 2 ≤ sizeLine; decide, fun q2 hq2 => ?_⟩
    have t2 := t1.new (o := .lst ([V.int 0, V.int (a.needs.sum : Int)] ++ [V.int (a.up : Int), V.int (a.down : Int)])) hq2
    refine ⟨_, rfl, sh, C, dx, _, _, rfl, t2 _ _ s1, T.cl, T.nK, sf_keep _ _ _, kk, _, rfl, .inr (SqT.of (t2 _ _ s4)), fun q3 hq3 => ?_⟩
    have t3 := t2.new (o := .lst [V.int (a.above : Int), V.int (a.below : Int)]) hq3
    have n23 : q2 ≠ q3 := ne_of_none upd_same hq3
    refine ⟨q2, q3, _, _, rfl, rfl, by rw [upd_ne n23]; exact upd_same, upd_same, by show 4 + 2 ≤ sizeLine; decide, fun q hq => ?_⟩
    exact Ends1.still k hS0 (t3.new hq) (t3.free hq) (by rw [upd_same]; rfl)
abbrev sState : Stmt := top 50
theorem scState : FnScope ["shop", "given"] ["shop", "given"] (defScope sState) := ⟨rfl, rfl, rfl, by decide +kernel, rfl, by decide +kernel, by decide +kernel⟩
theorem ok_state {f : Addr} {fd : FuncData} (F : Fun K "state" "state" sState f fd) (T : Txt K mg C) : FnOk P w K mg base CX0 1 f fd ["shop", "given"] (spCall C 18) := by
  refine F.ok scState (fun vs H Q E h => ?_) (fun cdv Ar outer s H vs Q E hr h => ?_)
  · obtain ⟨sh, n, g, st, gs, rfl, _⟩ := h
    rfl
  · obtain ⟨sh, n, g, st, gs, rfl, hS, hG, hne, hg, _, hl, k⟩ := h
    obtain ⟨a, rfl⟩ := some_of (hne (by decide))
    obtain rfl := len0 (hl (by decide))
    have gd := (hG a rfl).days
    rw [step_said (x := .state) rfl, said_some] at k
    refine ⟨_, pss_one (ps_ret (pe_op op_cat (pe_lst (pa_cons (pe_callB call_len_seq (by rfl) T.own.len PySem.boot_len (pa_cons (pe_fld (pv 0) rfl) pa_nil)) pa_nil)) (pe_fld (pv 0) rfl))), ?_⟩
    have hS0 := hS
    obtain ⟨dx, f, kk, s1, s2, s3, s4⟩ := hS
    have e0 : (abs0 (some a)).needs = a.needs := rfl
    refine ⟨_, rfl, sh, C, dx, _, _, rfl, s1, T.cl, T.nN, sf_needs _ _ _, n, _, rfl, .inl (SqL.of s2), by show 1 ≤ sizeLine; decide, fun q0 hq0 => ?_⟩
    have t0 : Same H (upd H q0 (.lst [V.int ((nv (abs0 (some a)).needs).length : Int)])) := Same.new (.refl H) hq0
    refine ⟨_, rfl, sh, C, dx, _, _, rfl, t0 _ _ s1, T.cl, T.nN, sf_needs _ _ _, q0, n, _, _, rfl, rfl, upd_same, t0 _ _ s2, by rw [nv_length, e0]; exact sz (by show 1 + _ ≤ _; omega), fun q hq => ?_⟩
    refine Ends1.still k hS0 (t0.new hq) (t0.free hq) ?_
    rw [upd_same, nv_length, e0]
    show some (HO.lst ([V.int ((a.needs.length : Nat) : Int)] ++ nv a.needs)) = some (HO.lst (V.int ((a.needs.length : Nat) : Int) :: (iv a.needs).map V.int))
    rw [nv_iv]
    rfl
end
end TS
end
section
set_option Elab.async false
set_option Elab.async false
set_option linter.all false
set_option maxRecDepth 100000
set_option maxHeartbeats 2000000
namespace TS
open PySem PySem.Spec PyProof.Rows L2
/-- a list made over two lists of one length -/
theorem lc_zip {K : PySem.W.Frag} {a b : Addr} {xs ys : List V} {g : TG} {tt : TT} {te : TE} {vs : List Nat} {σ : L2.St} {H1 : Hp} {D : Addr} {Qd : Hp → Prop} (hlen : xs.length ≤ ys.length) (Pv : Nat → Hp → Prop) (h0 : Pv 0 (upd H1 D (.lst []))) (hl : ∀ i H, i ≤ xs.length → Pv i H → SqL K H a xs ∧ SqL K H b ys)
    (hs : ∀ i x y T H, xs[i]? = some x → ys[i]? = some y → Pv i H → H T = none → g (.ref T) (wipe σ vs) (upd H T (.tup [x, y])) fun σ2 H2 => wipe σ2 vs = wipe σ vs ∧ tt σ2 H2 fun b H3 =>
      if b = true then te σ2 H3 fun y H4 => ∃ acc, H4 D = some (.lst acc) ∧ acc.length < sizeLine ∧ Pv (i + 1) (upd H4 D (.lst (acc ++ [y]))) else Pv (i + 1) H3) (hd : ∀ H, Pv xs.length H → Qd H) :
    ∃ W : Nat → Nat → Hp → Prop, (∃ m, W 0 m (upd H1 D (.lst []))) ∧ ∀ i m H, W i m H →
      ((Itz K a b).stop i H ∧ Qd H) ∨ ((Itz K a b).go i H ∧ ∃ Nx : Hp → Prop, (∀ H', Nx H' → ∃ m', m' < m ∧ W (i + 1) m' H') ∧ ∀ x H', (Itz K a b).yld i H x H' → g x (wipe σ vs) H' fun σ2 H2 => wipe σ2 vs = wipe σ vs ∧ tt σ2 H2 fun b H3 =>
        if b = true then te σ2 H3 fun y H4 => ∃ acc, H4 D = some (.lst acc) ∧ acc.length < sizeLine ∧ Nx (upd H4 D (.lst (acc ++ [y]))) else Nx H3) := by
  refine ⟨fun i m H => m = xs.length - i ∧ i ≤ xs.length ∧ Pv i H, ⟨_, rfl, Nat.zero_le _, h0⟩, ?_⟩
  rintro i m H ⟨rfl, hi, p⟩
  obtain ⟨q1, q2⟩ := hl i H hi p
  by_cases hlt : i < xs.length
  · have e1 : xs[i]? = some xs[i] := List.getElem?_eq_getElem hlt
    have hlt2 : i < ys.length := by omega
    have e2 : ys[i]? = some ys[i] := List.getElem?_eq_getElem hlt2
    refine .inr ⟨⟨xs, ys, _, _, q1, q2, e1, e2⟩, Pv (i + 1), fun H' p' => ⟨xs.length - (i + 1), by omega, rfl, hlt, p'⟩, ?_⟩
    rintro v H' ⟨T, x, y, rfl, hT, rfl, y1, y2⟩
    exact hs i x y T H (y1 xs q1) (y2 ys q2) p hT
  · have e : i = xs.length := by omega
    subst e
    exact .inl ⟨⟨xs, ys, q1, q2, .inl (Nat.le_refl _)⟩, hd H p⟩
theorem any_some (l : List Nat) : (l.map fun x => decide (1000 < x)).any id = l.any fun x => decide (1000 < x) := by rw [List.any_map]; rfl
theorem zip_at {xs ys : List Nat} {i x y : Nat} (hx : xs[i]? = some x) (hy : ys[i]? = some y) : (List.zipWith (· + ·) xs ys)[i]? = some (x + y) := by rw [List.getElem?_zipWith, hx, hy]
section
variable {P : Program} {w : World} {K : PySem.W.Frag} {mg : Str → Option Value} {base : Heap} {C : Addr}
/-! ### together -/
abbrev sTog : Stmt := top 48
theorem scTog : FnScope ["shop", "given", "joined", "pieces", "one", "other"] ["shop", "given"] (defScope sTog) := ⟨rfl, rfl, rfl, by decide +kernel, rfl, by decide +kernel, by decide +kernel⟩
theorem blkTog : BlkOk ["shop", "given", "joined", "pieces", "one", "other"] (defScope sTog) { kind := .function, names := [(".0", .local), ("pieces", .local), ("MOST_NEEDED", .globalImplicit)], isGenerator := false, isCoroutine := false } [("pieces", 3)] := ⟨rfl, by decide +kernel, by decide +kernel, by decide +kernel, by decide +kernel⟩
theorem blkTog2 : BlkOk ["shop", "given", "joined", "pieces", "one", "other"] (defScope sTog) { kind := .function, names := [(".0", .local), ("one", .local), ("other", .local)], isGenerator := false, isCoroutine := false } [("one", 4), ("other", 5)] := ⟨rfl, by decide +kernel, by decide +kernel, by decide +kernel, by decide +kernel⟩
theorem ok_tog {f fF fN : Addr} {fd fdF fdN : FuncData} (F : Fun K "together" "together" sTog f fd) (T : Txt K mg C) (CF : Cal P w K mg base 5 "least_for" fF fdF ["shop", "needs"] (spFor K C)) (CN : Cal P w K mg base 6 "least_now" fN fdN ["shop"] (spNow C)) : FnOk P w K mg base CX0 7 f fd ["shop", "given"] (spCall C 16) := by
  refine F.ok scTog (fun vs H Q E h => ?_) (fun cdv Ar outer s H vs Q E hr h => ?_)
  · obtain ⟨sh, n, g, st, gs, rfl, _⟩ := h
    rfl
  · obtain ⟨sh, n, g, st, l, rfl, hS, hG, hne, hg, hl, _, k⟩ := h
    obtain ⟨a, rfl⟩ := some_of (hne (by decide))
    have G := hG a rfl
    have gd := G.days
    rw [step_said (x := .together ((iv l).map Int.toNat)) rfl, said_some, iv_toNat] at k
    have ed : Su88.does a (.together l) = if l.length ≠ a.needs.length ∨ l.any (fun n => decide (1000 < n)) = true then (a, Su88.no (-22)) else (a, Su88.num (a.plus l).least [a.least + (a.other l).least]) := rfl
    rw [ed] at k
    have nd := scTog.nd
    have hr5 : Room 5 _ := hr.mono (by decide)
    refine ⟨_, pss_cons (ps_if (PW.pt (pw_or (pt_cmpR op_ne (pe_callB call_len_seq (by rfl) T.own.len PySem.boot_len (pa_cons (pv 1) pa_nil)) (pe_callB call_len_seq (by rfl) T.own.len PySem.boot_len (pa_cons (pe_fld (pv 0) rfl) pa_nil)) (nomark _)) (pw_or1 (pt_val (pe_callB (cr_any rfl) (by rfl) T.own.any boot_any (pa_cons (pe_lc (own := [("pieces", 3)]) rfl nd (pi_list (pv 1)) blkTog (fun _ _ _ _ _ => pg_name (i := 3) nd rfl (Or.inl rfl)) (fun _ _ _ _ _ => pts_nil) (fun _ _ _ _ _ => pe_cmpR op_gt (pv 3) (pe_cst T.cNeeded rfl) (nomark _))) pa_nil)))))) (pss_one (ps_ret (pe_lst (pa_cons (pe_cst T.cOut rfl) pa_nil)))) pss_nil)
      (pss_cons (ps_setLc (i := 2) (own := [("one", 4), ("other", 5)]) (g := gTup K 2 (gCons (gName 4) (gCons (gName 5) gNil))) rfl nd rfl rfl (sw_true rfl rfl rfl rfl) (pi_zip rfl T.own.zip (pa_cons (pe_fld (pv 0) rfl) (pa_cons (pv 1) pa_nil))) blkTog2 (fun _ _ _ _ _ => pg_tup rfl (pgs_cons (pg_name (i := 4) nd rfl (Or.inl rfl)) (pgs_cons (pg_name (i := 5) nd rfl (Or.inl rfl)) pgs_nil))) (fun _ _ _ _ _ => pts_nil) (fun _ _ _ _ _ => pe_op op_add (pv 4) (pv 5)))
      (pss_one (ps_ret (pe_lst (pa_cons (pe_call CF.ok hr5 rfl CF.m CF.kp CF.b .nil pass0 (pa_cons (pv 0) (pa_cons (pv 2) pa_nil))) (pa_cons (pe_op op_add (pe_call CN.ok hr rfl CN.m CN.kp CN.b .nil pass0 (pa_cons (pv 0) pa_nil)) (pe_call CF.ok hr5 rfl CF.m CF.kp CF.b .nil pass0 (pa_cons (pv 0) (pa_cons (pv 1) pa_nil)))) pa_nil)))))), ?_⟩
    have e0 : (abs0 (some a)).needs = a.needs := rfl
    have ref : ∀ {D : Ends} {σ : L2.St} {H' : Hp}, D.rt = Q → Same H H' → (l.length ≠ a.needs.length ∨ l.any (fun n => decide (1000 < n)) = true) → tRet (tLst (tCons (tC (.int (-22))) tNil)) D σ H' := fun {D σ H'} eD s5 hn => by
      rw [if_pos hn] at k
      subst eD
      exact one_ret k hS s5 con_one
    have hS0 := hS
    obtain ⟨dx, f, kk, s1, s2, s3, s4⟩ := hS
    refine ⟨_, rfl, g, _, rfl, .inl (SqL.of hg), _, rfl, sh, C, dx, _, _, rfl, s1, T.cl, T.nN, sf_needs _ _ _, n, _, rfl, .inl (SqL.of s2), rfl, _, rfl, ?_⟩
    rw [nv_length, nv_length, e0]
    refine iteB (fun h1 => iteT (ref rfl (.refl H) (.inl fun z => ?_))) fun h1 => ?_
    · rw [z] at h1
      simp at h1
    · have h1 : l.length = a.needs.length := by
        simp at h1
        omega
      refine ⟨_, rfl, g, rfl, ⟨_, SqL.of hg⟩, fun D hD => ?_⟩
      have s0 : Same H (upd H D (.lst [])) := Same.new (.refl H) hD
      refine lc_list (K := K) (a := g) (xs := nv l) (fun i H' => Same H H' ∧ i ≤ l.length ∧ H' D = some (.lst (((l.take i).map fun x => decide (1000 < x)).map V.bl))) ⟨s0, Nat.zero_le _, upd_same⟩ (fun i H' _ q => SqL.of (q.1 _ _ hg)) ?_ ?_
      · rintro i x H' hx ⟨s5, hi, hd⟩
        obtain ⟨c, hc, rfl⟩ := nv_at hx
        have hi' : i + 1 ≤ l.length := (List.getElem?_eq_some_iff.mp hc).1
        refine ⟨rfl, ?_⟩
        dsimp only [tYes]
        rw [if_pos rfl]
        refine ⟨_, rfl, _, _, rfl, rfl, _, hd, by rw [List.length_map, List.length_map, List.length_take]; exact szl (by omega), s5.chg hD, hi', ?_⟩
        rw [upd_same, take_snoc hc, List.map_append, List.map_append]
        have e : decide ((1000 : Int) < (c : Int)) = decide (1000 < c) := decide_eq_decide.mpr (by omega)
        show some (HO.lst (_ ++ [V.bl (decide ((1000 : Int) < (c : Int)))])) = some (HO.lst (_ ++ [V.bl (decide (1000 < c))]))
        rw [e]
      · rintro H1 ⟨t1, hi, hd⟩
        rw [nv_length, List.take_length] at hd
        refine ⟨D, _, rfl, SqL.of hd, _, rfl, ?_⟩
        rw [any_some]
        refine iteB (fun h2 => ref rfl t1 (.inr h2)) fun h2 => ?_
        rw [if_neg (by rw [h2, h1]; simp)] at k
        -- joined
        refine ⟨_, rfl, sh, C, dx, _, _, rfl, t1 _ _ s1, T.cl, T.nN, sf_needs _ _ _, _, rfl, n, g, _, _, rfl, SqL.of (t1 _ _ s2), SqL.of (t1 _ _ hg), fun J hJ => ?_⟩
        have hJ0 : H J = none := t1.free hJ
        refine lc_zip (K := K) (a := n) (b := g) (xs := nv a.needs) (ys := nv l) (by rw [nv_length, nv_length]; omega) (fun i H' => Same H H' ∧ i ≤ a.needs.length ∧ H' J = some (.lst (nv ((List.zipWith (· + ·) a.needs l).take i)))) ⟨t1.new hJ, Nat.zero_le _, upd_same⟩ (fun i H' _ q => ⟨SqL.of (q.1 _ _ s2), SqL.of (q.1 _ _ hg)⟩) ?_ ?_
        · rintro i x y Tp H' hx hy ⟨s5, hi, hd⟩ hT
          obtain ⟨c, hc, rfl⟩ := nv_at hx
          obtain ⟨b, hb, rfl⟩ := nv_at hy
          have hi' : i + 1 ≤ a.needs.length := (List.getElem?_eq_some_iff.mp hc).1
          have s6 : Same H (upd H' Tp (.tup [V.int (c : Int), V.int (b : Int)])) := s5.new hT
          have nJ : J ≠ Tp := ne_of_none hd hT
          refine ⟨Tp, _, rfl, SqT.of upd_same, rfl, _, _, rfl, _, _, rfl, rfl, rfl, ?_⟩
          dsimp only [tYes]
          rw [if_pos rfl]
          refine ⟨_, rfl, _, rfl, _, _, rfl, rfl, _, by rw [upd_ne nJ]; exact hd, by rw [nv_length, List.length_take]; exact szl (by omega), s6.chg hJ0, hi', ?_⟩
          rw [upd_same, take_snoc (zip_at hc hb), nv_append]
          show some (HO.lst (_ ++ [V.int ((c : Int) + (b : Int))])) = some (HO.lst (_ ++ [V.int ((c + b : Nat) : Int)]))
          rfl
        · rintro H2 ⟨t2, hi, hd⟩
          have lz : (List.zipWith (· + ·) a.needs l).length = a.needs.length := by rw [List.length_zipWith]; omega
          rw [nv_length, ← lz, List.take_length, ← plus_needs a l h1] at hd
          have lp : (a.plus l).needs.length ≤ 7 := by rw [plus_needs a l h1, lz]; exact gd
          refine ⟨_, rfl, _, rfl, sh, n, J, a, (a.plus l).needs, rfl, hS0.same t2, G, SqL.of hd, lp, fun H3 t3 => ?_⟩
          have t03 := t2.trans t3
          refine ⟨_, rfl, sh, n, a, rfl, hS0.same t03, G, fun H4 t4 => ?_⟩
          have t04 := t03.trans t4
          refine ⟨_, rfl, _, rfl, sh, n, g, a, l, rfl, hS0.same t04, G, SqL.of (t04 _ _ hg), by omega, fun H5 t5 => ?_⟩
          have t05 := t04.trans t5
          refine ⟨_, _, rfl, rfl, by show 2 ≤ sizeLine; decide, fun q hq => ?_⟩
          refine Ends1.still k hS0 (t05.new hq) (t05.free hq) ?_
          rw [upd_same]
          have eo : a.other l = { a with needs := l } := by
            have := other_needs a l h1
            show ({ a with needs := (a.other l).needs } : Su88.Abs) = _
            rw [this]
          have ep : ({ a with needs := (a.plus l).needs } : Su88.Abs) = a.plus l := rfl
          rw [ep, ← eo]
          rfl
end
end TS
end
section
set_option Elab.async false
set_option Elab.async false
set_option linter.all false
set_option maxRecDepth 100000
set_option maxHeartbeats 2000000
namespace TS
open PySem PySem.Spec PyProof.Rows L2
/-- how many calls the text has -/
abbrev NP : Nat := 19
abbrev sizes : List Nat := [5, 2, 2, 2, 0, 0, 0, 0, 0, 0, 2, 2, 2, 0, 0, 0, 0, 0, 0]
abbrev rowNs : List Nat := [6, 7, 16]
theorem sizes_at {p : Nat} (h : p < NP) : ∃ s, sizes[p]? = some s ∧ (¬ rowOf p → s = sizeOf p) := by
  have hqq : p = 0 ∨ p = 1 ∨ p = 2 ∨ p = 3 ∨ p = 4 ∨ p = 5 ∨ p = 6 ∨ p = 7 ∨ p = 8 ∨ p = 9 ∨ p = 10 ∨ p = 11 ∨ p = 12 ∨ p = 13 ∨ p = 14 ∨ p = 15 ∨ p = 16 ∨ p = 17 ∨ p = 18 := by
    have : p < 19 := h
    omega
  rcases hqq with rfl | rfl | rfl | rfl | rfl | rfl | rfl | rfl | rfl | rfl | rfl | rfl | rfl | rfl | rfl | rfl | rfl | rfl | rfl <;> exact ⟨_, rfl, fun _ => rfl⟩
theorem rows_in {p : Nat} (h : p < NP) : inV (.int (p : Int)) (nv rowNs) = decide (rowOf p) := by
  have hqq : p = 0 ∨ p = 1 ∨ p = 2 ∨ p = 3 ∨ p = 4 ∨ p = 5 ∨ p = 6 ∨ p = 7 ∨ p = 8 ∨ p = 9 ∨ p = 10 ∨ p = 11 ∨ p = 12 ∨ p = 13 ∨ p = 14 ∨ p = 15 ∨ p = 16 ∨ p = 17 ∨ p = 18 := by
    have : p < 19 := h
    omega
  rcases hqq with rfl | rfl | rfl | rfl | rfl | rfl | rfl | rfl | rfl | rfl | rfl | rfl | rfl | rfl | rfl | rfl | rfl | rfl | rfl <;> decide
section
variable {P : Program} {w : World} {K : PySem.W.Frag} {mg : Str → Option Value} {base : Heap} {C : Addr}
/-- the tables of the text's top -/
structure Tab (P : Program) (w : World) (K : PySem.W.Frag) (mg : Str → Option Value) (base : Heap) (C cc cs cr : Addr) (fs : List Addr) : Prop where
  mc : mg "CALLS" = some (.ref cc)
  tc : ∀ H : Hp, SqT K H cc (fs.map V.ref)
  lc : fs.length = NP
  fn : ∀ p f, fs[p]? = some f → ∃ fd, FnOk P w K mg base CX0 7 f fd ["shop", "given"] (spCall C p) ∧ PySem.W.keepIn K (.ref f) = true ∧ Binds K fd ["shop", "given"] []
  ms : mg "SIZES" = some (.ref cs)
  ts : ∀ H : Hp, SqT K H cs (nv sizes)
  mr : mg "WITH_ROW" = some (.ref cr)
  tr : ∀ H : Hp, SqT K H cr (nv rowNs)
/-! ### answer_call -/
abbrev sAC : Stmt := top 55
def spAC (C : Addr) : Sp := fun vs H Q _ => ∃ (sh n g : Addr) (p : Nat) (st : Option Su88.Abs) (gs : List Nat), vs = [.ref sh, .int (p : Int), .ref g] ∧ p < NP ∧ ShopAt C H sh n (abs0 st) ∧ GoodS st ∧ H g = some (.lst (nv gs)) ∧ gs.length ≤ 9000 ∧ (¬ rowOf p → gs.length = sizeOf p) ∧
  Ends1 C H Q sh n (abs0 (Su88Neutral.step st ((p : Int) :: iv gs)).1) (Su88Neutral.step st ((p : Int) :: iv gs)).2
theorem scAC : FnScope ["shop", "number", "given", "call"] ["shop", "number", "given"] (defScope sAC) := ⟨rfl, rfl, rfl, by decide +kernel, rfl, by decide +kernel, by decide +kernel⟩
theorem ok_ac {f cc cs cr : Addr} {fs : List Addr} {fd : FuncData} (F : Fun K "answer_call" "answer_call" sAC f fd) (T : Txt K mg C) (B : Tab P w K mg base C cc cs cr fs) : FnOk P w K mg base CX0 8 f fd ["shop", "number", "given"] (spAC C) := by
  refine F.ok scAC (fun vs H Q E h => ?_) (fun cdv Ar outer s H vs Q E hr h => ?_)
  · obtain ⟨sh, n, g, p, st, gs, rfl, _⟩ := h
    rfl
  · obtain ⟨sh, n, g, p, st, gs, rfl, hp, hS, hG, hg, hl, hs, k⟩ := h
    have nd := scAC.nd
    refine ⟨_, pss_cons (ps_if (PW.pt (pw_and (pt_cmpR op_ne (pv 1) (pe_cst T.cBegin rfl) (nomark _)) (pw_and1 (pt_cmpR op_eq (pe_callB call_len_seq (by rfl) T.own.len PySem.boot_len (pa_cons (pe_fld (pv 0) rfl) pa_nil)) pe_int (nomark _))))) (pss_one (ps_ret (pe_lst (pa_cons (pe_cst T.cNot rfl) pa_nil)))) pss_nil)
      (pss_cons (ps_set (i := 3) nd rfl (Or.inl rfl) (pe_ix ix_tup (pe_glob (v := .ref cc) rfl B.mc rfl) (pv 1) (fun _ _ => rfl)))
      (pss_one (ps_ret (pe_callL (pv 3) hr (pa_cons (pv 0) (pa_cons (pv 2) pa_nil)))))), ?_⟩
    -- the call itself
    have go : (p ≠ 0 → st ≠ none) → ∀ (D : Ends) (σ4 : Option V), D.rt = Q → tSeq (tAsg (tOp (rIxT K) (tC (.ref cc)) (tVar 1)) (gName 3)) (tRet (tCallL P w K mg base 7 (tVar 3) (tCons (tVar 0) (tCons (tVar 2) tNil)))) D [some (.ref sh), some (.int (p : Int)), some (.ref g), σ4] H := by
      intro hne D σ4 eD
      obtain ⟨fp, hfp⟩ : ∃ fp, fs[p]? = some fp := ⟨_, List.getElem?_eq_getElem (by rw [B.lc]; exact hp)⟩
      obtain ⟨fdp, h1, h2, h3⟩ := B.fn p fp hfp
      refine ⟨_, rfl, cc, _, _, _, rfl, rfl, B.tc H, atI_nat (by rw [List.getElem?_map, hfp]; rfl), ?_⟩
      refine ⟨_, rfl, fp, fdp, _, _, rfl, h1, h2, h3, _, rfl, _, rfl, sh, n, g, st, gs, rfl, hS, hG, hne, hg, hl, hs, ?_⟩
      rw [eD]
      exact k
    refine ⟨_, rfl, rfl, _, rfl, iteB (fun h1 => ?_) fun h1 => ?_⟩
    · have h1 : p ≠ 0 := fun z => by
        rw [z] at h1
        exact absurd h1 (by decide)
      have hS0 := hS
      obtain ⟨dx, f, kk, s1, s2, s3, s4⟩ := hS
      refine ⟨_, rfl, sh, C, dx, _, _, rfl, s1, T.cl, T.nN, sf_needs _ _ _, n, _, rfl, .inl (SqL.of s2), rfl, _, rfl, iteD (fun h2 => ?_) fun h2 => ?_⟩
      · cases st with
        | some a =>
          exfalso
          rw [nv_length] at h2
          have := (hG a rfl).pos
          have e0 : (abs0 (some a)).needs = a.needs := rfl
          rw [e0] at h2
          injection h2 with h2
          omega
        | none =>
          rw [none_step (Nat.lt_of_lt_of_le hp (by decide)) h1 hs] at k
          exact one_ret k hS0 (.refl H) con_one
      · refine go (fun _ z => ?_) _ _ rfl
        subst z
        exact h2 rfl
    · have h1 : p = 0 := by
        have : decide ((V.int (p : Int)) = V.int 0) = true := by simpa using h1
        have := of_decide_eq_true this
        injection this with this
        omega
      exact go (fun z => absurd h1 z) _ _ rfl
/-! ### answers -/
abbrev sAns : Stmt := top 56
def spAns (K : PySem.W.Frag) : Sp := fun vs H Q _ => ∃ (a : Addr) (nl : List Nat), vs = [.ref a] ∧ SqL K H a (nv nl) ∧ nl.length ≤ 9000 ∧ PySu88.answers_asked (iv nl) = true ∧ ∀ (H' : Hp) (p : Addr), H' p = some (.lst ((PySu88.answers (iv nl)).map V.int)) → Q (.ref p) H'
theorem scAns : FnScope ["calls", "shop", "told", "place", "number", "start", "size", "answer"] ["calls"] (defScope sAns) := ⟨rfl, rfl, rfl, by decide +kernel, rfl, by decide +kernel, by decide +kernel⟩
theorem drop_more {l r : List Nat} {a : Nat} {i : Nat} (h : l.drop i = a :: r) : l[i]? = some a ∧ l.drop (i + 1) = r := by
  have h1 : l[i]? = some a := by
    have := congrArg (fun z => z[0]?) h
    rw [List.getElem?_drop] at this
    exact this
  refine ⟨h1, ?_⟩
  rw [← List.drop_drop, h]
  rfl
theorem drop_app {l gs r : List Nat} {i : Nat} (h : l.drop i = gs ++ r) : (l.take (i + gs.length)).drop i = gs ∧ l.drop (i + gs.length) = r := by
  constructor
  · rw [List.drop_take, h, show i + gs.length - i = gs.length by omega, List.take_left' rfl]
  · rw [← List.drop_drop, h, List.drop_left' rfl]
/-- behind a call's reading: it is made, and what it answers is told -/
def tRest (K : PySem.W.Frag) (C : Addr) : TS := tSeq (tAsg (tOp (rI0 fun i j => .int (i + j)) (tVar 5) (tVar 6)) (gName 3)) (tSeq (tAsg (tCall (spAC C) [] E0 (tCons (tVar 1) (tCons (tVar 4) (tCons (tSl (rSlL K) (tVar 0) (tPart (tVar 5)) (tPart (tVar 3))) tNil)))) (gName 7))
  (tSeq (tDrop (tBM K "list" rAppend (tVar 2) (tCons (tCB (fun xs H Q => ∃ p ys, xs = [.ref p] ∧ (SqL K H p ys ∨ SqT K H p ys) ∧ Q (.int ys.length) H) (tCons (tVar 7) tNil)) tNil))) (tDrop (tBM K "list" rExtend (tVar 2) (tCons (tVar 7) tNil)))))
theorem ShopAt.chg {C : Addr} {H : Hp} {sh n t : Addr} {A : Su88.Abs} {xs : List V} {o : HO} (h : ShopAt C H sh n A) (ht : H t = some (.lst xs)) (hn : t ≠ n) : ShopAt C (upd H t o) sh n A := by
  obtain ⟨dx, f, k, h1, h2, h3, h4⟩ := h
  exact ⟨dx, f, k, by rw [upd_ne (ne_of h1 ht (by intro z; cases z))]; exact h1, by rw [upd_ne (fun z => hn z.symm)]; exact h2, by rw [upd_ne (ne_of h3 ht (by intro z; cases z))]; exact h3, by rw [upd_ne (ne_of h4 ht (by intro z; cases z))]; exact h4⟩
theorem ok_ans {f fI fA cs_ cr : Addr} {fd fdI fdA : FuncData} (F : Fun K "answers" "answers" sAns f fd) (T : Txt K mg C) (M : Mk K C fI) (GI : FnOk P w K mg base CX0 1 fI fdI ["self"] (spInit C)) (bI : Binds K fdI ["self"] [])
    (CA : Cal P w K mg base 8 "answer_call" fA fdA ["shop", "number", "given"] (spAC C)) (ms : mg "SIZES" = some (.ref cs_)) (ts : ∀ H : Hp, SqT K H cs_ (nv sizes)) (mr : mg "WITH_ROW" = some (.ref cr)) (tr : ∀ H : Hp, SqT K H cr (nv rowNs)) :
    FnOk P w K mg base CX0 9 f fd ["calls"] (spAns K) := by
  refine F.ok scAns (fun vs H Q E h => ?_) (fun cdv Ar outer s H vs Q E hr h => ?_)
  · obtain ⟨a, nl, rfl, _⟩ := h
    rfl
  · obtain ⟨a, nl, rfl, ha, hz, hask, k⟩ := h
    have nd := scAns.nd
    have hr2 : Room 2 _ := hr.mono (by decide)
    obtain ⟨f0, cs0, hc0, hi0, hans, hlen⟩ := asked_calls hask
    refine ⟨_, pss_cons (ps_set (i := 1) nd rfl (Or.inl rfl) (pe_make0 M GI hr2 rfl T.mgC bI .nil pass0))
      (pss_cons (ps_set (i := 2) nd rfl (Or.inl rfl) (pe_lst pa_nil))
      (pss_cons (ps_set (i := 3) nd rfl (Or.inl rfl) pe_int)
      (pss_cons (ps_while PassesOwn.never (pt_cmpR op_lt (pv 3) (pe_callB call_len_seq (by rfl) T.own.len PySem.boot_len (pa_cons (pv 0) pa_nil)) (nomark _))
        (pss_cons (ps_set (i := 4) nd rfl (Or.inl rfl) (pe_ix ix_list (pv 0) (pv 3) (fun _ _ => rfl)))
        (pss_cons (ps_set (i := 5) nd rfl (Or.inl rfl) (pe_op op_add (pv 3) pe_int))
        (pss_cons (ps_set (i := 6) nd rfl (Or.inl rfl) (pe_ix ix_tup (pe_glob (v := .ref cs_) rfl ms rfl) (pv 4) (fun _ _ => rfl)))
        (pss_cons (ps_if (pt_cmpR op_in_seq (pv 4) (pe_glob (v := .ref cr) rfl mr rfl) (by with_unfolding_all rfl)) (pss_cons (ps_set (i := 6) nd rfl (Or.inl rfl) (pe_ix ix_list (pv 0) (pv 5) (fun _ _ => rfl))) (pss_one (ps_set (i := 5) nd rfl (Or.inl rfl) (pe_op op_add (pv 5) pe_int)))) pss_nil)
        (pss_cons (ps_set (i := 3) nd rfl (Or.inl rfl) (pe_op op_add (pv 5) (pv 6)))
        (pss_cons (ps_set (i := 7) nd rfl (Or.inl rfl) (pe_call CA.ok hr rfl CA.m CA.kp CA.b .nil pass0 (pa_cons (pv 1) (pa_cons (pv 4) (pa_cons (pe_slice sl_list (pv 0) (po_some (pv 5)) (po_some (pv 3))) pa_nil)))))
        (pss_cons (ps_expr (pe_bm PySem.F.plainAttrs_list PySem.F.slot_list_append PySem.F.type_list_append mt_append (pv 2) (pa_cons (pe_callB call_len_seq (by rfl) T.own.len PySem.boot_len (pa_cons (pv 7) pa_nil)) pa_nil)))
        (pss_one (ps_expr (pe_bm PySem.F.plainAttrs_list PySem.F.slot_list_extend PySem.F.type_list_extend mt_extend (pv 2) (pa_cons (pv 7) pa_nil))))))))))))
      (pss_one (ps_ret (pv 2)))))), ?_⟩
    intro sh dx n0 n1 ne
    refine ⟨sh, dx, rfl, upd_same, fun H1 n k1 hS1 hn1 => ⟨rfl, ?_⟩⟩
    have s1 : Same H H1 := Same.made n0 n1 k1
    refine ⟨Nat.zero_le _, fun tl htl => ?_⟩
    have s2 := s1.new (o := .lst []) htl
    have htl0 : H tl = none := s1.free htl
    have hn0 : H n = none := by
      cases e : H n with
      | none => rfl
      | some o =>
        have : upd (upd H dx (.own sh)) sh (.ins C dx []) n = some o := by rw [upd_ne (ne_of_none e n0), upd_ne (ne_of_none e n1)]; exact e
        rw [this] at hn1
        cases hn1
    have hSt : ShopAt C (upd H1 tl (.lst [])) sh n (abs0 none) := hS1.put htl
    have tln : tl ≠ n := by
      obtain ⟨_, _, _, _, q2, _⟩ := hS1
      exact fun z => ne_of_none q2 htl z.symm
    refine ⟨fun m σ H' => ∃ (place : Nat) (acc : List Int) (st : Option Su88.Abs) (n f : Nat) (cs : List (List (List Int))) (m4 m5 m6 m7 : Option V), σ = [some (.ref a), some (.ref sh), some (.ref tl), some (.int (place : Int)), m4, m5, m6, m7] ∧ Same H H' ∧ H n = none ∧ ShopAt C H' sh n (abs0 st) ∧ GoodS st ∧
      H' tl = some (.lst (acc.map V.int)) ∧ tl ≠ n ∧ place ≤ nl.length ∧ m = nl.length - place ∧ PyFlat.calls PySu88.shape f (iv (nl.drop place)) = some cs ∧ PyInside.calls PySu88.bound cs = true ∧ PySu88.answers (iv nl) = acc ++ PyFlat.told (Su88Neutral.steps st (heads cs)),
      ⟨nl.length, 0, [], none, n, f0, cs0, none, none, none, none, rfl, s2, hn0, hSt, (fun a h => by cases h), upd_same, tln, Nat.zero_le _, rfl, hc0, hi0, hans⟩, ?_⟩
    rintro m σ H' ⟨place, acc, st, n, f, cs, m4, m5, m6, m7, rfl, s5, hn, hS, hG, hT, htn, hpl, rfl, hc, hi, hA⟩
    refine ⟨_, rfl, _, rfl, a, _, rfl, .inl (s5.seq ha), _, _, rfl, rfl, _, rfl, iteD (fun hlt => ?_) (fun hge => ?_)⟩
    · rw [nv_length] at hlt
      have hlt : place < nl.length := by omega
      have hdne : nl.drop place ≠ [] := fun z => by
        have := congrArg List.length z
        rw [List.length_drop] at this
        simp at this
        omega
      obtain ⟨p, gs, rest, f', cs', o, hc', hi', hh⟩ := parseN hc hdne hi
      have hp : p < NP := o.lt
      obtain ⟨size, hsz, hsz2⟩ := sizes_at hp
      have hgl : gs.length ≤ nl.length := by
        by_cases hr : rowOf p
        · have := congrArg List.length (o.row hr)
          rw [List.length_drop, List.length_cons, List.length_cons, List.length_append] at this
          omega
        · have := congrArg List.length (o.plain hr).1
          rw [List.length_drop, List.length_cons, List.length_append] at this
          omega
      have hnum : nl[place]? = some p := by
        by_cases hr : rowOf p
        · exact (drop_more (o.row hr)).1
        · exact (drop_more (o.plain hr).1).1
      rw [hh, steps_cons, told_cons] at hA
      -- what is common
      have key : ∀ (start : Nat) (sI zI : Int) (v3 v7 : Option V) (D : Ends), sI = (start : Int) → zI = (gs.length : Int) → (nl.take (start + gs.length)).drop start = gs → nl.drop (start + gs.length) = rest → place < start → start + gs.length ≤ nl.length →
          (∀ (place' : Nat) (acc' : List Int) (st' : Option Su88.Abs) (n' : Addr) (m4 m5 m6 m7 : Option V) (H2 : Hp), place < place' → Same H H2 → H n' = none → ShopAt C H2 sh n' (abs0 st') → GoodS st' → H2 tl = some (.lst (acc'.map V.int)) → tl ≠ n' → place' ≤ nl.length → PyFlat.calls PySu88.shape f' (iv (nl.drop place')) = some cs' →
            PySu88.answers (iv nl) = acc' ++ PyFlat.told (Su88Neutral.steps st' (heads cs')) → D.nx [some (.ref a), some (.ref sh), some (.ref tl), some (.int (place' : Int)), m4, m5, m6, m7] H2) →
          tRest K C D [some (.ref a), some (.ref sh), some (.ref tl), v3, some (.int (p : Int)), some (.int sI), some (.int zI), v7] H' := by
        intro start sI zI v3 v7 D esI ezI hg1 hg2 hps hle kD
        subst esI ezI
        have ep : ((start : Int) + (gs.length : Int)) = ((start + gs.length : Nat) : Int) := by omega
        refine ⟨_, rfl, _, rfl, _, _, rfl, rfl, ?_⟩
        refine ⟨_, rfl, _, rfl, _, rfl, _, rfl, _, rfl, _, rfl, _, rfl, a, _, rfl, s5.seq ha, fun g hg => ?_⟩
        have ecut : cutV (nv nl) (some (start : Int)) (some ((start : Int) + (gs.length : Int))) = nv gs := by rw [ep, cut_mid, hg1]
        rw [ecut]
        have s6 := s5.new (o := .lst (nv gs)) hg
        have hS6 := hS.put (o := .lst (nv gs)) hg
        have tg : tl ≠ g := ne_of_none hT hg
        have hT6 : upd H' g (.lst (nv gs)) tl = some (.lst (acc.map V.int)) := by rw [upd_ne tg]; exact hT
        have hlen2 : (acc ++ ((Su88Neutral.step st ((p : Int) :: iv gs)).2.length : Int) :: (Su88Neutral.step st ((p : Int) :: iv gs)).2).length ≤ 10000000 := by
          rw [hA] at hlen
          rw [List.cons_append, List.length_append, List.length_cons, List.length_append] at hlen
          rw [List.length_append, List.length_cons]
          omega
        rw [List.length_append, List.length_cons] at hlen2
        refine ⟨sh, n, g, p, st, gs, rfl, hp, hS6, hG, upd_same, by omega, fun hr => (o.plain hr).2, fun H7 q n' hk hS7 hn' hq hqn hv => ?_⟩
        have hgood := good_nstep hG ((p : Int) :: iv gs)
        generalize hst : (Su88Neutral.step st ((p : Int) :: iv gs)).1 = st' at hS7 hgood
        generalize hls : (Su88Neutral.step st ((p : Int) :: iv gs)).2 = ls at hv hlen2
        rw [hst, hls] at hA
        have hsh : H sh = none := n0
        have s7 : Same H H7 := fun b x hb => hk b x (s6 b x hb) (ne_of_none hb hsh) (ne_of_none hb hn)
        have hn'0 : H n' = none := by
          rcases hn' with z | z
          · rw [z]; exact hn
          · exact s6.free z
        have htn' : tl ≠ n' := by
          rcases hn' with z | z
          · rw [z]; exact htn
          · exact ne_of_none hT6 z
        have hts : tl ≠ sh := by
          obtain ⟨_, _, _, q1, _⟩ := hS6
          exact ne_of hT6 q1 (by intro z; cases z)
        have hT7 := hk tl _ hT6 hts htn
        have hqt : tl ≠ q := ne_of_none hT6 hq
        -- told.append(len(answer))
        refine ⟨_, rfl, .inl ⟨rfl, _, SqL.of hT7⟩, _, rfl, q, _, rfl, .inl (SqL.of hv), tl, _, _, rfl, rfl, hT7, by rw [List.length_map]; exact Nat.lt_of_le_of_lt (by omega : acc.length ≤ 10000000) (by decide), ?_⟩
        have hT8 : upd H7 tl (.lst (acc.map V.int ++ [V.int ((ls.map V.int).length : Int)])) tl = some (.lst (acc.map V.int ++ [V.int ((ls.map V.int).length : Int)])) := upd_same
        -- told.extend(answer)
        refine ⟨_, rfl, .inl ⟨rfl, _, SqL.of hT8⟩, _, rfl, tl, q, _, _, rfl, rfl, hT8, by rw [upd_ne (fun z => hqt z.symm)]; exact hv, by rw [List.length_append, List.length_map, List.length_map]; exact Nat.le_trans (by show (acc.length + 1) + ls.length ≤ 10000000; omega) (by decide), ?_⟩
        rw [upd_upd]
        have eacc : acc.map V.int ++ [V.int ((ls.map V.int).length : Int)] ++ ls.map V.int = (acc ++ (ls.length : Int) :: ls).map V.int := by
          rw [List.length_map, List.map_append, List.append_assoc]
          rfl
        rw [eacc]
        have := kD (start + gs.length) (acc ++ (ls.length : Int) :: ls) st' n' (some (.int (p : Int))) (some (.int (start : Int))) (some (.int (gs.length : Int))) (some (.ref q)) (upd H7 tl (.lst ((acc ++ (ls.length : Int) :: ls).map V.int))) (by omega) (s7.chg htl0) hn'0 (hS7.chg hT7 htn') hgood upd_same htn' hle (by rw [hg2]; exact hc') (by rw [hA, List.append_assoc])
        rw [← ep] at this
        exact this
      refine ⟨fun σ' H2 => ∃ m', m' < nl.length - place ∧ ∃ (place' : Nat) (acc : List Int) (st : Option Su88.Abs) (n f : Nat) (cs : List (List (List Int))) (m4 m5 m6 m7 : Option V), σ' = [some (.ref a), some (.ref sh), some (.ref tl), some (.int (place' : Int)), m4, m5, m6, m7] ∧ Same H H2 ∧ H n = none ∧ ShopAt C H2 sh n (abs0 st) ∧ GoodS st ∧
        H2 tl = some (.lst (acc.map V.int)) ∧ tl ≠ n ∧ place' ≤ nl.length ∧ m' = nl.length - place' ∧ PyFlat.calls PySu88.shape f (iv (nl.drop place')) = some cs ∧ PyInside.calls PySu88.bound cs = true ∧ PySu88.answers (iv nl) = acc ++ PyFlat.told (Su88Neutral.steps st (heads cs)), fun _ _ z => z, ?_⟩
      have done : ∀ (place' : Nat) (acc' : List Int) (st' : Option Su88.Abs) (n' : Addr) (m4 m5 m6 m7 : Option V) (H2 : Hp), place < place' → Same H H2 → H n' = none → ShopAt C H2 sh n' (abs0 st') → GoodS st' → H2 tl = some (.lst (acc'.map V.int)) → tl ≠ n' → place' ≤ nl.length → PyFlat.calls PySu88.shape f' (iv (nl.drop place')) = some cs' →
            PySu88.answers (iv nl) = acc' ++ PyFlat.told (Su88Neutral.steps st' (heads cs')) → ∃ m', m' < nl.length - place ∧ ∃ (place'' : Nat) (acc : List Int) (st : Option Su88.Abs) (n f : Nat) (cs : List (List (List Int))) (k4 k5 k6 k7 : Option V), [some (V.ref a), some (.ref sh), some (.ref tl), some (.int (place' : Int)), m4, m5, m6, m7] = [some (.ref a), some (.ref sh), some (.ref tl), some (.int (place'' : Int)), k4, k5, k6, k7] ∧ Same H H2 ∧ H n = none ∧ ShopAt C H2 sh n (abs0 st) ∧ GoodS st ∧
        H2 tl = some (.lst (acc.map V.int)) ∧ tl ≠ n ∧ place'' ≤ nl.length ∧ m' = nl.length - place'' ∧ PyFlat.calls PySu88.shape f (iv (nl.drop place'')) = some cs ∧ PyInside.calls PySu88.bound cs = true ∧ PySu88.answers (iv nl) = acc ++ PyFlat.told (Su88Neutral.steps st (heads cs)) :=
        fun place' acc' st' n' m4 m5 m6 m7 H2 d1 d2 d3 d4 d5 d6 d7 d8 d9 d10 => ⟨nl.length - place', by omega, place', acc', st', n', f', cs', m4, m5, m6, m7, rfl, d2, d3, d4, d5, d6, d7, d8, rfl, d9, hi', d10⟩
      -- number, start, size
      refine ⟨_, rfl, _, rfl, a, _, _, _, rfl, rfl, s5.seq ha, atI_nat (nv_get hnum), ?_⟩
      refine ⟨_, rfl, _, _, rfl, rfl, ?_⟩
      refine ⟨_, rfl, cs_, _, _, _, rfl, rfl, ts H', atI_nat (nv_get hsz), ?_⟩
      refine ⟨_, rfl, cr, _, rfl, .inr (tr H'), rfl, rfl, _, rfl, iteE (c := rowOf p) (rows_in hp) (fun hrow => ?_) (fun hrow => ?_)⟩
      · obtain ⟨_, r1⟩ := drop_more (o.row hrow)
        obtain ⟨r2, r3⟩ := drop_more r1
        have r4 := drop_app (i := place + 1 + 1) r3
        have hat : atI (nv nl) ((place : Int) + 1) = some (V.int (gs.length : Int)) := at_of (by omega : ((place : Int) + 1) = ((place + 1 : Nat) : Int)) (nv_get r2)
        refine ⟨_, rfl, _, rfl, a, _, _, _, rfl, rfl, s5.seq ha, hat, ?_⟩
        refine ⟨_, rfl, _, _, rfl, rfl, ?_⟩
        have e5 : ((place : Int) + 1 + 1) = ((place + 1 + 1 : Nat) : Int) := by omega
        have hle : place + 1 + 1 + gs.length ≤ nl.length := by
          have := congrArg List.length (o.row hrow)
          rw [List.length_drop, List.length_cons, List.length_cons, List.length_append] at this
          omega
        exact key (place + 1 + 1) _ _ _ _ _ e5 rfl r4.1 r4.2 (by omega) hle done
      · obtain ⟨_, r1⟩ := drop_more (o.plain hrow).1
        have r4 := drop_app (i := place + 1) r1
        have e5 : ((place : Int) + 1) = ((place + 1 : Nat) : Int) := by omega
        have hle : place + 1 + gs.length ≤ nl.length := by
          have := congrArg List.length (o.plain hrow).1
          rw [List.length_drop, List.length_cons, List.length_append] at this
          omega
        exact key (place + 1) _ _ _ _ _ e5 (by rw [(o.plain hrow).2, ← hsz2 hrow]) r4.1 r4.2 (by omega) hle done
    · rw [nv_length] at hge
      have e : place = nl.length := by omega
      subst e
      rw [List.drop_length] at hc
      have hcs : cs = [] := by
        have hc : PyFlat.calls PySu88.shape f [] = some cs := hc
        have : PyFlat.calls PySu88.shape f [] = some [] := by cases f <;> rfl
        rw [this] at hc
        exact (Option.some.inj hc).symm
      subst hcs
      have hA : PySu88.answers (iv nl) = acc ++ [] := hA
      rw [List.append_nil] at hA
      refine ⟨_, rfl, k H' tl ?_⟩
      rw [hA]
      exact hT
end
end TS
end
section
set_option Elab.async false
set_option Elab.async false
set_option linter.all false
set_option maxRecDepth 100000
set_option maxHeartbeats 2000000
namespace TS
open PySem PySem.Spec PyProof.Rows L2
open PySem.W (Codec)
/-! ### what the top has written -/
/-- a def of the text's top, as it stands behind the top -/
structure FnAt (K : PySem.W.Frag) (x : Str) (st : Stmt) (f : Addr) : Prop where
  a : PySem.W.nsIn K mainGlobals x = some (some (.ref f))
  fn : ∃ fd, Fun K x x st f fd
theorem fn_mk {K : PySem.W.Frag} {x : Str} {st : Stmt} {f : Addr} {oc : Value} {od an : Option Addr} {osl : Array (Option Value)} {kV doc pm cdv ct : Value} (a : PySem.W.nsIn K mainGlobals x = some (some (.ref f)))
    (l : K.lookup f = some ⟨oc, od, .func (PySem.W.fnOf x x (defArgs st) (defBody st) (defScope st) .none kV doc pm an cdv ct), osl⟩) (c : PySem.W.codeIn K cdv x = true) (k : PySem.W.keepIn K (.ref f) = true) : FnAt K x st f := ⟨a, _, fun_mk (st := st) l c k⟩
theorem vals_refs : ∀ fs : List Addr, Vals (fs.map V.ref) (fs.map Value.ref)
  | [] => .nil
  | _ :: fs => .cons rfl (vals_refs fs)
theorem tup_refs {K : PySem.W.Frag} {a : Addr} {od : Option Addr} {sl : Array (Option Value)} {n : Nat} {fs : List Addr} (h : K.lookup a = some ⟨.type "tuple", od, .seq (fs.map Value.ref).toArray n, sl⟩) (hz : fs.length ≤ 100) (H : Hp) : SqT K H a (fs.map V.ref) :=
  .inr ⟨_, _, n, h, rfl, rfl, by rw [List.size_toArray, List.length_map]; exact sz (by omega), by simpa using vals_refs fs⟩
theorem tup_ints {K : PySem.W.Frag} {a : Addr} {od : Option Addr} {sl : Array (Option Value)} {n : Nat} {its : Array Value} {l : List Nat} (h : K.lookup a = some ⟨.type "tuple", od, .seq its n, sl⟩) (hz : its.size ≤ 100) (hv : Vals (nv l) its.toList) (H : Hp) : SqT K H a (nv l) :=
  .inr ⟨_, its, n, h, rfl, rfl, sz (by omega), hv⟩
theorem all_mk {P : Program} {w : World} {K : PySem.W.Frag} {h : Heap} {mg : Str → Option Value} {fa : Addr} (X : K.In h) (G : h.Ns mainGlobals mg) (hfa : mg "answers" = some (.ref fa))
    {f0 : Addr} (F0 : FnAt K "amounts" (top 1) f0)
    {f1 : Addr} (F1 : FnAt K "left_behind" (top 2) f1)
    {f2 : Addr} (F2 : FnAt K "store_cost" (top 3) f2)
    {f3 : Addr} (F3 : FnAt K "plan_cost" (top 4) f3)
    {f4 : Addr} (F4 : FnAt K "span_cost" (top 5) f4)
    {f5 : Addr} (F5 : FnAt K "best_before" (top 6) f5)
    {f6 : Addr} (F6 : FnAt K "best_alone" (top 7) f6)
    {f7 : Addr} (F7 : FnAt K "alone_cost" (top 8) f7)
    {f8 : Addr} (F8 : FnAt K "day_sets" (top 9) f8)
    {f9 : Addr} (F9 : FnAt K "least_plan" (top 10) f9)
    {f10 : Addr} (F10 : FnAt K "greedy_cost" (top 11) f10)
    {f11 : Addr} (F11 : FnAt K "fees_fit" (top 23) f11)
    {f12 : Addr} (F12 : FnAt K "keeping_fits" (top 24) f12)
    {f13 : Addr} (F13 : FnAt K "told_plan" (top 25) f13)
    {f14 : Addr} (F14 : FnAt K "least_now" (top 26) f14)
    {f15 : Addr} (F15 : FnAt K "least_for" (top 27) f15)
    {f16 : Addr} (F16 : FnAt K "cost_of" (top 28) f16)
    {f17 : Addr} (F17 : FnAt K "begin" (top 29) f17)
    {f18 : Addr} (F18 : FnAt K "need_refusal" (top 30) f18)
    {f19 : Addr} (F19 : FnAt K "need" (top 31) f19)
    {f20 : Addr} (F20 : FnAt K "fees" (top 32) f20)
    {f21 : Addr} (F21 : FnAt K "keeping" (top 33) f21)
    {f22 : Addr} (F22 : FnAt K "least" (top 34) f22)
    {f23 : Addr} (F23 : FnAt K "plan" (top 35) f23)
    {f24 : Addr} (F24 : FnAt K "plan_refusal" (top 36) f24)
    {f25 : Addr} (F25 : FnAt K "cost" (top 37) f25)
    {f26 : Addr} (F26 : FnAt K "lies" (top 38) f26)
    {f27 : Addr} (F27 : FnAt K "parts" (top 39) f27)
    {f28 : Addr} (F28 : FnAt K "greedy" (top 40) f28)
    {f29 : Addr} (F29 : FnAt K "alone" (top 41) f29)
    {f30 : Addr} (F30 : FnAt K "would" (top 42) f30)
    {f31 : Addr} (F31 : FnAt K "dear" (top 43) f31)
    {f32 : Addr} (F32 : FnAt K "all_at_first" (top 44) f32)
    {f33 : Addr} (F33 : FnAt K "both" (top 45) f33)
    {f34 : Addr} (F34 : FnAt K "daily" (top 46) f34)
    {f35 : Addr} (F35 : FnAt K "once" (top 47) f35)
    {f36 : Addr} (F36 : FnAt K "together" (top 48) f36)
    {f37 : Addr} (F37 : FnAt K "sums" (top 49) f37)
    {f38 : Addr} (F38 : FnAt K "state" (top 50) f38)
    {fac : Addr} (Fac : FnAt K "answer_call" (top 55) fac) {fan : Addr} (Fan : FnAt K "answers" (top 56) fan)
    {C fI : Addr} {odI anI : Option Addr} {slI : Array (Option Value)} {ocI kVI dcI pmI cdI ctI : Value} (aC : PySem.W.nsIn K mainGlobals "Shop" = some (some (.ref C))) (aI : PySem.W.findIn K (.ref C) "__init__" = some (some (.ref fI))) (iI : PySem.W.isFn K (.ref fI) = true) (lI : K.lookup fI = some ⟨ocI, odI, .func (PySem.W.fnOf "__init__" "Shop.__init__" (defArgs sInit) (defBody sInit) (defScope sInit) .none kVI dcI pmI anI cdI ctI), slI⟩) (cI : PySem.W.codeIn K cdI "Shop.__init__" = true) (kI : PySem.W.keepIn K (.ref fI) = true)
    (pg : PySem.W.plainGet K C Str.empty = true) (hd : PySem.W.hasDictIn K C = true) (po : PySem.W.plainOver K C = true) (sa : PySem.W.findIn K (.ref C) "__setattr__" = some (some (.builtin "object.__setattr__"))) (mk : PySem.W.makesIn K C = true) (kc : PySem.W.keepIn K (.ref C) = true)
    (nN : PySem.W.findIn K (.ref C) "needs" = some none) (nF : PySem.W.findIn K (.ref C) "fee_pair" = some none) (nK : PySem.W.findIn K (.ref C) "keep_pair" = some none)
    (o_len : PySem.W.nsIn K mainGlobals "len" = some none)
    (o_zip : PySem.W.nsIn K mainGlobals "zip" = some none)
    (o_sum : PySem.W.nsIn K mainGlobals "sum" = some none)
    (o_range : PySem.W.nsIn K mainGlobals "range" = some none)
    (o_list : PySem.W.nsIn K mainGlobals "list" = some none)
    (o_any : PySem.W.nsIn K mainGlobals "any" = some none)
    {t_cNone : Tok} (c_cNone : PySem.W.nsIn K mainGlobals "NONE_SUCH" = some (some (.int (-2) t_cNone)))
    {t_cNot : Tok} (c_cNot : PySem.W.nsIn K mainGlobals "NOT_BEGUN" = some (some (.int (-11) t_cNot)))
    {t_cLittle : Tok} (c_cLittle : PySem.W.nsIn K mainGlobals "TOO_LITTLE" = some (some (.int (-12) t_cLittle)))
    {t_cOut : Tok} (c_cOut : PySem.W.nsIn K mainGlobals "OUT_OF_RANGE" = some (some (.int (-22) t_cOut)))
    {t_cDays : Tok} (c_cDays : PySem.W.nsIn K mainGlobals "MOST_DAYS" = some (some (.int (7) t_cDays)))
    {t_cNeeded : Tok} (c_cNeeded : PySem.W.nsIn K mainGlobals "MOST_NEEDED" = some (some (.int (1000) t_cNeeded)))
    {t_cFee : Tok} (c_cFee : PySem.W.nsIn K mainGlobals "MOST_FEE" = some (some (.int (10000) t_cFee)))
    {t_cKeep : Tok} (c_cKeep : PySem.W.nsIn K mainGlobals "MOST_KEEPING" = some (some (.int (100) t_cKeep)))
    {t_cPlan : Tok} (c_cPlan : PySem.W.nsIn K mainGlobals "MOST_IN_PLAN" = some (some (.int (100000) t_cPlan)))
    {t_cBegin : Tok} (c_cBegin : PySem.W.nsIn K mainGlobals "BEGIN" = some (some (.int (0) t_cBegin)))
    {cc : Addr} {odc : Option Addr} {slc : Array (Option Value)} {nc : Nat} (mc : PySem.W.nsIn K mainGlobals "CALLS" = some (some (.ref cc))) (tc : K.lookup cc = some ⟨.type "tuple", odc, .seq #[.ref f17, .ref f19, .ref f20, .ref f21, .ref f22, .ref f23, .ref f25, .ref f26, .ref f27, .ref f28, .ref f29, .ref f30, .ref f31, .ref f33, .ref f34, .ref f35, .ref f36, .ref f37, .ref f38] nc, slc⟩)
    {cs : Addr} {ods : Option Addr} {sls : Array (Option Value)} {ns : Nat} {ts0 ts1 ts2 ts3 ts4 ts5 ts6 ts7 ts8 ts9 ts10 ts11 ts12 ts13 ts14 ts15 ts16 ts17 ts18 : Tok} (ms : PySem.W.nsIn K mainGlobals "SIZES" = some (some (.ref cs))) (ts : K.lookup cs = some ⟨.type "tuple", ods, .seq #[.int 5 ts0, .int 2 ts1, .int 2 ts2, .int 2 ts3, .int 0 ts4, .int 0 ts5, .int 0 ts6, .int 0 ts7, .int 0 ts8, .int 0 ts9, .int 2 ts10, .int 2 ts11, .int 2 ts12, .int 0 ts13, .int 0 ts14, .int 0 ts15, .int 0 ts16, .int 0 ts17, .int 0 ts18] ns, sls⟩)
    {cr : Addr} {odr : Option Addr} {slr : Array (Option Value)} {nr : Nat} {tr0 tr1 tr2 : Tok} (mr : PySem.W.nsIn K mainGlobals "WITH_ROW" = some (some (.ref cr))) (tr : K.lookup cr = some ⟨.type "tuple", odr, .seq #[.int 6 tr0, .int 7 tr1, .int 16 tr2] nr, slr⟩)
    : ∃ fd : FuncData, (∀ (s : Shared) (us : List Value), us.length = (["calls"] : List Str).length → BindsTo s fd ⟨us, []⟩ ((["calls"] : List Str).zip us)) ∧ ∀ base : Heap, K.In base → base.Ns mainGlobals mg → FnOk P w K mg base CX0 9 fa fd ["calls"] (spAns K) := by
  have O : Own mg := ⟨PySem.W.mg_none_of X G o_len, PySem.W.mg_none_of X G o_zip, PySem.W.mg_none_of X G o_sum, PySem.W.mg_none_of X G o_range, PySem.W.mg_none_of X G o_list, PySem.W.mg_none_of X G o_any⟩
  have T : Txt K mg C := ⟨O, ⟨pg, hd, po, sa⟩, nN, nF, nK, PySem.W.mg_of X G aC, ⟨_, PySem.W.mg_of X G c_cNone⟩, ⟨_, PySem.W.mg_of X G c_cNot⟩, ⟨_, PySem.W.mg_of X G c_cLittle⟩, ⟨_, PySem.W.mg_of X G c_cOut⟩, ⟨_, PySem.W.mg_of X G c_cDays⟩, ⟨_, PySem.W.mg_of X G c_cNeeded⟩, ⟨_, PySem.W.mg_of X G c_cFee⟩, ⟨_, PySem.W.mg_of X G c_cKeep⟩, ⟨_, PySem.W.mg_of X G c_cPlan⟩, ⟨_, PySem.W.mg_of X G c_cBegin⟩⟩
  obtain ⟨fd0, G0⟩ := F0.fn
  obtain ⟨fd1, G1⟩ := F1.fn
  obtain ⟨fd2, G2⟩ := F2.fn
  obtain ⟨fd3, G3⟩ := F3.fn
  obtain ⟨fd4, G4⟩ := F4.fn
  obtain ⟨fd5, G5⟩ := F5.fn
  obtain ⟨fd6, G6⟩ := F6.fn
  obtain ⟨fd7, G7⟩ := F7.fn
  obtain ⟨fd8, G8⟩ := F8.fn
  obtain ⟨fd9, G9⟩ := F9.fn
  obtain ⟨fd10, G10⟩ := F10.fn
  obtain ⟨fd11, G11⟩ := F11.fn
  obtain ⟨fd12, G12⟩ := F12.fn
  obtain ⟨fd13, G13⟩ := F13.fn
  obtain ⟨fd14, G14⟩ := F14.fn
  obtain ⟨fd15, G15⟩ := F15.fn
  obtain ⟨fd16, G16⟩ := F16.fn
  obtain ⟨fd17, G17⟩ := F17.fn
  obtain ⟨fd18, G18⟩ := F18.fn
  obtain ⟨fd19, G19⟩ := F19.fn
  obtain ⟨fd20, G20⟩ := F20.fn
  obtain ⟨fd21, G21⟩ := F21.fn
  obtain ⟨fd22, G22⟩ := F22.fn
  obtain ⟨fd23, G23⟩ := F23.fn
  obtain ⟨fd24, G24⟩ := F24.fn
  obtain ⟨fd25, G25⟩ := F25.fn
  obtain ⟨fd26, G26⟩ := F26.fn
  obtain ⟨fd27, G27⟩ := F27.fn
  obtain ⟨fd28, G28⟩ := F28.fn
  obtain ⟨fd29, G29⟩ := F29.fn
  obtain ⟨fd30, G30⟩ := F30.fn
  obtain ⟨fd31, G31⟩ := F31.fn
  obtain ⟨fd32, G32⟩ := F32.fn
  obtain ⟨fd33, G33⟩ := F33.fn
  obtain ⟨fd34, G34⟩ := F34.fn
  obtain ⟨fd35, G35⟩ := F35.fn
  obtain ⟨fd36, G36⟩ := F36.fn
  obtain ⟨fd37, G37⟩ := F37.fn
  obtain ⟨fd38, G38⟩ := F38.fn
  obtain ⟨fdac, Gac⟩ := Fac.fn
  obtain ⟨fdan, Gan⟩ := Fan.fn
  have e := hfa.symm.trans (PySem.W.mg_of X G Fan.a)
  cases e
  have GI := fun_mk (st := sInit) lI cI kI
  have bI := GI.binds (ps := ["self"]) fun _ _ _ _ _ _ us hl => match us, hl with | [_], _ => rfl
  have b0 := G0.binds (ps := ["days", "needs"]) fun _ _ _ _ _ _ us hl => match us, hl with | [_, _], _ => rfl
  have b1 := G1.binds (ps := ["came", "went"]) fun _ _ _ _ _ _ us hl => match us, hl with | [_, _], _ => rfl
  have b2 := G2.binds (ps := ["fee", "keep", "came", "behind"]) fun _ _ _ _ _ _ us hl => match us, hl with | [_, _, _, _], _ => rfl
  have b3 := G3.binds (ps := ["ordered", "brought", "needs", "fees", "keeps"]) fun _ _ _ _ _ _ us hl => match us, hl with | [_, _, _, _, _], _ => rfl
  have b4 := G4.binds (ps := ["day", "end", "needs", "fee", "keep"]) fun _ _ _ _ _ _ us hl => match us, hl with | [_, _, _, _, _], _ => rfl
  have b5 := G5.binds (ps := ["end", "best", "needs", "fee", "keep"]) fun _ _ _ _ _ _ us hl => match us, hl with | [_, _, _, _, _], _ => rfl
  have b6 := G6.binds (ps := ["days", "needs", "fee", "keep"]) fun _ _ _ _ _ _ us hl => match us, hl with | [_, _, _, _], _ => rfl
  have b7 := G7.binds (ps := ["needs", "fee", "keep"]) fun _ _ _ _ _ _ us hl => match us, hl with | [_, _, _], _ => rfl
  have b8 := G8.binds (ps := ["count"]) fun _ _ _ _ _ _ us hl => match us, hl with | [_], _ => rfl
  have b9 := G9.binds (ps := ["needs", "fees", "keeps"]) fun _ _ _ _ _ _ us hl => match us, hl with | [_, _, _], _ => rfl
  have b10 := G10.binds (ps := ["needs", "fees", "keeps"]) fun _ _ _ _ _ _ us hl => match us, hl with | [_, _, _], _ => rfl
  have b11 := G11.binds (ps := ["above", "bringing"]) fun _ _ _ _ _ _ us hl => match us, hl with | [_, _], _ => rfl
  have b12 := G12.binds (ps := ["above", "below"]) fun _ _ _ _ _ _ us hl => match us, hl with | [_, _], _ => rfl
  have b13 := G13.binds (ps := ["shop"]) fun _ _ _ _ _ _ us hl => match us, hl with | [_], _ => rfl
  have b14 := G14.binds (ps := ["shop"]) fun _ _ _ _ _ _ us hl => match us, hl with | [_], _ => rfl
  have b15 := G15.binds (ps := ["shop", "needs"]) fun _ _ _ _ _ _ us hl => match us, hl with | [_, _], _ => rfl
  have b16 := G16.binds (ps := ["shop", "ordered", "brought"]) fun _ _ _ _ _ _ us hl => match us, hl with | [_, _, _], _ => rfl
  have b17 := G17.binds (ps := ["shop", "given"]) fun _ _ _ _ _ _ us hl => match us, hl with | [_, _], _ => rfl
  have b18 := G18.binds (ps := ["shop", "day", "pieces"]) fun _ _ _ _ _ _ us hl => match us, hl with | [_, _, _], _ => rfl
  have b19 := G19.binds (ps := ["shop", "given"]) fun _ _ _ _ _ _ us hl => match us, hl with | [_, _], _ => rfl
  have b20 := G20.binds (ps := ["shop", "given"]) fun _ _ _ _ _ _ us hl => match us, hl with | [_, _], _ => rfl
  have b21 := G21.binds (ps := ["shop", "given"]) fun _ _ _ _ _ _ us hl => match us, hl with | [_, _], _ => rfl
  have b22 := G22.binds (ps := ["shop", "given"]) fun _ _ _ _ _ _ us hl => match us, hl with | [_, _], _ => rfl
  have b23 := G23.binds (ps := ["shop", "given"]) fun _ _ _ _ _ _ us hl => match us, hl with | [_, _], _ => rfl
  have b24 := G24.binds (ps := ["shop", "given"]) fun _ _ _ _ _ _ us hl => match us, hl with | [_, _], _ => rfl
  have b25 := G25.binds (ps := ["shop", "given"]) fun _ _ _ _ _ _ us hl => match us, hl with | [_, _], _ => rfl
  have b26 := G26.binds (ps := ["shop", "given"]) fun _ _ _ _ _ _ us hl => match us, hl with | [_, _], _ => rfl
  have b27 := G27.binds (ps := ["shop", "given"]) fun _ _ _ _ _ _ us hl => match us, hl with | [_, _], _ => rfl
  have b28 := G28.binds (ps := ["shop", "given"]) fun _ _ _ _ _ _ us hl => match us, hl with | [_, _], _ => rfl
  have b29 := G29.binds (ps := ["shop", "given"]) fun _ _ _ _ _ _ us hl => match us, hl with | [_, _], _ => rfl
  have b30 := G30.binds (ps := ["shop", "given"]) fun _ _ _ _ _ _ us hl => match us, hl with | [_, _], _ => rfl
  have b31 := G31.binds (ps := ["shop", "given"]) fun _ _ _ _ _ _ us hl => match us, hl with | [_, _], _ => rfl
  have b32 := G32.binds (ps := ["needs"]) fun _ _ _ _ _ _ us hl => match us, hl with | [_], _ => rfl
  have b33 := G33.binds (ps := ["shop", "given"]) fun _ _ _ _ _ _ us hl => match us, hl with | [_, _], _ => rfl
  have b34 := G34.binds (ps := ["shop", "given"]) fun _ _ _ _ _ _ us hl => match us, hl with | [_, _], _ => rfl
  have b35 := G35.binds (ps := ["shop", "given"]) fun _ _ _ _ _ _ us hl => match us, hl with | [_, _], _ => rfl
  have b36 := G36.binds (ps := ["shop", "given"]) fun _ _ _ _ _ _ us hl => match us, hl with | [_, _], _ => rfl
  have b37 := G37.binds (ps := ["shop", "given"]) fun _ _ _ _ _ _ us hl => match us, hl with | [_, _], _ => rfl
  have b38 := G38.binds (ps := ["shop", "given"]) fun _ _ _ _ _ _ us hl => match us, hl with | [_, _], _ => rfl
  have bac := Gac.binds (ps := ["shop", "number", "given"]) fun _ _ _ _ _ _ us hl => match us, hl with | [_, _, _], _ => rfl
  have ban := Gan.binds (ps := ["calls"]) fun _ _ _ _ _ _ us hl => match us, hl with | [_], _ => rfl
  refine ⟨fdan, fun s us hu => ?bd, fun base _ _ => ?_⟩
  case bd =>
    obtain ⟨oc, od, kV, doc, pm, an, cdv, ct, osl, rfl, lk, hcd⟩ := Gan.ex
    match us, hu with
    | [_], _ => exact .of_eq rfl
  have C0 : Cal P w K mg base 1 "amounts" f0 fd0 ["days", "needs"] (spAmts K) := ⟨ok_amts G0 O, PySem.W.mg_of X G F0.a, G0.kp, b0⟩
  have C1 : Cal P w K mg base 1 "left_behind" f1 fd1 ["came", "went"] (spLeft K) := ⟨ok_left G1 O, PySem.W.mg_of X G F1.a, G1.kp, b1⟩
  have C2 : Cal P w K mg base 1 "store_cost" f2 fd2 ["fee", "keep", "came", "behind"] (spStore K) := ⟨ok_store G2 O, PySem.W.mg_of X G F2.a, G2.kp, b2⟩
  have C3 : Cal P w K mg base 2 "plan_cost" f3 fd3 ["ordered", "brought", "needs", "fees", "keeps"] (spPCost K) := ⟨ok_pcost G3 O C1 C2, PySem.W.mg_of X G F3.a, G3.kp, b3⟩
  have C4 : Cal P w K mg base 1 "span_cost" f4 fd4 ["day", "end", "needs", "fee", "keep"] (spSpan K) := ⟨ok_span G4 O, PySem.W.mg_of X G F4.a, G4.kp, b4⟩
  have C5 : Cal P w K mg base 2 "best_before" f5 fd5 ["end", "best", "needs", "fee", "keep"] (spBefore K) := ⟨ok_before G5 O C4.ok C4.m C4.kp C4.b, PySem.W.mg_of X G F5.a, G5.kp, b5⟩
  have C6 : Cal P w K mg base 3 "best_alone" f6 fd6 ["days", "needs", "fee", "keep"] (spAlone K) := ⟨ok_alone G6 O C5.ok C5.m C5.kp C5.b, PySem.W.mg_of X G F6.a, G6.kp, b6⟩
  have C7 : Cal P w K mg base 4 "alone_cost" f7 fd7 ["needs", "fee", "keep"] (spACost K) := ⟨ok_acost G7 O C6.ok C6.m C6.kp C6.b, PySem.W.mg_of X G F7.a, G7.kp, b7⟩
  have C8 : Cal P w K mg base 1 "day_sets" f8 fd8 ["count"] (spSets) := ⟨ok_sets G8 O, PySem.W.mg_of X G F8.a, G8.kp, b8⟩
  have C9 : Cal P w K mg base 4 "least_plan" f9 fd9 ["needs", "fees", "keeps"] (spLeast K) := ⟨ok_least G9 O C8 C0 C1 C6 C2, PySem.W.mg_of X G F9.a, G9.kp, b9⟩
  have C10 : Cal P w K mg base 5 "greedy_cost" f10 fd10 ["needs", "fees", "keeps"] (spGreedy K) := ⟨ok_greedy G10 O C0 C6 C7, PySem.W.mg_of X G F10.a, G10.kp, b10⟩
  have C11 : Cal P w K mg base 1 "fees_fit" f11 fd11 ["above", "bringing"] (spFit) := ⟨ok_fit G11 T, PySem.W.mg_of X G F11.a, G11.kp, b11⟩
  have C12 : Cal P w K mg base 1 "keeping_fits" f12 fd12 ["above", "below"] (spKFit) := ⟨ok_kfit G12 T, PySem.W.mg_of X G F12.a, G12.kp, b12⟩
  have C13 : Cal P w K mg base 5 "told_plan" f13 fd13 ["shop"] (spTold C) := ⟨ok_told G13 T C9, PySem.W.mg_of X G F13.a, G13.kp, b13⟩
  have C14 : Cal P w K mg base 6 "least_now" f14 fd14 ["shop"] (spNow C) := ⟨ok_now G14 T C13, PySem.W.mg_of X G F14.a, G14.kp, b14⟩
  have C15 : Cal P w K mg base 5 "least_for" f15 fd15 ["shop", "needs"] (spFor K C) := ⟨ok_for G15 T C9, PySem.W.mg_of X G F15.a, G15.kp, b15⟩
  have C16 : Cal P w K mg base 3 "cost_of" f16 fd16 ["shop", "ordered", "brought"] (spCof K C) := ⟨ok_cof G16 T C3, PySem.W.mg_of X G F16.a, G16.kp, b16⟩
  have C17 : Cal P w K mg base 2 "begin" f17 fd17 ["shop", "given"] (spCall C 0) := ⟨ok_begin G17 T C11 C12, PySem.W.mg_of X G F17.a, G17.kp, b17⟩
  have C18 : Cal P w K mg base 1 "need_refusal" f18 fd18 ["shop", "day", "pieces"] (spNRef C) := ⟨ok_nref G18 T, PySem.W.mg_of X G F18.a, G18.kp, b18⟩
  have C19 : Cal P w K mg base 2 "need" f19 fd19 ["shop", "given"] (spCall C 1) := ⟨ok_need G19 T C18, PySem.W.mg_of X G F19.a, G19.kp, b19⟩
  have C20 : Cal P w K mg base 2 "fees" f20 fd20 ["shop", "given"] (spCall C 2) := ⟨ok_fees G20 T C11, PySem.W.mg_of X G F20.a, G20.kp, b20⟩
  have C21 : Cal P w K mg base 2 "keeping" f21 fd21 ["shop", "given"] (spCall C 3) := ⟨ok_keeping G21 T C12, PySem.W.mg_of X G F21.a, G21.kp, b21⟩
  have C22 : Cal P w K mg base 7 "least" f22 fd22 ["shop", "given"] (spCall C 4) := ⟨ok_lst G22 T C14, PySem.W.mg_of X G F22.a, G22.kp, b22⟩
  have C23 : Cal P w K mg base 6 "plan" f23 fd23 ["shop", "given"] (spCall C 5) := ⟨ok_plan G23 T C13, PySem.W.mg_of X G F23.a, G23.kp, b23⟩
  have C24 : Cal P w K mg base 2 "plan_refusal" f24 fd24 ["shop", "given"] (spRef C) := ⟨ok_ref G24 T C1, PySem.W.mg_of X G F24.a, G24.kp, b24⟩
  have C25 : Cal P w K mg base 7 "cost" f25 fd25 ["shop", "given"] (spCall C 6) := ⟨ok_cost G25 T C24 C16 C14, PySem.W.mg_of X G F25.a, G25.kp, b25⟩
  have C26 : Cal P w K mg base 6 "lies" f26 fd26 ["shop", "given"] (spCall C 7) := ⟨ok_lies G26 T C24 C1, PySem.W.mg_of X G F26.a, G26.kp, b26⟩
  have C27 : Cal P w K mg base 6 "parts" f27 fd27 ["shop", "given"] (spCall C 8) := ⟨ok_parts G27 T C7, PySem.W.mg_of X G F27.a, G27.kp, b27⟩
  have C28 : Cal P w K mg base 7 "greedy" f28 fd28 ["shop", "given"] (spCall C 9) := ⟨ok_gr G28 T C10 C14, PySem.W.mg_of X G F28.a, G28.kp, b28⟩
  have C29 : Cal P w K mg base 5 "alone" f29 fd29 ["shop", "given"] (spCall C 10) := ⟨ok_aln G29 T C7, PySem.W.mg_of X G F29.a, G29.kp, b29⟩
  have C30 : Cal P w K mg base 7 "would" f30 fd30 ["shop", "given"] (spCall C 11) := ⟨ok_wld G30 T C18 C15 C14, PySem.W.mg_of X G F30.a, G30.kp, b30⟩
  have C31 : Cal P w K mg base 7 "dear" f31 fd31 ["shop", "given"] (spCall C 12) := ⟨ok_dear G31 T C11 C9 C14, PySem.W.mg_of X G F31.a, G31.kp, b31⟩
  have C32 : Cal P w K mg base 2 "all_at_first" f32 fd32 ["needs"] (spFst K) := ⟨ok_fst G32 T C0, PySem.W.mg_of X G F32.a, G32.kp, b32⟩
  have C33 : Cal P w K mg base 4 "both" f33 fd33 ["shop", "given"] (spCall C 13) := ⟨ok_both G33 T C16, PySem.W.mg_of X G F33.a, G33.kp, b33⟩
  have C34 : Cal P w K mg base 4 "daily" f34 fd34 ["shop", "given"] (spCall C 14) := ⟨ok_daily G34 T C16 C32, PySem.W.mg_of X G F34.a, G34.kp, b34⟩
  have C35 : Cal P w K mg base 4 "once" f35 fd35 ["shop", "given"] (spCall C 15) := ⟨ok_once G35 T C16 C32, PySem.W.mg_of X G F35.a, G35.kp, b35⟩
  have C36 : Cal P w K mg base 7 "together" f36 fd36 ["shop", "given"] (spCall C 16) := ⟨ok_tog G36 T C15 C14, PySem.W.mg_of X G F36.a, G36.kp, b36⟩
  have C37 : Cal P w K mg base 1 "sums" f37 fd37 ["shop", "given"] (spCall C 17) := ⟨ok_sums G37 T, PySem.W.mg_of X G F37.a, G37.kp, b37⟩
  have C38 : Cal P w K mg base 1 "state" f38 fd38 ["shop", "given"] (spCall C 18) := ⟨ok_state G38 T, PySem.W.mg_of X G F38.a, G38.kp, b38⟩
  have B : Tab P w K mg base C cc cs cr [f17, f19, f20, f21, f22, f23, f25, f26, f27, f28, f29, f30, f31, f33, f34, f35, f36, f37, f38] := by
    refine ⟨PySem.W.mg_of X G mc, fun H => tup_refs (n := nc) tc (by show 19 ≤ 100; decide) H, rfl, fun p f hp => ?_, PySem.W.mg_of X G ms, fun H => tup_ints ts (by show 19 ≤ 100; decide) (.cons ⟨_, rfl⟩ (.cons ⟨_, rfl⟩ (.cons ⟨_, rfl⟩ (.cons ⟨_, rfl⟩ (.cons ⟨_, rfl⟩ (.cons ⟨_, rfl⟩ (.cons ⟨_, rfl⟩ (.cons ⟨_, rfl⟩ (.cons ⟨_, rfl⟩ (.cons ⟨_, rfl⟩ (.cons ⟨_, rfl⟩ (.cons ⟨_, rfl⟩ (.cons ⟨_, rfl⟩ (.cons ⟨_, rfl⟩ (.cons ⟨_, rfl⟩ (.cons ⟨_, rfl⟩ (.cons ⟨_, rfl⟩ (.cons ⟨_, rfl⟩ (.cons ⟨_, rfl⟩ .nil))))))))))))))))))) H, PySem.W.mg_of X G mr, fun H => tup_ints tr (by show 3 ≤ 100; decide) (.cons ⟨_, rfl⟩ (.cons ⟨_, rfl⟩ (.cons ⟨_, rfl⟩ .nil))) H⟩
    match p, hp with
    | 0, hp => cases hp; exact ⟨fd17, C17.ok.mono (by decide), C17.kp, C17.b⟩
    | 1, hp => cases hp; exact ⟨fd19, C19.ok.mono (by decide), C19.kp, C19.b⟩
    | 2, hp => cases hp; exact ⟨fd20, C20.ok.mono (by decide), C20.kp, C20.b⟩
    | 3, hp => cases hp; exact ⟨fd21, C21.ok.mono (by decide), C21.kp, C21.b⟩
    | 4, hp => cases hp; exact ⟨fd22, C22.ok.mono (by decide), C22.kp, C22.b⟩
    | 5, hp => cases hp; exact ⟨fd23, C23.ok.mono (by decide), C23.kp, C23.b⟩
    | 6, hp => cases hp; exact ⟨fd25, C25.ok.mono (by decide), C25.kp, C25.b⟩
    | 7, hp => cases hp; exact ⟨fd26, C26.ok.mono (by decide), C26.kp, C26.b⟩
    | 8, hp => cases hp; exact ⟨fd27, C27.ok.mono (by decide), C27.kp, C27.b⟩
    | 9, hp => cases hp; exact ⟨fd28, C28.ok.mono (by decide), C28.kp, C28.b⟩
    | 10, hp => cases hp; exact ⟨fd29, C29.ok.mono (by decide), C29.kp, C29.b⟩
    | 11, hp => cases hp; exact ⟨fd30, C30.ok.mono (by decide), C30.kp, C30.b⟩
    | 12, hp => cases hp; exact ⟨fd31, C31.ok.mono (by decide), C31.kp, C31.b⟩
    | 13, hp => cases hp; exact ⟨fd33, C33.ok.mono (by decide), C33.kp, C33.b⟩
    | 14, hp => cases hp; exact ⟨fd34, C34.ok.mono (by decide), C34.kp, C34.b⟩
    | 15, hp => cases hp; exact ⟨fd35, C35.ok.mono (by decide), C35.kp, C35.b⟩
    | 16, hp => cases hp; exact ⟨fd36, C36.ok.mono (by decide), C36.kp, C36.b⟩
    | 17, hp => cases hp; exact ⟨fd37, C37.ok.mono (by decide), C37.kp, C37.b⟩
    | 18, hp => cases hp; exact ⟨fd38, C38.ok.mono (by decide), C38.kp, C38.b⟩
    | p + 19, hp => simp at hp
  have Cac : Cal P w K mg base 8 "answer_call" fac fdac ["shop", "number", "given"] (spAC C) := ⟨ok_ac Gac T B, PySem.W.mg_of X G Fac.a, Gac.kp, bac⟩
  exact ok_ans Gan T ⟨mk, aI, iI, kc⟩ (ok_init GI T) bI Cac B.ms B.ts B.mr B.tr
theorem inInt_nn {x : Int} (h : Codec.inInt 0 4294967295 x = true) : 0 ≤ x := (Codec.inInt_iff.mp h).1
end TS
end
open PySem PySem.W PyProof.Rows
set_option maxRecDepth 100000 in
set_option maxHeartbeats 0 in
theorem PySem.Challenge.cw_twostores_s01_answers_holds : PySem.Challenge.rw_twostores_s01_answers.Holds := by
  w_on; k_headS; (case hw => exact ⟨[.list [.int 4]], by decide +kernel, by decide +kernel⟩)
  k_fillS
  refine L2.walk_specK (r := PySem.Challenge.rw_twostores_s01_answers) (k := 9) (CX := L2.CX0) (ps := ["calls"]) (sp := TS.spAns) (by decide +kernel) rfl rfl ⟨rfl, by decide, by decide⟩ (fun w h Y => PySem.W.kIn_of Y) ?F ?S (fun _ _ _ _ z => z)
  case F =>
    intro w mg fa h Y KX G hmg
    refine' TS.all_mk KX G hmg (TS.fn_mk ?za0 ?zl0 ?zc0 ?zk0) (TS.fn_mk ?za1 ?zl1 ?zc1 ?zk1) (TS.fn_mk ?za2 ?zl2 ?zc2 ?zk2) (TS.fn_mk ?za3 ?zl3 ?zc3 ?zk3) (TS.fn_mk ?za4 ?zl4 ?zc4 ?zk4) (TS.fn_mk ?za5 ?zl5 ?zc5 ?zk5) (TS.fn_mk ?za6 ?zl6 ?zc6 ?zk6) (TS.fn_mk ?za7 ?zl7 ?zc7 ?zk7) (TS.fn_mk ?za8 ?zl8 ?zc8 ?zk8) (TS.fn_mk ?za9 ?zl9 ?zc9 ?zk9) (TS.fn_mk ?za10 ?zl10 ?zc10 ?zk10) (TS.fn_mk ?za11 ?zl11 ?zc11 ?zk11) (TS.fn_mk ?za12 ?zl12 ?zc12 ?zk12) (TS.fn_mk ?za13 ?zl13 ?zc13 ?zk13) (TS.fn_mk ?za14 ?zl14 ?zc14 ?zk14) (TS.fn_mk ?za15 ?zl15 ?zc15 ?zk15) (TS.fn_mk ?za16 ?zl16 ?zc16 ?zk16) (TS.fn_mk ?za17 ?zl17 ?zc17 ?zk17) (TS.fn_mk ?za18 ?zl18 ?zc18 ?zk18) (TS.fn_mk ?za19 ?zl19 ?zc19 ?zk19) (TS.fn_mk ?za20 ?zl20 ?zc20 ?zk20) (TS.fn_mk ?za21 ?zl21 ?zc21 ?zk21) (TS.fn_mk ?za22 ?zl22 ?zc22 ?zk22) (TS.fn_mk ?za23 ?zl23 ?zc23 ?zk23) (TS.fn_mk ?za24 ?zl24 ?zc24 ?zk24) (TS.fn_mk ?za25 ?zl25 ?zc25 ?zk25) (TS.fn_mk ?za26 ?zl26 ?zc26 ?zk26) (TS.fn_mk ?za27 ?zl27 ?zc27 ?zk27) (TS.fn_mk ?za28 ?zl28 ?zc28 ?zk28) (TS.fn_mk ?za29 ?zl29 ?zc29 ?zk29) (TS.fn_mk ?za30 ?zl30 ?zc30 ?zk30) (TS.fn_mk ?za31 ?zl31 ?zc31 ?zk31) (TS.fn_mk ?za32 ?zl32 ?zc32 ?zk32) (TS.fn_mk ?za33 ?zl33 ?zc33 ?zk33) (TS.fn_mk ?za34 ?zl34 ?zc34 ?zk34) (TS.fn_mk ?za35 ?zl35 ?zc35 ?zk35) (TS.fn_mk ?za36 ?zl36 ?zc36 ?zk36) (TS.fn_mk ?za37 ?zl37 ?zc37 ?zk37) (TS.fn_mk ?za38 ?zl38 ?zc38 ?zk38) (TS.fn_mk ?zaac ?zlac ?zcac ?zkac) (TS.fn_mk ?zaan ?zlan ?zcan ?zkan) ?yaC ?yaI ?yiI ?ylI ?ycI ?ykI ?ypg ?yhd ?ypo ?ysa ?ymk ?ykc ?ynN ?ynF ?ynK ?yo_len ?yo_zip ?yo_sum ?yo_range ?yo_list ?yo_any ?yc_cNone ?yc_cNot ?yc_cLittle ?yc_cOut ?yc_cDays ?yc_cNeeded ?yc_cFee ?yc_cKeep ?yc_cPlan ?yc_cBegin ?ymc ?ytc ?yms ?yts ?ymr ?ytr
    (case za0 => k_is)
    (case zl0 => k_is)
    (case zc0 => k_is)
    (case zk0 => k_is)
    (case za1 => k_is)
    (case zl1 => k_is)
    (case zc1 => k_is)
    (case zk1 => k_is)
    (case za2 => k_is)
    (case zl2 => k_is)
    (case zc2 => k_is)
    (case zk2 => k_is)
    (case za3 => k_is)
    (case zl3 => k_is)
    (case zc3 => k_is)
    (case zk3 => k_is)
    (case za4 => k_is)
    (case zl4 => k_is)
    (case zc4 => k_is)
    (case zk4 => k_is)
    (case za5 => k_is)
    (case zl5 => k_is)
    (case zc5 => k_is)
    (case zk5 => k_is)
    (case za6 => k_is)
    (case zl6 => k_is)
    (case zc6 => k_is)
    (case zk6 => k_is)
    (case za7 => k_is)
    (case zl7 => k_is)
    (case zc7 => k_is)
    (case zk7 => k_is)
    (case za8 => k_is)
    (case zl8 => k_is)
    (case zc8 => k_is)
    (case zk8 => k_is)
    (case za9 => k_is)
    (case zl9 => k_is)
    (case zc9 => k_is)
    (case zk9 => k_is)
    (case za10 => k_is)
    (case zl10 => k_is)
    (case zc10 => k_is)
    (case zk10 => k_is)
    (case za11 => k_is)
    (case zl11 => k_is)
    (case zc11 => k_is)
    (case zk11 => k_is)
    (case za12 => k_is)
    (case zl12 => k_is)
    (case zc12 => k_is)
    (case zk12 => k_is)
    (case za13 => k_is)
    (case zl13 => k_is)
    (case zc13 => k_is)
    (case zk13 => k_is)
    (case za14 => k_is)
    (case zl14 => k_is)
    (case zc14 => k_is)
    (case zk14 => k_is)
    (case za15 => k_is)
    (case zl15 => k_is)
    (case zc15 => k_is)
    (case zk15 => k_is)
    (case za16 => k_is)
    (case zl16 => k_is)
    (case zc16 => k_is)
    (case zk16 => k_is)
    (case za17 => k_is)
    (case zl17 => k_is)
    (case zc17 => k_is)
    (case zk17 => k_is)
    (case za18 => k_is)
    (case zl18 => k_is)
    (case zc18 => k_is)
    (case zk18 => k_is)
    (case za19 => k_is)
    (case zl19 => k_is)
    (case zc19 => k_is)
    (case zk19 => k_is)
    (case za20 => k_is)
    (case zl20 => k_is)
    (case zc20 => k_is)
    (case zk20 => k_is)
    (case za21 => k_is)
    (case zl21 => k_is)
    (case zc21 => k_is)
    (case zk21 => k_is)
    (case za22 => k_is)
    (case zl22 => k_is)
    (case zc22 => k_is)
    (case zk22 => k_is)
    (case za23 => k_is)
    (case zl23 => k_is)
    (case zc23 => k_is)
    (case zk23 => k_is)
    (case za24 => k_is)
    (case zl24 => k_is)
    (case zc24 => k_is)
    (case zk24 => k_is)
    (case za25 => k_is)
    (case zl25 => k_is)
    (case zc25 => k_is)
    (case zk25 => k_is)
    (case za26 => k_is)
    (case zl26 => k_is)
    (case zc26 => k_is)
    (case zk26 => k_is)
    (case za27 => k_is)
    (case zl27 => k_is)
    (case zc27 => k_is)
    (case zk27 => k_is)
    (case za28 => k_is)
    (case zl28 => k_is)
    (case zc28 => k_is)
    (case zk28 => k_is)
    (case za29 => k_is)
    (case zl29 => k_is)
    (case zc29 => k_is)
    (case zk29 => k_is)
    (case za30 => k_is)
    (case zl30 => k_is)
    (case zc30 => k_is)
    (case zk30 => k_is)
    (case za31 => k_is)
    (case zl31 => k_is)
    (case zc31 => k_is)
    (case zk31 => k_is)
    (case za32 => k_is)
    (case zl32 => k_is)
    (case zc32 => k_is)
    (case zk32 => k_is)
    (case za33 => k_is)
    (case zl33 => k_is)
    (case zc33 => k_is)
    (case zk33 => k_is)
    (case za34 => k_is)
    (case zl34 => k_is)
    (case zc34 => k_is)
    (case zk34 => k_is)
    (case za35 => k_is)
    (case zl35 => k_is)
    (case zc35 => k_is)
    (case zk35 => k_is)
    (case za36 => k_is)
    (case zl36 => k_is)
    (case zc36 => k_is)
    (case zk36 => k_is)
    (case za37 => k_is)
    (case zl37 => k_is)
    (case zc37 => k_is)
    (case zk37 => k_is)
    (case za38 => k_is)
    (case zl38 => k_is)
    (case zc38 => k_is)
    (case zk38 => k_is)
    (case zaac => k_is)
    (case zlac => k_is)
    (case zcac => k_is)
    (case zkac => k_is)
    (case zaan => k_is)
    (case zlan => k_is)
    (case zcan => k_is)
    (case zkan => k_is)
    (case yaC => k_is)
    (case yaI => k_is)
    (case yiI => k_is)
    (case ylI => k_is)
    (case ycI => k_is)
    (case ykI => k_is)
    (case ypg => k_is)
    (case yhd => k_is)
    (case ypo => k_is)
    (case ysa => k_is)
    (case ymk => k_is)
    (case ykc => k_is)
    (case ynN => k_is)
    (case ynF => k_is)
    (case ynK => k_is)
    (case yo_len => k_is)
    (case yo_zip => k_is)
    (case yo_sum => k_is)
    (case yo_range => k_is)
    (case yo_list => k_is)
    (case yo_any => k_is)
    (case yc_cNone => k_is)
    (case yc_cNot => k_is)
    (case yc_cLittle => k_is)
    (case yc_cOut => k_is)
    (case yc_cDays => k_is)
    (case yc_cNeeded => k_is)
    (case yc_cFee => k_is)
    (case yc_cKeep => k_is)
    (case yc_cPlan => k_is)
    (case yc_cBegin => k_is)
    (case ymc => k_is)
    (case ytc => k_is)
    (case yms => k_is)
    (case yts => k_is)
    (case ymr => k_is)
    (case ytr => k_is)
  case S =>
    intro K H xs a hO hwi hask hx
    cases hx with
    | cons h1 h2 =>
      cases h2
      cases h1 with
      | lst hs ha =>
        have e := L2.ints_dw a.1 _ ha
        subst e
        have q : ((Codec.inLen 0 9000 a.1 && a.1.all (Codec.inInt 0 4294967295)) && true) = true := hwi
        rw [Bool.and_eq_true, Bool.and_eq_true] at q
        obtain ⟨nl, en⟩ := TS.nats_of (l := a.1) fun x hx => by
          have := List.all_eq_true.mp q.1.2 x hx
          exact TS.inInt_nn this
        have hm : a.1.map L2.V.int = TS.nv nl := by rw [en, TS.nv_iv]
        have hl : nl.length ≤ 9000 := by
          have := (Codec.inNat_iff.mp q.1.1).2
          rw [en, List.length_map] at this
          exact this
        have hask2 : PySu88.answers_asked (TS.iv nl) = true := by
          have : PySu88.answers_asked a.1 = true := hask
          rw [en] at this
          exact this
        refine ⟨_, nl, rfl, by rw [← hm]; exact hs, hl, hask2, fun H' p hp => ?_⟩
        have hp : H' p = some (.lst ((PySu88.answers a.1).map L2.V.int)) := by rw [hp, en]
        exact .lst (L2.SqL.of hp) (L2.dw_ints _)
