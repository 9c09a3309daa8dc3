import PyProof.Rows.All
import Wide.All
import OpenK.AllK
import Wide.FinOn
import PyProof.EqAt
import PyProof.EqKinds
import PyProof.TupleCall
import KE.BitLaws
import KE.OsGo
import KE.OsEnd
import PySem.Challenge.RW_walktree_s01_answers
set_option Elab.async false
set_option linter.all false
set_option maxRecDepth 100000
namespace L2
open PySem PySem.Spec PyProof.Rows
abbrev Key := Sum Int Str
def keyIs : Key → Value → Bool
  | .inl k, v => Value.isInt k v
  | .inr x, v => Value.isStrOf x v
def keyH (w : World) : Key → Int
  | .inl k => hashInt k
  | .inr x => hashStr w x
theorem keyIs_shape : ∀ {k : Key} {v : Value}, keyIs k v = true → (∃ i t, k = Sum.inl i ∧ v = Value.int i t) ∨ (∃ x t, k = Sum.inr x ∧ v = Value.str x t)
  | .inl i, v, h => by
    obtain ⟨t, e⟩ := Value.isInt_shape (k := i) (v := v) h
    exact .inl ⟨i, t, rfl, e⟩
  | .inr x, v, h => by
    obtain ⟨t, e⟩ := Value.isStrOf_shape (x := x) (v := v) h
    exact .inr ⟨x, t, rfl, e⟩
theorem keyIs_int (i : Int) (t : Tok) : keyIs (.inl i) (.int i t) = true := by simp [keyIs, Value.isInt]
theorem keyIs_str (x : Str) (t : Tok) : keyIs (.inr x) (.str x t) = true := by simp [keyIs, Value.isStrOf]
theorem key_ll (a b : Int) : decide ((Sum.inl a : Key) = Sum.inl b) = (a == b) := by
  by_cases e : a = b
  · subst e; simp
  · have h : ¬ (Sum.inl a : Key) = Sum.inl b := fun q => e (Sum.inl.inj q)
    rw [decide_eq_false h]
    exact (beq_eq_false_iff_ne.mpr e).symm
theorem key_rr (a b : Str) : decide ((Sum.inr a : Key) = Sum.inr b) = decide (a = b) := by
  by_cases e : a = b
  · subst e; simp
  · have h : ¬ (Sum.inr a : Key) = Sum.inr b := fun q => e (Sum.inr.inj q)
    rw [decide_eq_false h, decide_eq_false e]
theorem key_lr (a : Int) (b : Str) : decide ((Sum.inl a : Key) = Sum.inr b) = false := decide_eq_false (fun q => nomatch q)
theorem key_rl (a : Str) (b : Int) : decide ((Sum.inr a : Key) = Sum.inl b) = false := decide_eq_false (fun q => nomatch q)
def mixKind (prog : Program) (w : World) : PySem.KeyKind prog w Key where
  is := keyIs
  hash := keyH w
  inj := fun v a b ha hb => by
    rcases keyIs_shape ha with ⟨i, t, rfl, rfl⟩ | ⟨x, t, rfl, rfl⟩
    · rcases keyIs_shape hb with ⟨j, u, rfl, e⟩ | ⟨y, u, rfl, e⟩
      · injection e with e1 _; rw [e1]
      · exact nomatch e
    · rcases keyIs_shape hb with ⟨j, u, rfl, e⟩ | ⟨y, u, rfl, e⟩
      · exact nomatch e
      · injection e with e1 _; rw [e1]
  byValue := fun k v h => by
    rcases keyIs_shape h with ⟨i, t, rfl, rfl⟩ | ⟨x, t, rfl, rfl⟩ <;> rfl
  pyHash := fun hv h => by
    rcases keyIs_shape hv with ⟨i, t, rfl, rfl⟩ | ⟨x, t, rfl, rfl⟩
    · exact wpAny_pyHash_int h
    · exact wpAny_pyHash_str h
  eqBool := fun hu hv h => by
    rcases keyIs_shape hu with ⟨i, t, rfl, rfl⟩ | ⟨x, t, rfl, rfl⟩
    · rcases keyIs_shape hv with ⟨j, u, rfl, rfl⟩ | ⟨y, u, rfl, rfl⟩
      · rw [key_ll] at h; exact wpAny_eqBool_int h
      · rw [key_lr] at h; exact SeqAt.EqAt.int_str i t y u _ _ _ _ h
    · rcases keyIs_shape hv with ⟨j, u, rfl, rfl⟩ | ⟨y, u, rfl, rfl⟩
      · rw [key_rl] at h; exact SeqAt.EqAt.str_int x t j u _ _ _ _ h
      · rw [key_rr] at h; exact wpAny_eqBool_str h
  «strs» := fun k x t v h => by
    rcases keyIs_shape h with ⟨i, u, rfl, e⟩ | ⟨y, u, rfl, e⟩
    · exact nomatch e
    · injection e with e1 _
      subst e1
      cases v <;> rfl
theorem mixKind_int (prog : Program) (w : World) (i : Int) (t : Tok) : (mixKind prog w).is (.inl i) (.int i t) = true := keyIs_int i t
theorem mixKind_str (prog : Program) (w : World) (x : Str) (t : Tok) : (mixKind prog w).is (.inr x) (.str x t) = true := keyIs_str x t
end L2
namespace L2
open PySem PySem.Spec PyProof.Rows
inductive V where
  | non | bl (b : Bool) | int (i : Int) | str (x : Str) | byt (b : Array UInt8) | flt (b : UInt64) | ref (a : Addr) | ty (n : String)
  deriving DecidableEq
def RelV : V → Value → Prop
  | .non, u => u = Value.none
  | .bl b, u => u = Value.bool b
  | .int i, u => ∃ t, u = Value.int i t
  | .str x, u => ∃ t, u = Value.str x t
  | .byt b, u => ∃ t, u = Value.bytes b t
  | .flt b, u => ∃ t, u = Value.float b t
  | .ref a, u => u = Value.ref a
  | .ty n, u => u = Value.type n
abbrev Vals : List V → List Value → Prop := Paired RelV
theorem Vals.length {xs : List V} {us : List Value} (r : Vals xs us) : xs.length = us.length := Paired.length r
theorem Vals.get : ∀ {xs : List V} {us : List Value} {i : Nat} {x : V}, Vals xs us → xs[i]? = some x → ∃ u, us[i]? = some u ∧ RelV x u
  | _, _, _, _, .nil, e => by simp at e
  | _, _, 0, _, .cons r _, e => by simp at e; subst e; exact ⟨_, rfl, r⟩
  | _, _, i + 1, x, .cons _ t, e => by
    obtain ⟨u, h1, h2⟩ := Vals.get (i := i) (x := x) t (by simpa using e)
    exact ⟨u, by simpa using h1, h2⟩
theorem Vals.set {x : V} {u : Value} (r : RelV x u) : ∀ {xs : List V} {us : List Value} (i : Nat), Vals xs us → Vals (xs.set i x) (us.set i u)
  | _, _, _, .nil => .nil
  | _, _, 0, .cons _ t => .cons r t
  | _, _, i + 1, .cons q t => .cons q (Vals.set r i t)
theorem Vals.append : ∀ {xs ys : List V} {us ws : List Value}, Vals xs us → Vals ys ws → Vals (xs ++ ys) (us ++ ws)
  | _, _, _, _, .nil, s => s
  | _, _, _, _, .cons r t, s => .cons r (Vals.append t s)
theorem Vals.take : ∀ {xs : List V} {us : List Value} (n : Nat), Vals xs us → Vals (xs.take n) (us.take n)
  | _, _, 0, _ => .nil
  | _, _, _ + 1, .nil => .nil
  | _, _, n + 1, .cons r t => .cons r (Vals.take n t)
theorem Vals.drop : ∀ {xs : List V} {us : List Value} (n : Nat), Vals xs us → Vals (xs.drop n) (us.drop n)
  | _, _, 0, r => r
  | _, _, _ + 1, .nil => .nil
  | _, _, n + 1, .cons _ t => Vals.drop n t
def RelO : Option V → Option Value → Prop
  | some v, some u => RelV v u
  | none, none => True
  | _, _ => False
def KV {κ : Type} : List (κ × V) → List (κ × Value) → Prop := Paired fun (p : κ × V) (q : κ × Value) => p.1 = q.1 ∧ RelV p.2 q.2
def kV : Key → V
  | .inl i => .int i
  | .inr x => .str x
inductive HO where
  /-- a list -/
  | lst (xs : List V)
  /-- a tuple (never changes) -/
  | tup (xs : List V)
  /-- a dict whose keys are ints and texts; one whose keys are tuples of ints and texts (the empty one is both) -/
  | dK (kvs : List (Key × V)) | dT (kvs : List (List Key × V))
  /-- a set of ints: its members, its size -/
  | set (S : Int → Bool) (n : Nat)
  /-- an instance of the class at C, its dict at dx, its attributes -/
  | ins (C dx : Addr) (fs : List (Str × V))
  /-- the dict of the instance at x -/
  | own (x : Addr)
  /-- the dict of an exception -/
  | xd (fs : List (Str × V))
  /-- a bound method, f of x -/
  | met (f x : Addr)
  /-- a range object lo, lo + 1, .. below hi -/
  | rng (lo hi : Int)
  /-- a thing that is known to the object (the script; a dict while a loop walks it): read, never written while it is so -/
  | frz (o : Obj) (u : HO)
  /-- a code object's table -/
  | tbl (ps : Array Value)
  /-- any other thing, by what is true of its one object (a def of one's own: SetO a S n := HO.ext fun h => ..) -/
  | ext (φ : Heap → Prop)
abbrev Hp := Addr → Option HO
def upd (H : Hp) (a : Addr) (o : HO) : Hp := fun b => if b = a then some o else H b
theorem upd_same {H : Hp} {a : Addr} {o : HO} : upd H a o a = some o := by unfold upd; rw [if_pos rfl]
theorem upd_ne {H : Hp} {a b : Addr} {o : HO} (h : b ≠ a) : upd H a o b = H b := by unfold upd; rw [if_neg h]
theorem upd_upd {H : Hp} {a : Addr} {o u : HO} : upd (upd H a o) a u = upd H a u := by
  funext b; unfold upd; split <;> rfl
theorem ne_of {H : Hp} {a b : Addr} {o u : HO} (h : H a = some o) (h' : H b = some u) (d : o ≠ u) : a ≠ b := by
  intro e; subst e; rw [h] at h'; exact d (Option.some.inj h')
theorem ne_of_none {H : Hp} {a b : Addr} {o : HO} (h : H a = some o) (h' : H b = none) : a ≠ b := by
  intro e; subst e; rw [h] at h'; cases h'
section
variable (P : Program) (w : World)
def ObjOk (H : Hp) (h : Heap) (a : Addr) : HO → Prop
  | .lst xs => xs.length ≤ sizeLine ∧ ∃ (its : List Value) (n : Nat), Vals xs its ∧ h.get? a = some { cls := .type "list", data := .seq its.toArray n }
  | .tup xs => xs.length ≤ sizeLine ∧ ∃ its : List Value, Vals xs its ∧ IsTup h a its.toArray
  | .dK kvs => kvs.length ≤ sizeLine ∧ (a == sysModules) = false ∧ ∃ vs, KV kvs vs ∧ h.DictOf (mixKind P w) a vs
  | .dT kvs => kvs.length ≤ sizeLine ∧ (a == sysModules) = false ∧ ∃ xs : List (List Key × Addr × Value),
      Paired (fun (p : List Key × V) (q : List Key × Addr × Value) => p.1 = q.1 ∧ H q.2.1 = some (.tup (p.1.map kV)) ∧ RelV p.2 q.2.2) kvs xs ∧
      ∃ o es ep, h.get? a = some o ∧ o.ExactDict ∧ o.data = .dict es ep ∧ es.toList = xs.map (entryOfKey (tupleKind (mixKind P w))) ∧ (xs.map (·.1)).Nodup
  | .set S n => h.SetOf (intKind P w) a S n
  | .ins C dx fs => H dx = some (.own a) ∧ fs.length ≤ 1000 ∧ dx ≠ a ∧ h.get? a = some (PySem.W.instObj C dx) ∧
      ∃ mA, h.Ns1 dx mA ∧ (∀ f, RelO (fs.lookup f) (mA f)) ∧ PySem.Within mA (fs.map (·.1))
  | .own _ => ∃ o, h.get? a = some o
  | .xd fs => ∃ mA, h.Ns1 a mA ∧ ∀ f, RelO (fs.lookup f) (mA f)
  | .rng lo hi => ∃ t u v, h.get? a = some { cls := .type "range", data := .fields #[.int lo t, .int hi u, .int 1 v] }
  | .frz o u => h.get? a = some o ∧ ObjOk H h a u
  | .tbl ps => h.get? a = some { cls := .none, data := .fields ps }
  | .met f x => h.get? a = some (PySem.W.methodObj (.ref f) (.ref x))
  | .ext φ => φ h ∧ (∃ o, h.get? a = some o) ∧ ∀ h1 h2 : Heap, φ h1 → (∀ o, h1.get? a = some o → h2.get? a = some o) → φ h2
def HOk (H : Hp) (h : Heap) : Prop := ∀ a o, H a = some o → ObjOk P w H h a o
end
section
variable {P : Program} {w : World} {H H' : Hp} {h h' : Heap} {a : Addr} {o : HO}
theorem ObjOk.lt (x : ObjOk P w H h a o) : a < h.objs.size := by
  cases o with
  | lst xs => obtain ⟨_, _, _, _, e⟩ := x; exact Heap.lt_size e
  | tup xs => obtain ⟨_, _, _, p⟩ := x; exact p.lt
  | dK kvs => obtain ⟨_, _, _, _, o, _, _, e, _⟩ := x; exact Heap.lt_size e
  | dT kvs => obtain ⟨_, _, _, _, o, _, _, e, _⟩ := x; exact Heap.lt_size e
  | set S n => obtain ⟨o, _, _, _, e, _⟩ := x; exact Heap.lt_size e
  | ins C dx fs => obtain ⟨_, _, _, e, _⟩ := x; exact Heap.lt_size e
  | own y => obtain ⟨_, e⟩ := x; exact Heap.lt_size e
  | xd fs => obtain ⟨_, ⟨_, _, _, e, _⟩, _⟩ := x; exact Heap.lt_size e
  | rng lo hi => obtain ⟨_, _, _, e⟩ := x; exact Heap.lt_size e
  | frz ob u => obtain ⟨e, _⟩ := x; exact Heap.lt_size e
  | tbl ps => exact Heap.lt_size (show h.get? a = some _ from x)
  | met f y => exact Heap.lt_size (show h.get? a = some _ from x)
  | ext φ => obtain ⟨_, ⟨_, e⟩, _⟩ := x; exact Heap.lt_size e
theorem Paired.mapP {α β : Type} {F G : α → β → Prop} : ∀ {l₁ : List α} {l₂ : List β}, Paired F l₁ l₂ → (∀ a b, F a b → G a b) → Paired G l₁ l₂
  | _, _, .nil, _ => .nil
  | _, _, .cons r t, f => .cons (f _ _ r) (Paired.mapP t f)
theorem ObjOk.stay (x : ObjOk P w H h a o) (k : ∀ b u, (b = a ∨ H b = some (.own a)) → h.get? b = some u → h'.get? b = some u)
    (ho : ∀ b, H b = some (.own a) → H' b = some (.own a)) (ht : ∀ b xs, H b = some (.tup xs) → H' b = some (.tup xs)) : ObjOk P w H' h' a o := by
  induction o with
  | lst xs => obtain ⟨z, its, n, r, e⟩ := x; exact ⟨z, its, n, r, k _ _ (.inl rfl) e⟩
  | tup xs => obtain ⟨z, its, r, ob, e, c⟩ := x; exact ⟨z, its, r, ob, k _ _ (.inl rfl) e, c⟩
  | dK kvs => obtain ⟨z, y, vs, r, ob, es, ep, e, c⟩ := x; exact ⟨z, y, vs, r, ob, es, ep, k _ _ (.inl rfl) e, c⟩
  | dT kvs =>
    obtain ⟨z, y, xs, r, ob, es, ep, e, c⟩ := x
    exact ⟨z, y, xs, Paired.mapP r fun p q z => ⟨z.1, ht _ _ z.2.1, z.2.2⟩, ob, es, ep, k _ _ (.inl rfl) e, c⟩
  | set S n => obtain ⟨ob, es, ep, t, e, c⟩ := x; exact ⟨ob, es, ep, t, k _ _ (.inl rfl) e, c⟩
  | ins C dx fs =>
    obtain ⟨d, z, ne, e, mA, ⟨od, es, ep, e2, c⟩, r⟩ := x
    exact ⟨ho _ d, z, ne, k _ _ (.inl rfl) e, mA, ⟨od, es, ep, k _ _ (.inr d) e2, c⟩, r⟩
  | own y => obtain ⟨ob, e⟩ := x; exact ⟨ob, k _ _ (.inl rfl) e⟩
  | xd fs => obtain ⟨mA, ⟨od, es, ep, e, c⟩, r⟩ := x; exact ⟨mA, ⟨od, es, ep, k _ _ (.inl rfl) e, c⟩, r⟩
  | rng lo hi => obtain ⟨t, u, v, e⟩ := x; exact ⟨t, u, v, k _ _ (.inl rfl) e⟩
  | frz ob u ih => obtain ⟨e, q⟩ := x; exact ⟨k _ _ (.inl rfl) e, ih q⟩
  | tbl ps =>
    have e : h.get? a = some { cls := .none, data := .fields ps } := x
    show h'.get? a = some { cls := .none, data := .fields ps }
    exact k a _ (.inl rfl) e
  | met f y =>
    have e : h.get? a = some (PySem.W.methodObj (.ref f) (.ref y)) := x
    show h'.get? a = some (PySem.W.methodObj (.ref f) (.ref y))
    exact k a _ (.inl rfl) e
  | ext φ => obtain ⟨p, ⟨o, e⟩, st⟩ := x; exact ⟨st _ _ p fun o q => k _ _ (.inl rfl) q, ⟨o, k _ _ (.inl rfl) e⟩, st⟩
theorem HOk.lt (x : HOk P w H h) (e : H a = some o) : a < h.objs.size := (x a o e).lt
theorem HOk.fresh (x : HOk P w H h) (e : h.objs.size ≤ a) : H a = none := by
  cases q : H a with
  | none => rfl
  | some u => exact absurd (Nat.lt_of_lt_of_le (x.lt q) e) (Nat.lt_irrefl _)
theorem HOk.kept (x : HOk P w H h) (k : ∀ b u, h.get? b = some u → h'.get? b = some u) : HOk P w H h' := fun a o e =>
  (x a o e).stay (fun b u _ q => k b u q) (fun _ q => q) fun _ _ q => q
theorem HOk.laid (x : HOk P w H h) (k : ∀ b u, h.get? b = some u → h'.get? b = some u) (hp : h.objs.size ≤ a) (new : ObjOk P w (upd H a o) h' a o) : HOk P w (upd H a o) h' := fun b u e => by
  have hn := x.fresh hp
  by_cases hb : b = a
  · subst hb; rw [upd_same] at e; cases e; exact new
  · rw [upd_ne hb] at e
    exact (x b u e).stay (fun c v _ q => k c v q) (fun c q => by rw [upd_ne (ne_of_none q hn)]; exact q) fun c xs q => by rw [upd_ne (ne_of_none q hn)]; exact q
end
def Rd (H : Hp) (a : Addr) (u : HO) : Prop := H a = some u ∨ ∃ o, H a = some (.frz o u)
theorem Rd.ok {P : Program} {w : World} {H : Hp} {h : Heap} {a : Addr} {u : HO} (r : Rd H a u) (x : HOk P w H h) : ObjOk P w H h a u := by
  rcases r with r | ⟨o, r⟩
  · exact x a u r
  · obtain ⟨_, q⟩ := x a _ r
    exact q
def Mut : Option HO → Prop
  | some (.lst _) => True
  | some (.dK _) => True
  | some (.dT _) => True
  | some (.set _ _) => True
  | some (.ins _ _ _) => True
  | some (.ext _) => True
  | _ => False
section
variable {P : Program} {w : World} {H : Hp} {h h' : Heap} {x e : Addr} {o' : HO}
theorem HOk.write (ok : HOk P w H h) (mu : Mut (H x)) (he : e = x ∨ H e = some (.own x)) (k : ∀ b u, b ≠ e → h.get? b = some u → h'.get? b = some u) (heo : ∃ u, h'.get? e = some u)
    (new : ObjOk P w (upd H x o') h' x o') : HOk P w (upd H x o') h' := fun b u q => by
  have nown : ∀ c y, H c = some (.own y) → c ≠ x := fun c y r z => by subst z; rw [r] at mu; exact mu
  have ntup : ∀ c xs, H c = some (.tup xs) → c ≠ x := fun c xs r z => by subst z; rw [r] at mu; exact mu
  by_cases hb : b = x
  · subst hb; rw [upd_same] at q; cases q; exact new
  · rw [upd_ne hb] at q
    by_cases hbe : b = e
    · have q' : H b = some (.own x) := by
        rcases he with z | z
        · exact absurd (hbe.trans z) hb
        · rw [hbe]; exact z
      rw [q] at q'; cases q'
      obtain ⟨v, hv⟩ := heo
      exact ⟨v, by rw [hbe]; exact hv⟩
    · refine (ok b u q).stay (fun c v hc r => k c v ?_ r) (fun c r => by rw [upd_ne (nown c b r)]; exact r) fun c xs r => by rw [upd_ne (ntup c xs r)]; exact r
      rcases hc with rfl | hc
      · exact hbe
      · rintro rfl
        rcases he with z | z
        · exact nown c b hc z
        · rw [hc] at z; cases z; exact hb rfl
end
structure Un (fs ex : List Addr) (H H' : Hp) (h h' : Heap) : Prop where
  keep : ∀ b o, h.get? b = some o → H b = none → b ∉ fs → b ∉ ex → h'.get? b = some o
  slot : ∀ b o, h.get? b = some o → H b = none → b ∈ fs → b ∉ ex → ∃ sl, h'.get? b = some { o with slots := sl }
  free : ∀ b o, h.get? b = some o → H b = none → b ∉ ex → H' b = none
  there : ∀ b o, h.get? b = some o → b ∉ ex → ∃ o', h'.get? b = some o'
  tups : ∀ b xs, H b = some (.tup xs) → H' b = some (.tup xs)
  frzs : ∀ b o u, H b = some (.frz o u) → H' b = some (.frz o u)
  tbls : ∀ b ps, H b = some (.tbl ps) → ∃ more, H' b = some (.tbl (ps ++ more))
section
variable {fs fs' ex ex' : List Addr} {H H1 H2 : Hp} {h h1 h2 h' : Heap} {a x e : Addr} {o : HO}
theorem Un.any (u : Un fs ex H H1 h h1) {b : Addr} {ob : Obj} (q : h.get? b = some ob) (n : H b = none) (hx : b ∉ ex) : ∃ sl, h1.get? b = some { ob with slots := sl } := by
  by_cases hb : b ∈ fs
  · exact u.slot b ob q n hb hx
  · exact ⟨ob.slots, u.keep b ob q n hb hx⟩
theorem Un.kept (k : ∀ b u, h.get? b = some u → h'.get? b = some u) : Un fs ex H H h h' :=
  ⟨fun b ob q _ _ _ => k b ob q, fun b ob q _ _ _ => ⟨ob.slots, k b ob q⟩, fun _ _ _ n _ => n, fun b ob q _ => ⟨ob, k b ob q⟩, fun _ _ q => q, fun _ _ _ q => q, fun _ ps q => ⟨#[], by rw [q]; simp⟩⟩
theorem Un.refl : Un fs ex H H h h := Un.kept fun _ _ q => q
theorem Un.laid (k : ∀ b u, h.get? b = some u → h'.get? b = some u) (hp : h.objs.size ≤ a) (hn : H a = none) : Un fs ex H (upd H a o) h h' where
  keep := fun b u q _ _ _ => k b u q
  slot := fun b u q _ _ _ => ⟨u.slots, k b u q⟩
  free := fun b u q n _ => by rw [upd_ne (Nat.ne_of_lt (Nat.lt_of_lt_of_le (Heap.lt_size q) hp))]; exact n
  there := fun b u q _ => ⟨u, k b u q⟩
  tups := fun b xs q => by rw [upd_ne (ne_of_none q hn)]; exact q
  frzs := fun b u xs q => by rw [upd_ne (ne_of_none q hn)]; exact q
  tbls := fun b ps q => ⟨#[], by rw [upd_ne (ne_of_none q hn), q]; simp⟩
theorem Un.write (mu : Mut (H x)) (he : e = x ∨ H e = some (.own x)) (k : ∀ b u, b ≠ e → h.get? b = some u → h'.get? b = some u) (heo : ∃ u, h'.get? e = some u) : Un fs ex H (upd H x o) h h' := by
  have hx : ∀ b, H b = none → b ≠ x := fun b n z => by subst z; rw [n] at mu; exact mu
  have hb : ∀ b, H b = none → b ≠ e := fun b n z => by
    subst z
    rcases he with r | r
    · exact hx b n r
    · rw [n] at r; cases r
  have hm : ∀ b u, H b = some u → ¬ Mut (some u) → b ≠ x := fun b u q nm z => by subst z; rw [q] at mu; exact nm mu
  refine ⟨fun b u q n _ _ => k b u (hb b n) q, fun b u q n _ _ => ⟨u.slots, k b u (hb b n) q⟩, fun b u q n _ => by rw [upd_ne (hx b n)]; exact n, fun b u q _ => ?_,
    fun b xs q => by rw [upd_ne (hm b _ q fun z => z)]; exact q, fun b u xs q => by rw [upd_ne (hm b _ q fun z => z)]; exact q, fun b ps q => ⟨#[], by rw [upd_ne (hm b _ q fun z => z), q]; simp⟩⟩
  by_cases hbe : b = e
  · subst hbe; exact heo
  · exact ⟨u, k b u hbe q⟩
end
def trk (h : Heap) (H : Hp) : List Addr := (List.range h.objs.size).filter fun a => (H a).isSome
def hidT (h : Heap) (H : Hp) : Heap := PySem.W.hideAll h (trk h H)
theorem hidT_size (h : Heap) (H : Hp) : (hidT h H).objs.size = h.objs.size := PySem.W.hideAll_size _ _
theorem hidT_get {h : Heap} {H : Hp} {b : Addr} {o : Obj} (e : h.get? b = some o) (n : H b = none) : (hidT h H).get? b = some o :=
  PySem.W.hideAll_get _ e fun hm => by
    have q : (H b).isSome = true := (List.mem_filter.mp hm).2
    rw [n] at q; simp at q
theorem of_hidT {h : Heap} {H : Hp} {b : Addr} {o : Obj} (e : (hidT h H).get? b = some o) : h.get? b = some o ∧ H b = none := by
  have e' : h.get? b = some o := PySem.W.of_hideAll (trk h H) e
  refine ⟨e', ?_⟩
  cases q : H b with
  | none => rfl
  | some x =>
    have hm : b ∈ trk h H := List.mem_filter.mpr ⟨List.mem_range.mpr (Heap.lt_size e'), by simp [q]⟩
    have z : (hidT h H).get? b = none := PySem.W.hideAll_none (trk h H) hm
    rw [z] at e; cases e
end L2
namespace L2
open PySem PySem.Spec PyProof.Rows
structure Mod (K : PySem.W.Frag) (mg : Str → Option Value) (base : Heap) : Prop where
  kin : K.In base
  glob : base.Ns mainGlobals mg
  blt : ∃ mb, base.Ns builtinsNs mb ∧ ∀ x : Str, x ≠ "__name__" → mb x = bootBuiltins x
  nolimit : base.NoLimit
structure Cx where
  prog : Program
  w : World
  K : PySem.W.Frag
  mg : Str → Option Value
  base : Heap
  A : Around
  N : List Str
  s_0 : Shared
  H_0 : Hp
  env : Env
  outer : List Env
  stack : List Env
  ex : List Addr
  fn : Str → Bool
  calm : Bool
  pn : List (Addr × Obj)
  xe : Value → Shared → Prop
def frs (l : List Env) : List Addr := l.filterMap (·.frame)
abbrev Cx.fs (X : Cx) : List Addr := frs X.outer
def Vis (sc : Scope) (x : Str) : Prop := sc.names.lookup x = some .local ∨ sc.names.lookup x = some .cell ∨ sc.names.lookup x = some .free
def Loc (sc : Scope) (x : Str) : Prop := sc.names.lookup x = some .local ∨ sc.names.lookup x = some .cell
def Look (env : Env) (h : Heap) (m : Str → Option Value) (x : Str) (u : Value) : Prop :=
  (env.kindOf x = some .local ∧ m x = some u) ∨ ((env.kindOf x = some .cell ∨ env.kindOf x = some .free) ∧ ∃ c, env.cells.lookup x = some c ∧ h.IsCell c (some u))
structure Cx.Ok (X : Cx) : Prop where
  mod : Mod X.K X.mg X.base
  kind : X.env.scope.kind = .function
  glob : X.env.globals = mainGlobals
  blt : X.env.builtins = builtinsNs
  above : X.s_0.heap.objs.size ≤ X.env.locals
  inj : ∀ x y c, X.env.cells.lookup x = some c → X.env.cells.lookup y = some c → x = y
  has : ∀ x, (X.env.kindOf x = some .cell ∨ X.env.kindOf x = some .free) → ∃ c, X.env.cells.lookup x = some c
  cab : ∀ x c, X.fn x = true → X.env.cells.lookup x = some c → X.s_0.heap.objs.size ≤ c
  hd : X.calm = true → X.A.handled = none
  frames : X.A.frames = some X.stack
  stk : X.stack = X.outer ∨ (X.stack = X.env :: X.outer ∧ X.env.frame = some X.env.locals)
  exf : ∀ b ∈ X.ex, b ≠ X.env.locals ∧ ∀ x c, X.env.cells.lookup x = some c → c ≠ b
  bs : ∀ b o, X.base.get? b = some o → X.s_0.heap.get? b = some o ∧ X.H_0 b = none
  bsz : X.base.objs.size ≤ X.s_0.heap.objs.size
  noex : ∀ b o, X.base.get? b = some o → b ∉ X.ex
  exfs : ∀ b ∈ X.ex, b ∉ X.fs
  funs : X.s_0.heap.FunFrames X.base X.outer
  frf : ∀ b ∈ X.fs, X.H_0 b = none
structure Inv (X : Cx) (pins : List (Addr × Obj)) (σ : List (Option V)) (H : Hp) (s : Shared) : Prop where
  ok : X.Ok
  os : s.os = X.s_0.os
  bare : AllBare s.gens
  base : Un X.fs X.ex X.H_0 H X.s_0.heap s.heap
  loc : ∃ m, s.heap.Ns X.env.locals m ∧ ∀ (i : Nat) (x : Str) (v : V), X.N[i]? = some x → σ[i]? = some (some v) → Vis X.env.scope x → ∃ u, RelV v u ∧ Look X.env s.heap m x u
  cell : ∀ x c, X.env.cells.lookup x = some c → ∃ v, s.heap.IsCell c v
  free : H X.env.locals = none
  freeC : ∀ x c, X.env.cells.lookup x = some c → H c = none
  pin : ∀ p ∈ X.pn ++ pins, s.heap.get? p.1 = some p.2 ∧ H p.1 = none ∧ p.1 ≠ X.env.locals ∧ p.1 ∉ X.fs ∧ ∀ v, p.2.data ≠ .cell v
  hok : HOk X.prog X.w H s.heap
  len : σ.length = X.N.length
section
variable {X : Cx} {pins : List (Addr × Obj)} {σ : List (Option V)} {H H' : Hp} {s : Shared} {h' : Heap}
theorem Cx.Ok.nofr (ok : X.Ok) {b : Addr} {o : Obj} (e : X.base.get? b = some o) : b ∉ X.fs := fun hb => by
  have := (ok.funs.mem hb).1
  rw [e] at this; cases this
theorem Inv.bs (I : Inv X pins σ H s) : ∀ b o, X.base.get? b = some o → s.heap.get? b = some o ∧ H b = none := fun b o e =>
  ⟨I.base.keep b o (I.ok.bs b o e).1 (I.ok.bs b o e).2 (I.ok.nofr e) (I.ok.noex b o e), I.base.free b o (I.ok.bs b o e).1 (I.ok.bs b o e).2 (I.ok.noex b o e)⟩
theorem Inv.bk (I : Inv X pins σ H s) : ∀ b o, X.base.get? b = some o → s.heap.get? b = some o := fun b o e => (I.bs b o e).1
theorem Inv.mod (I : Inv X pins σ H s) : Mod X.K X.mg X.base := I.ok.mod
theorem Inv.kIn (I : Inv X pins σ H s) : X.K.In s.heap := I.ok.mod.kin.keeps I.bk
theorem Inv.fr (I : Inv X pins σ H s) : ∃ m, Fr X.base X.env.locals s.heap m :=
  let ⟨m, hn, _⟩ := I.loc
  ⟨m, hn, I.bk, Nat.le_trans I.ok.bsz I.ok.above⟩
theorem Inv.lt (I : Inv X pins σ H s) : X.env.locals < s.heap.objs.size := let ⟨_, hn, _⟩ := I.loc; hn.lt
theorem Inv.sz (I : Inv X pins σ H s) : X.s_0.heap.objs.size ≤ s.heap.objs.size := Nat.le_trans I.ok.above (Nat.le_of_lt I.lt)
theorem Inv.nofs (I : Inv X pins σ H s) {a : Addr} (h : s.heap.objs.size ≤ a) : a ∉ X.fs := fun hb => by
  obtain ⟨_, o, ho, _⟩ := I.ok.funs.mem hb
  exact absurd (Nat.lt_of_lt_of_le (Heap.lt_size ho) (Nat.le_trans I.sz h)) (Nat.lt_irrefl _)
theorem Inv.cne (I : Inv X pins σ H s) : ∀ x c, X.env.cells.lookup x = some c → c ≠ X.env.locals := fun x c e z => by
  obtain ⟨v, o, ho, hd⟩ := I.cell x c e
  obtain ⟨m, ⟨o', es, ep, ho', hd', _⟩, _⟩ := I.loc
  rw [z, ho'] at ho; cases ho; rw [hd'] at hd; cases hd
theorem Inv.funs (I : Inv X pins σ H s) : s.heap.FunFrames X.base X.outer := by
  have all : ∀ (l : List Env), (∀ b ∈ frs l, b ∈ X.fs) → X.s_0.heap.FunFrames X.base l → s.heap.FunFrames X.base l := by
    intro l
    induction l with
    | nil => intro _ _; trivial
    | cons env r ih =>
      intro hs hl
      obtain ⟨hk, ⟨L, o, hf, hn, ho, hd⟩, hr⟩ := hl
      have hL : L ∈ X.fs := hs L (by unfold frs; rw [List.filterMap_cons, hf]; exact List.mem_cons_self)
      obtain ⟨sl, e⟩ := I.base.slot L o ho (I.ok.frf L hL) hL fun z => I.ok.exfs L z hL
      exact ⟨hk, ⟨L, _, hf, hn, e, hd⟩, ih (fun b hb => hs b (by unfold frs; rw [List.filterMap_cons, hf]; exact List.mem_cons_of_mem _ hb)) hr⟩
  exact all X.outer (fun _ hb => hb) I.ok.funs
theorem Inv.stack (I : Inv X pins σ H s) : s.heap.FunFrames X.base X.stack := by
  rcases I.ok.stk with e | ⟨e, hf⟩
  · rw [e]; exact I.funs
  · rw [e]
    obtain ⟨m, hn, _⟩ := I.loc
    refine .cons (by rw [I.ok.kind]; decide) hf hn ?_ I.funs
    exact Heap.get?_none_of_le (Nat.le_trans I.ok.bsz I.ok.above)
theorem Inv.stkSub (I : Inv X pins σ H s) : ∀ b ∈ frs X.stack, b ∈ X.env.locals :: X.fs := fun b hb => by
  rcases I.ok.stk with e | ⟨e, hf⟩
  · rw [e] at hb; exact List.mem_cons_of_mem _ hb
  · rw [e] at hb
    unfold frs at hb
    rw [List.filterMap_cons, hf] at hb
    exact hb
theorem Inv.stkFree (I : Inv X pins σ H s) : ∀ b ∈ frs X.stack, H b = none := fun b hb => by
  rcases List.mem_cons.mp (I.stkSub b hb) with e | hb
  · rw [e]; exact I.free
  · obtain ⟨_, o, ho, _⟩ := I.ok.funs.mem hb
    exact I.base.free b o ho (I.ok.frf b hb) fun z => I.ok.exfs b z hb
theorem Inv.step {g' : Array GenState} {t' : Nat} {d' : Drawn} {ch : List Addr} (I : Inv X pins σ H s)
    (hch : ∀ b ∈ ch, (b ∈ X.ex ∨ X.s_0.heap.objs.size ≤ b) ∧ b ≠ X.env.locals ∧ (∀ x c, X.env.cells.lookup x = some c → c ≠ b) ∧ ∀ p ∈ X.pn ++ pins, p.1 ≠ b)
    (keep : ∀ b o, b ≠ X.env.locals → b ∉ X.fs → b ∉ ch → s.heap.get? b = some o → H b = none → h'.get? b = some o)
    (slot : ∀ b o, b ≠ X.env.locals → b ∈ X.fs → b ∉ ch → s.heap.get? b = some o → H b = none → ∃ sl, h'.get? b = some { o with slots := sl }) (free : ∀ b o, b ∉ ch → s.heap.get? b = some o → H b = none → H' b = none)
    (there : ∀ b o, b ∉ ch → s.heap.get? b = some o → ∃ o', h'.get? b = some o')
    (tups : ∀ b xs, H b = some (.tup xs) → H' b = some (.tup xs)) (frzs : ∀ b o u, H b = some (.frz o u) → H' b = some (.frz o u)) (tbls : ∀ b ps, H b = some (.tbl ps) → ∃ more, H' b = some (.tbl (ps ++ more)))
    (ns : ∀ m, s.heap.Ns X.env.locals m → h'.Ns X.env.locals m) (hok : HOk X.prog X.w H' h') (hg : AllBare g') :
    Inv X pins σ H' { s with heap := h', gens := g', drawn := d', toks := t' } := by
  have neL : ∀ b o, X.s_0.heap.get? b = some o → b ≠ X.env.locals := fun b o e => Nat.ne_of_lt (Nat.lt_of_lt_of_le (Heap.lt_size e) I.ok.above)
  have neC : ∀ b o, X.s_0.heap.get? b = some o → b ∉ X.ex → b ∉ ch := fun b o e hx hb => by
    rcases (hch b hb).1 with z | z
    · exact hx z
    · exact absurd (Nat.lt_of_lt_of_le (Heap.lt_size e) z) (Nat.lt_irrefl _)
  have cellK : ∀ x c, X.env.cells.lookup x = some c → ∀ v, s.heap.IsCell c v → h'.IsCell c v := fun x c e v ⟨o, ho, hd⟩ => by
    have nch : c ∉ ch := fun z => (hch c z).2.2.1 x c e rfl
    by_cases hc : c ∈ X.fs
    · obtain ⟨sl, q⟩ := slot c o (I.cne x c e) hc nch ho (I.freeC x c e)
      exact ⟨_, q, hd⟩
    · exact ⟨o, keep c o (I.cne x c e) hc nch ho (I.freeC x c e), hd⟩
  refine ⟨I.ok, I.os, hg, ⟨fun b o e n hb hx => ?_, fun b o e n hb hx => ?_, fun b o e n hx => ?_, fun b o e hx => ?_, fun b xs e => tups b xs (I.base.tups b xs e), fun b o xs e => frzs b o xs (I.base.frzs b o xs e), fun b ps e => ?_⟩, ?_, fun x c e => ?_, ?_, fun x c e => ?_, fun p hp => ?_, hok, I.len⟩
  · exact keep b o (neL b o e) hb (neC b o e hx) (I.base.keep b o e n hb hx) (I.base.free b o e n hx)
  · obtain ⟨sl, e1⟩ := I.base.slot b o e n hb hx
    obtain ⟨sl', e2⟩ := slot b _ (neL b o e) hb (neC b o e hx) e1 (I.base.free b o e n hx)
    exact ⟨sl', e2⟩
  · obtain ⟨o', e1⟩ := I.base.there b o e hx
    exact free b o' (neC b o e hx) e1 (I.base.free b o e n hx)
  · obtain ⟨o', e1⟩ := I.base.there b o e hx
    exact there b o' (neC b o e hx) e1
  · obtain ⟨m1, e1⟩ := I.base.tbls b ps e
    obtain ⟨m2, e2⟩ := tbls b _ e1
    exact ⟨m1 ++ m2, by rw [e2, Array.append_assoc]⟩
  · obtain ⟨m, hn, hl⟩ := I.loc
    refine ⟨m, ns m hn, fun i x v e1 e2 e3 => ?_⟩
    obtain ⟨u, r, l⟩ := hl i x v e1 e2 e3
    refine ⟨u, r, ?_⟩
    rcases l with l | ⟨k, c, e, z⟩
    · exact .inl l
    · exact .inr ⟨k, c, e, cellK x c e _ z⟩
  · obtain ⟨v, z⟩ := I.cell x c e
    exact ⟨v, cellK x c e v z⟩
  · obtain ⟨m, ⟨o, _, _, ho, _⟩, _⟩ := I.loc
    exact free _ o (fun z => (hch _ z).2.1 rfl) ho I.free
  · obtain ⟨v, o, ho, hd⟩ := I.cell x c e
    exact free c o (fun z => (hch c z).2.2.1 x c e rfl) ho (I.freeC x c e)
  · obtain ⟨e, n, ne, nf, d⟩ := I.pin p hp
    have nch : p.1 ∉ ch := fun z => (hch p.1 z).2.2.2 p hp rfl
    exact ⟨keep p.1 p.2 ne nf nch e n, free p.1 p.2 nch e n, ne, nf, d⟩
theorem Inv.un {t' : Nat} (I : Inv X pins σ H s) (u : Un X.fs [] H H' s.heap h') (hok : HOk X.prog X.w H' h') : Inv X pins σ H' { s with heap := h', toks := t' } := by
  obtain ⟨m, ⟨o, es, ep, ho, r⟩, _⟩ := id I.loc
  obtain ⟨sl, hL⟩ := u.any ho I.free (by simp)
  exact I.step (g' := s.gens) (d' := s.drawn) (ch := []) (fun _ z => nomatch z) (fun b o _ hb _ e n => u.keep b o e n hb (by simp)) (fun b o _ hb _ e n => u.slot b o e n hb (by simp)) (fun b o _ e n => u.free b o e n (by simp)) (fun b o _ e => u.there b o e (by simp)) u.tups u.frzs u.tbls (fun m' hm => by
    obtain ⟨o', es', ep', ho', r'⟩ := hm
    rw [ho] at ho'; cases ho'
    exact ⟨_, es', ep', hL, r'⟩) hok I.bare
theorem Inv.call {g' : Array GenState} {t' : Nat} {d' : Drawn} {ch : List Addr} (I : Inv X pins σ H s) (u : Un (frs X.stack) ch H H' s.heap h') (hok : HOk X.prog X.w H' h') (hg : AllBare g')
    (hch : ∀ b ∈ ch, (b ∈ X.ex ∨ X.s_0.heap.objs.size ≤ b) ∧ b ≠ X.env.locals ∧ (∀ x c, X.env.cells.lookup x = some c → c ≠ b) ∧ ∀ p ∈ X.pn ++ pins, p.1 ≠ b) :
    Inv X pins σ H' { s with heap := h', gens := g', drawn := d', toks := t' } := by
  obtain ⟨m, ⟨o, es, ep, ho, r⟩, _⟩ := id I.loc
  obtain ⟨sl, hL⟩ := u.any ho I.free fun z => (hch _ z).2.1 rfl
  exact I.step (ch := ch) hch (fun b o hL hb hc e n => u.keep b o e n (fun z => (List.mem_cons.mp (I.stkSub b z)).elim hL hb) hc) (fun b o _ _ hc e n => u.any e n hc) (fun b o hc e n => u.free b o e n hc) (fun b o hc e => u.there b o e hc) u.tups u.frzs u.tbls (fun m' hm => by
    obtain ⟨o', es', ep', ho', r'⟩ := hm
    rw [ho] at ho'; cases ho'
    exact ⟨_, es', ep', hL, r'⟩) hok hg
theorem Inv.turned {t' : Nat} {it : Addr} (I : Inv X pins σ H s) (k : ∀ b o, b ≠ it → s.heap.get? b = some o → h'.get? b = some o) (hn : H it = none) (hL : it ≠ X.env.locals)
    (h1 : it ∈ X.ex ∨ X.s_0.heap.objs.size ≤ it) (h2 : ∀ x c, X.env.cells.lookup x = some c → c ≠ it) (h3 : ∀ p ∈ X.pn ++ pins, p.1 ≠ it) : Inv X pins σ H { s with heap := h', toks := t' } := by
  have nit : ∀ b u, H b = some u → b ≠ it := fun b u e z => by rw [z, hn] at e; cases e
  refine I.step (g' := s.gens) (d' := s.drawn) (ch := [it]) (fun b hb => ?_) (fun b o _ _ hc e _ => k b o (fun z => hc (by simp [z])) e) (fun b o _ _ hc e _ => ⟨o.slots, k b o (fun z => hc (by simp [z])) e⟩) (fun _ _ _ _ n => n)
    (fun b o hc e => ⟨o, k b o (fun z => hc (by simp [z])) e⟩) (fun _ _ e => e) (fun _ _ _ e => e) (fun b ps e => ⟨#[], by rw [e]; simp⟩) (fun m hm => ?_) (fun b u e => ?_) I.bare
  · have e : b = it := by simpa using hb
    subst e
    exact ⟨h1, hL, h2, h3⟩
  · obtain ⟨o, es, ep, ho, r⟩ := hm
    exact ⟨o, es, ep, k _ o (Ne.symm hL) ho, r⟩
  · refine (I.hok b u e).stay (fun c v hc q => k c v ?_ q) (fun _ q => q) fun _ _ q => q
    rcases hc with z | z
    · rw [z]; exact nit b u e
    · exact nit c _ z
theorem Inv.tok (I : Inv X pins σ H s) (t : Nat) : Inv X pins σ H { s with toks := t } := I.un (h' := s.heap) (t' := t) Un.refl I.hok
theorem Inv.kept {t' : Nat} (I : Inv X pins σ H s) (k : ∀ b u, s.heap.get? b = some u → h'.get? b = some u) : Inv X pins σ H { s with heap := h', toks := t' } := I.un (Un.kept k) (I.hok.kept k)
theorem Inv.laid {a : Addr} {o : HO} {t' : Nat} (I : Inv X pins σ H s) (k : ∀ b u, s.heap.get? b = some u → h'.get? b = some u) (hp : s.heap.objs.size ≤ a) (new : ObjOk X.prog X.w (upd H a o) h' a o) :
    Inv X pins σ (upd H a o) { s with heap := h', toks := t' } := I.un (Un.laid k hp (I.hok.fresh hp)) (I.hok.laid k hp new)
theorem Inv.write {x e : Addr} {o : HO} {t' : Nat} (I : Inv X pins σ H s) (mu : Mut (H x)) (he : e = x ∨ H e = some (.own x)) (k : ∀ b u, b ≠ e → s.heap.get? b = some u → h'.get? b = some u) (heo : ∃ u, h'.get? e = some u)
    (new : ObjOk X.prog X.w (upd H x o) h' x o) : Inv X pins σ (upd H x o) { s with heap := h', toks := t' } := I.un (Un.write mu he k heo) (I.hok.write mu he k heo new)
theorem Inv.weak {σ' : List (Option V)} (I : Inv X pins σ H s) (hl : σ'.length = σ.length) (w : ∀ (i : Nat) v, σ'[i]? = some (some v) → σ[i]? = some (some v)) : Inv X pins σ' H s :=
  ⟨I.ok, I.os, I.bare, I.base, let ⟨m, hn, hl'⟩ := I.loc; ⟨m, hn, fun i x v e1 e2 e3 => hl' i x v e1 (w i v e2) e3⟩, I.cell, I.free, I.freeC, I.pin, I.hok, hl.trans I.len⟩
theorem Inv.pins_of {pins' : List (Addr × Obj)} (I : Inv X pins σ H s) (h : ∀ p ∈ pins', s.heap.get? p.1 = some p.2 ∧ H p.1 = none ∧ p.1 ≠ X.env.locals ∧ p.1 ∉ X.fs ∧ ∀ v, p.2.data ≠ .cell v) : Inv X pins' σ H s :=
  ⟨I.ok, I.os, I.bare, I.base, I.loc, I.cell, I.free, I.freeC, fun p hp => (List.mem_append.mp hp).elim (fun z => I.pin p (List.mem_append_left _ z)) (h p), I.hok, I.len⟩
theorem nodup_ix {N : List Str} (hN : N.Nodup) {i j : Nat} {x : Str} (a : N[i]? = some x) (b : N[j]? = some x) : i = j := by
  obtain ⟨h1, e1⟩ := List.getElem?_eq_some_iff.mp a
  obtain ⟨h2, e2⟩ := List.getElem?_eq_some_iff.mp b
  exact (List.getElem_inj hN).mp (e1.trans e2.symm)
theorem store_ok2 {M : Model} {A : Around} {E : Value → Shared → Prop} {i : Nat} {x : Str} {v : V} {u : Value} {Q : Unit → Shared → Prop} (I : Inv X pins σ H s) (hN : X.N.Nodup) (hi : X.N[i]? = some x) (hx : Loc X.env.scope x) (r : RelV v u)
    (h : ∀ s', Inv X pins (σ.set i (some v)) H s' → (∃ a, Heap.SameBut a s.heap s'.heap ∧ (a = X.env.locals ∨ X.env.cells.lookup x = some a)) → Q () s') (hf : X.fn x = true ∨ X.env.scope.names.lookup x = some .local := by first | exact .inl rfl | exact .inr rfl | assumption) : wpAny M A (storeName X.env x u) Q E s := by
  obtain ⟨m, hn, hl⟩ := id I.loc
  have hcls : (X.env.scope.kind == .class || (X.env.scope.kind == .module && X.env.locals != X.env.globals)) = false := by rw [I.ok.kind]; rfl
  have hiσ : i < σ.length := by rw [I.len]; exact (List.getElem?_eq_some_iff.mp hi).1
  have cne := I.cne
  have tracked : ∀ {a : Addr} {h' : Heap}, (∃ o, s.heap.get? a = some o ∧ H a = none) → Heap.SameBut a s.heap h' → HOk X.prog X.w H h' := fun {a h'} ha hs b ob e => by
    obtain ⟨_, _, hfree⟩ := ha
    refine (I.hok b ob e).stay (fun c w' hc q => (hs.2 c ?_).trans q) (fun _ q => q) fun _ _ q => q
    rintro rfl
    rcases hc with rfl | hc
    · rw [hfree] at e; cases e
    · rw [hfree] at hc; cases hc
  rcases hx with hk | hk
  · refine wpAny_storeName_local hk hn (fun h' hn' hs => ?_) hcls
    obtain ⟨oL, _, _, hoL, _⟩ := id hn
    refine h _ ⟨I.ok, I.os, I.bare, ⟨fun b o e n hb hx => ?_, fun b o e n hb hx => ?_, I.base.free, fun b o e hx => ?_, I.base.tups, I.base.frzs, I.base.tbls⟩, ⟨_, hn', fun j y v' e1 e2 e3 => ?_⟩, fun y c e => ?_, I.free, I.freeC, fun p hp => ?_, tracked ⟨oL, hoL, I.free⟩ hs, by simpa using I.len⟩ ⟨_, hs, .inl rfl⟩
    · exact (hs.2 b (Nat.ne_of_lt (Nat.lt_of_lt_of_le (Heap.lt_size e) I.ok.above))).trans (I.base.keep b o e n hb hx)
    · obtain ⟨sl, e1⟩ := I.base.slot b o e n hb hx
      exact ⟨sl, (hs.2 b (Nat.ne_of_lt (Nat.lt_of_lt_of_le (Heap.lt_size e) I.ok.above))).trans e1⟩
    · obtain ⟨o', e1⟩ := I.base.there b o e hx
      exact ⟨o', (hs.2 b (Nat.ne_of_lt (Nat.lt_of_lt_of_le (Heap.lt_size e) I.ok.above))).trans e1⟩
    · by_cases hj : j = i
      · subst hj
        rw [hi] at e1; cases e1
        rw [List.getElem?_set_self hiσ] at e2
        cases e2
        exact ⟨u, r, .inl ⟨hk, by simp⟩⟩
      · rw [List.getElem?_set_ne (Ne.symm hj)] at e2
        obtain ⟨u', r', q⟩ := hl j y v' e1 e2 e3
        refine ⟨u', r', ?_⟩
        rcases q with ⟨k, e⟩ | ⟨k, c, e, z⟩
        · refine .inl ⟨k, ?_⟩
          have : y ≠ x := fun e => hj (nodup_ix hN e1 (e ▸ hi))
          simp [this, e]
        · exact .inr ⟨k, c, e, z.sameBut hs (cne y c e)⟩
    · obtain ⟨w', z⟩ := I.cell y c e
      exact ⟨w', z.sameBut hs (cne y c e)⟩
    · obtain ⟨e, n, ne, nf, d⟩ := I.pin p hp
      exact ⟨(hs.2 p.1 ne).trans e, n, ne, nf, d⟩
  · have hfn : X.fn x = true := by
      rcases hf with z | z
      · exact z
      · rw [z] at hk; cases hk
    obtain ⟨c, hc⟩ := I.ok.has x (.inl hk)
    obtain ⟨w', z⟩ := I.cell x c hc
    refine wpAny_storeName_cell I.ok.kind hk hc z (fun h' hc' hs => ?_)
    obtain ⟨oc, hoc, hocd⟩ := id z
    refine h { s with heap := h' } ⟨I.ok, I.os, I.bare, ⟨fun b o e n hb hx => ?_, fun b o e n hb hx => ?_, I.base.free, fun b o e hx => ?_, I.base.tups, I.base.frzs, I.base.tbls⟩, ⟨m, hn.sameBut hs (Ne.symm (cne x c hc)), fun j y v' e1 e2 e3 => ?_⟩, fun y c' e => ?_, I.free, I.freeC, fun p hp => ?_, tracked ⟨oc, hoc, I.freeC x c hc⟩ hs, by simpa using I.len⟩ ⟨c, hs, .inr hc⟩
    · exact (hs.2 b (Nat.ne_of_lt (Nat.lt_of_lt_of_le (Heap.lt_size e) (I.ok.cab x c hfn hc)))).trans (I.base.keep b o e n hb hx)
    · obtain ⟨sl, e1⟩ := I.base.slot b o e n hb hx
      exact ⟨sl, (hs.2 b (Nat.ne_of_lt (Nat.lt_of_lt_of_le (Heap.lt_size e) (I.ok.cab x c hfn hc)))).trans e1⟩
    · obtain ⟨o', e1⟩ := I.base.there b o e hx
      exact ⟨o', (hs.2 b (Nat.ne_of_lt (Nat.lt_of_lt_of_le (Heap.lt_size e) (I.ok.cab x c hfn hc)))).trans e1⟩
    · by_cases hj : j = i
      · subst hj
        rw [hi] at e1; cases e1
        rw [List.getElem?_set_self hiσ] at e2
        cases e2
        exact ⟨u, r, .inr ⟨.inl hk, c, hc, hc'⟩⟩
      · rw [List.getElem?_set_ne (Ne.symm hj)] at e2
        obtain ⟨u', r', q⟩ := hl j y v' e1 e2 e3
        refine ⟨u', r', ?_⟩
        rcases q with q | ⟨k, c', e, z'⟩
        · exact .inl q
        · refine .inr ⟨k, c', e, z'.sameBut hs ?_⟩
          rintro rfl
          exact hj (nodup_ix hN e1 (I.ok.inj _ _ _ e hc ▸ hi))
    · by_cases hcc : c' = c
      · subst hcc; exact ⟨_, hc'⟩
      · obtain ⟨w2, z2⟩ := I.cell y c' e
        exact ⟨w2, z2.sameBut hs hcc⟩
    · obtain ⟨e, n, ne, nf, d⟩ := I.pin p hp
      refine ⟨(hs.2 p.1 ?_).trans e, n, ne, nf, d⟩
      intro q
      rw [q, hoc] at e
      have q' : oc = p.2 := Option.some.inj e
      exact d w' (by rw [← q']; exact hocd)
theorem store_ok {M : Model} {A : Around} {E : Value → Shared → Prop} {i : Nat} {x : Str} {v : V} {u : Value} {Q : Unit → Shared → Prop} (I : Inv X pins σ H s) (hN : X.N.Nodup) (hi : X.N[i]? = some x) (hx : Loc X.env.scope x) (r : RelV v u)
    (h : ∀ s', Inv X pins (σ.set i (some v)) H s' → Q () s') (hf : X.fn x = true ∨ X.env.scope.names.lookup x = some .local := by first | exact .inl rfl | exact .inr rfl | assumption) : wpAny M A (storeName X.env x u) Q E s :=
  store_ok2 I hN hi hx r (fun s' I' _ => h s' I') hf
theorem Inv.call' {s' : Shared} {ch : List Addr} (I : Inv X pins σ H s) (ho : s'.os = s.os) (u : Un (frs X.stack) ch H H' s.heap s'.heap) (hok : HOk X.prog X.w H' s'.heap) (hg : AllBare s'.gens)
    (hch : ∀ b ∈ ch, (b ∈ X.ex ∨ X.s_0.heap.objs.size ≤ b) ∧ b ≠ X.env.locals ∧ (∀ x c, X.env.cells.lookup x = some c → c ≠ b) ∧ ∀ p ∈ X.pn ++ pins, p.1 ≠ b) : Inv X pins σ H' s' := by
  obtain ⟨h', g', d', t', o'⟩ := s'
  have e : o' = s.os := ho
  subst e
  exact I.call (g' := g') (t' := t') (d' := d') u hok hg hch
end
abbrev XK := Value → Option Addr → Hp → Prop
abbrev St := List (Option V)
abbrev VK := V → Hp → Prop
abbrev TE := St → Hp → VK → Prop
abbrev TT := St → Hp → (Bool → Hp → Prop) → Prop
abbrev TA := St → Hp → (List V → Hp → Prop) → Prop
structure Ends where
  nx : St → Hp → Prop
  rt : VK
  bk : St → Hp → Prop := fun _ _ => False
  ct : St → Hp → Prop := fun _ _ => False
abbrev TS := Ends → St → Hp → Prop
def EP (X : Cx) (pins : List (Addr × Obj)) (σ : St) (Q : VK) (u : Value) (s' : Shared) : Prop := ∃ v H', Inv X pins σ H' s' ∧ RelV v u ∧ Q v H'
def TP (X : Cx) (pins : List (Addr × Obj)) (σ : St) (Q : Bool → Hp → Prop) (b : Bool) (s' : Shared) : Prop := ∃ H', Inv X pins σ H' s' ∧ Q b H'
def AP (X : Cx) (pins : List (Addr × Obj)) (σ : St) (Q : List V → Hp → Prop) (us : List Value) (s' : Shared) : Prop := ∃ vs H', Inv X pins σ H' s' ∧ Vals vs us ∧ Q vs H'
def SP (X : Cx) (pins : List (Addr × Obj)) (D : Ends) (f : Flow) (s' : Shared) : Prop :=
  match f with
  | .next => ∃ σ' H', Inv X pins σ' H' s' ∧ D.nx σ' H'
  | .brk => ∃ σ' H', Inv X pins σ' H' s' ∧ D.bk σ' H'
  | .cont => ∃ σ' H', Inv X pins σ' H' s' ∧ D.ct σ' H'
  | .ret u => ∃ v σ' H', Inv X pins σ' H' s' ∧ RelV v u ∧ D.rt v H'
def PE (X : Cx) (e : Expr) (t : TE) : Prop :=
  ∀ (pins : List (Addr × Obj)) (s : Shared) (σ : St) (H : Hp) (Q : VK), Inv X pins σ H s → t σ H Q → wpAny (model X.prog X.w) X.A (eval e X.env) (EP X pins σ Q) X.xe s
def PT (X : Cx) (e : Expr) (t : TT) : Prop :=
  ∀ (pins : List (Addr × Obj)) (s : Shared) (σ : St) (H : Hp) (Q : Bool → Hp → Prop), Inv X pins σ H s → t σ H Q → wpAny (model X.prog X.w) X.A (isTrue e X.env (eval e X.env)) (TP X pins σ Q) X.xe s
def PW (X : Cx) (e : Expr) (t : TT) : Prop :=
  ∀ (whole : Sem Value) (pins : List (Addr × Obj)) (s : Shared) (σ : St) (H : Hp) (Q : Bool → Hp → Prop), Inv X pins σ H s → t σ H Q → wpAny (model X.prog X.w) X.A (isTrue e X.env whole) (TP X pins σ Q) X.xe s
theorem PW.pt {X : Cx} {e : Expr} {t : TT} (h : PW X e t) : PT X e t := h _
def PA (X : Cx) (es : List Expr) (t : TA) : Prop :=
  ∀ (pos : Pos) (pins : List (Addr × Obj)) (s : Shared) (σ : St) (H : Hp) (Q : List V → Hp → Prop), Inv X pins σ H s → t σ H Q → wpAny (model X.prog X.w) X.A (spliced (backTo pos (starEach es X.env))) (AP X pins σ Q) X.xe s
def PS (X : Cx) (st : Stmt) (t : TS) : Prop :=
  ∀ (pins : List (Addr × Obj)) (s : Shared) (σ : St) (H : Hp) (D : Ends), Inv X pins σ H s → t D σ H → wpAny (model X.prog X.w) X.A (exec st X.env) (SP X pins D) X.xe s
def PSs (X : Cx) (st : List Stmt) (t : TS) : Prop :=
  ∀ (pins : List (Addr × Obj)) (s : Shared) (σ : St) (H : Hp) (D : Ends), Inv X pins σ H s → t D σ H → wpAny (model X.prog X.w) X.A (execs st X.env) (SP X pins D) X.xe s
theorem thn {α : Type} {t : Sem α} {Q Q' : α → Shared → Prop} {M : Model} {A : Around} {E : Value → Shared → Prop} {s : Shared} (h : wpAny M A t Q E s) (hQ : ∀ a s, Q a s → Q' a s) : wpAny M A t Q' E s := wpAny_mono h hQ fun _ _ x => x
end L2
namespace L2
open PySem PySem.Spec PyProof.Rows
section
variable {X : Cx}
theorem bin {a b : Expr} {ta tb : TE} (ha : PE X a ta) (hb : PE X b tb) {pins : List (Addr × Obj)} {s : Shared} {σ : St} {H : Hp} {R : V → V → Hp → Prop} (I : Inv X pins σ H s) (h : ta σ H fun x H1 => tb σ H1 fun y H2 => R x y H2)
    {α : Type} {Q : α → Shared → Prop} {f : Value → Value → Sem α}
    (hf : ∀ v u s2 x y H2, Inv X pins σ H2 s2 → RelV x v → RelV y u → R x y H2 → wpAny (model X.prog X.w) X.A (f v u) Q X.xe s2) :
    wpAny (model X.prog X.w) X.A (eval a X.env) (fun v s₁ => wpAny (model X.prog X.w) X.A (eval b X.env) (fun u s₂ => wpAny (model X.prog X.w) X.A (f v u) Q X.xe s₂) X.xe s₁) X.xe s := by
  refine thn (ha pins s σ H _ I h) fun v s1 ⟨x, H1, I1, r1, q1⟩ => ?_
  refine thn (hb pins s1 σ H1 _ I1 q1) fun u s2 ⟨y, H2, I2, r2, q2⟩ => ?_
  exact hf v u s2 x y H2 I2 r1 r2 q2
def tVar (i : Nat) : TE := fun σ H Q => ∃ v, σ[i]? = some (some v) ∧ Q v H
def tC (v : V) : TE := fun _ H Q => Q v H
theorem pe_var {i : Nat} {x : Str} {pos : Pos} (hN : X.N[i]? = some x) (hv : Vis X.env.scope x) (hd : (x == ("__debug__" : Str)) = false := by decide) (hcd : (x == ("__classdict__" : Str)) = false := by decide) : PE X (.Name x pos) (tVar i) := by
  intro pins s σ H Q I h
  obtain ⟨v, e, h⟩ := h
  obtain ⟨m, hn, hl⟩ := I.loc
  obtain ⟨u, r, l⟩ := hl i x v hN e hv
  have fin : EP X pins σ Q u s := ⟨v, H, I, r, h⟩
  rcases l with ⟨hk, hm⟩ | ⟨hk, c, hc, hcell⟩
  · exact wpAny_Name (wpAny_loadName_local I.ok.kind hk hn hm fin) hd
  · rcases hk with hk | hk
    · exact wpAny_Name (wpAny_loadName_cell I.ok.kind hk hc hcell fin) hd
    · exact wpAny_Name (wpAny_loadName_free I.ok.kind hk hc hcell fin hcd) hd
theorem pe_int {i j pos} : PE X (.Constant (.int i) j pos) (tC (.int i)) := fun _ _ _ H _ I h => wpAny_Constant_int ⟨.int i, H, I.tok _, ⟨_, rfl⟩, h⟩
theorem pe_bl {b j pos} : PE X (.Constant (.bool b) j pos) (tC (.bl b)) := fun _ _ _ H _ I h => Constant_bool ⟨.bl b, H, I, rfl, h⟩
theorem pe_non {j pos} : PE X (.Constant .none j pos) (tC .non) := fun _ _ _ H _ I h => Constant_none ⟨.non, H, I, rfl, h⟩
def Gl (X : Cx) (x : Str) : Prop := X.env.kindOf x = some .globalImplicit
theorem ld_glob {E : Value → Shared → Prop} {pins : List (Addr × Obj)} {s : Shared} {σ : St} {H : Hp} {x : Str} {u : Value} {pos : Pos} {Q : Value → Shared → Prop} (I : Inv X pins σ H s) (hg : Gl X x) (hm : X.mg x = some u) (h : Q u s)
    (hd : (x == ("__debug__" : Str)) = false := by decide) : wpAny (model X.prog X.w) X.A (eval (.Name x pos) X.env) Q E s :=
  Calls.Name_function_global I.ok.kind hg (Calls.loadGlobal_global (by rw [I.ok.glob]; exact I.mod.glob.keeps I.bk) hm h) hd
theorem ld_blt {E : Value → Shared → Prop} {pins : List (Addr × Obj)} {s : Shared} {σ : St} {H : Hp} {x : Str} {u : Value} {pos : Pos} {Q : Value → Shared → Prop} (I : Inv X pins σ H s) (hg : Gl X x) (hm : X.mg x = none) (hv : bootBuiltins x = some u) (h : Q u s)
    (hn : x ≠ "__name__" := by decide) (hd : (x == ("__debug__" : Str)) = false := by decide) : wpAny (model X.prog X.w) X.A (eval (.Name x pos) X.env) Q E s := by
  obtain ⟨mb, h1, h2⟩ := I.mod.blt
  exact Calls.Name_function_global I.ok.kind hg (Calls.loadGlobal_builtin (by rw [I.ok.glob]; exact I.mod.glob.keeps I.bk) hm (by rw [I.ok.blt]; exact h1.keeps I.bk) ((h2 x hn).trans hv) h) hd
theorem pe_glob {x : Str} {v : V} {u : Value} {pos : Pos} (hg : Gl X x) (hm : X.mg x = some u) (r : RelV v u) (hd : (x == ("__debug__" : Str)) = false := by decide) : PE X (.Name x pos) (tC v) :=
  fun _ _ _ H _ I h => ld_glob I hg hm ⟨v, H, I, r, h⟩ hd
variable {a b : Expr} {ta tb : TE} {pos : Pos}
def PC (X : Cx) (op : CmpOp) (a b : Expr) (t : TE) : Prop :=
  ∀ (pins : List (Addr × Obj)) (s : Shared) (σ : St) (H : Hp) (Q : VK), Inv X pins σ H s → t σ H Q →
    wpAny (model X.prog X.w) X.A (eval a X.env) (fun v s₁ => wpAny (model X.prog X.w) X.A (eval b X.env) (fun u s₂ => wpAny (model X.prog X.w) X.A (compareOp op v u) (EP X pins σ Q) X.xe s₂) X.xe s₁) X.xe s
theorem nobehind (b : Expr) {op : CmpOp} (h : op ≠ .In) (h2 : op ≠ .NotIn) : behindInMarks op b = false := by
  have e1 : (op == CmpOp.In) = false := by cases op <;> first | rfl | exact absurd rfl h
  have e2 : (op == CmpOp.NotIn) = false := by cases op <;> first | rfl | exact absurd rfl h2
  cases b <;> simp [behindInMarks, e1, e2]
def tIsN (ta : TE) : TE := fun σ H Q => ta σ H fun x H1 => Q (.bl (decide (x = .non))) H1
theorem RelV.none_iff {x : V} {v : Value} (r : RelV x v) : (v == Value.none) = decide (x = .non) := by
  cases x with
  | non => cases r; rfl
  | bl _ => cases r; rfl
  | int _ => obtain ⟨t, rfl⟩ := r; rfl
  | str _ => obtain ⟨t, rfl⟩ := r; rfl
  | byt _ => obtain ⟨t, rfl⟩ := r; rfl
  | flt _ => obtain ⟨t, rfl⟩ := r; rfl
  | ref _ => cases r; rfl
  | ty _ => cases r; rfl
theorem pc_isN {j pos'} (ha : PE X a ta) : PC X .Is a (.Constant .none j pos') (tIsN ta) := by
  intro pins s σ H Q I h
  refine thn (ha pins s σ H _ I h) fun v s1 ⟨x, H1, I1, r1, q1⟩ => ?_
  exact Constant_none (is_none_gen ⟨.bl _, H1, I1, by rw [r1.none_iff]; rfl, q1⟩)
def tB (t : TE) : TT := fun σ H Q => t σ H fun x H1 => ∃ c, x = .bl c ∧ Q c H1
theorem pt_cmp {op : CmpOp} {t : TE} (h : PC X op a b t) (h1 : behindInMarks op b = false := by first | exact nobehind _ (by decide) (by decide) | rfl) : PT X (.Compare a [op] [b] pos) (tB t) := by
  intro pins s σ H Q I hw
  refine wpAny_isTrue_Compare1 (thn (h pins s σ H _ I hw) fun v s1 h1 => thn h1 fun u s2 h2 => thn h2 fun c s3 ⟨x, H1, I1, r1, q1⟩ => ?_) h1
  obtain ⟨d, rfl, q⟩ := q1
  cases r1
  exact wpAny_truthy_bool ⟨H1, I1, q⟩
theorem pt_val {e : Expr} {t : TE} (h : PE X e t) (he : ∀ whole, isTrue e X.env whole = (do let v ← whole; standAt e.pos; holding [v] (truthy v)) := by intro _; rfl) : PT X e (tB t) := by
  intro pins s σ H Q I hw
  refine isTrue_plain (thn (h pins s σ H _ I hw) fun v s1 ⟨x, H1, I1, r1, q1⟩ => ?_) (he _)
  obtain ⟨d, rfl, q⟩ := q1
  cases r1
  exact wpAny_truthy_bool ⟨H1, I1, q⟩
variable {tA tB' : TT} {rest : List Expr}
def tAnd (t u : TT) : TT := fun σ H Q => t σ H fun c H1 => if c = true then u σ H1 Q else Q false H1
theorem pw_and1 (ha : PT X a tA) : PW X (.BoolOp .And [a] pos) tA := by
  intro wh pins s σ H Q I h
  refine isTrue_and (thn (ha pins s σ H Q I h) fun c s1 e => ?_)
  cases c with
  | true => exact isTrue_and_nil e
  | false => exact e
theorem pw_and (ha : PT X a tA) (hb : PW X (.BoolOp .And (b :: rest) pos) tB') : PW X (.BoolOp .And (a :: b :: rest) pos) (tAnd tA tB') := by
  intro wh pins s σ H Q I h
  refine isTrue_and (thn (ha pins s σ H _ I h) fun c s1 ⟨H1, I1, q1⟩ => ?_)
  cases c with
  | true => exact hb wh pins s1 σ H1 Q I1 q1
  | false => exact ⟨H1, I1, q1⟩
def tIf (t : TT) (ta tb : TE) : TE := fun σ H Q => t σ H fun c H1 => if c = true then ta σ H1 Q else tb σ H1 Q
theorem pe_ifExp {c : Expr} (hc : PT X c tA) (ha : PE X a ta) (hb : PE X b tb) : PE X (.IfExp c a b pos) (tIf tA ta tb) := by
  intro pins s σ H Q I h
  refine wpAny_IfExp (thn (hc pins s σ H _ I h) fun d s1 ⟨H1, I1, q1⟩ => ?_)
  cases d with
  | true => exact ha pins s1 σ H1 Q I1 q1
  | false => exact hb pins s1 σ H1 Q I1 q1
end
end L2
namespace L2
open PySem PySem.Spec PyProof.Rows
def SqL (K : PySem.W.Frag) (H : Hp) (a : Addr) (xs : List V) : Prop :=
  Rd H a (.lst xs) ∨
    ∃ (o : Obj) (its : Array Value) (n : Nat), K.lookup a = some o ∧ o.cls = .type "list" ∧ o.dict = none ∧ o.data = .seq its n ∧ its.size ≤ sizeLine ∧ Vals xs its.toList
def SqT (K : PySem.W.Frag) (H : Hp) (a : Addr) (xs : List V) : Prop :=
  Rd H a (.tup xs) ∨
    ∃ (o : Obj) (its : Array Value) (n : Nat), K.lookup a = some o ∧ o.cls = .type "tuple" ∧ o.data = .seq its n ∧ its.size ≤ sizeLine ∧ Vals xs its.toList
def absV : Value → Option V
  | .none => some .non
  | .bool b => some (.bl b)
  | .int i _ => some (.int i)
  | .str x _ => some (.str x)
  | .bytes b _ => some (.byt b)
  | .float b _ => some (.flt b)
  | .ref a => some (.ref a)
  | .type n => some (.ty n)
  | _ => none
theorem RelV.abs {x : V} {u : Value} (r : RelV x u) : absV u = some x := by
  cases x with
  | non => cases r; rfl
  | bl _ => cases r; rfl
  | int _ => obtain ⟨t, rfl⟩ := r; rfl
  | str _ => obtain ⟨t, rfl⟩ := r; rfl
  | byt _ => obtain ⟨t, rfl⟩ := r; rfl
  | flt _ => obtain ⟨t, rfl⟩ := r; rfl
  | ref _ => cases r; rfl
  | ty _ => cases r; rfl
theorem RelV.inj {x y : V} {u : Value} (r : RelV x u) (q : RelV y u) : x = y := Option.some.inj (r.abs.symm.trans q.abs)
theorem Vals.inj : ∀ {xs ys : List V} {us : List Value}, Vals xs us → Vals ys us → xs = ys
  | _, _, _, .nil, .nil => rfl
  | _, _, _, .cons r t, .cons r' t' => by rw [r.inj r', Vals.inj t t']
section
variable {X : Cx} {pins : List (Addr × Obj)} {σ : St} {H : Hp} {s : Shared} {a : Addr} {xs ys : List V}
theorem SqL.of {K : PySem.W.Frag} (h : H a = some (.lst xs)) : SqL K H a xs := .inl (.inl h)
theorem SqT.of {K : PySem.W.Frag} (h : H a = some (.tup xs)) : SqT K H a xs := .inl (.inl h)
theorem Inv.list (I : Inv X pins σ H s) (h : SqL X.K H a xs) : ∃ its : List Value, Vals xs its ∧ PlainL s.heap a its.toArray ∧ xs.length ≤ sizeLine := by
  rcases h with h | ⟨o, its, n, hk, hc, hd, hs, hz, r⟩
  · obtain ⟨z, its, n, r, e⟩ := h.ok I.hok
    exact ⟨its, r, ⟨_, n, e, rfl, rfl, rfl⟩, z⟩
  · refine ⟨its.toList, r, ⟨o, n, I.kIn a o hk, hc, hd, by simpa using hs⟩, ?_⟩
    have e := r.length
    simp only [Array.length_toList] at e
    omega
theorem Inv.tuple (I : Inv X pins σ H s) (h : SqT X.K H a xs) : ∃ its : List Value, Vals xs its ∧ IsTup s.heap a its.toArray ∧ xs.length ≤ sizeLine := by
  rcases h with h | ⟨o, its, n, hk, hc, hs, hz, r⟩
  · obtain ⟨z, its, r, p⟩ := h.ok I.hok
    exact ⟨its, r, p, z⟩
  · refine ⟨its.toList, r, ⟨o, I.kIn a o hk, hc, n, by simpa using hs⟩, ?_⟩
    have e := r.length
    simp only [Array.length_toList] at e
    omega
theorem Inv.list_inj (I : Inv X pins σ H s) (h : SqL X.K H a xs) (h' : SqL X.K H a ys) : xs = ys := by
  obtain ⟨its, r, ⟨o, n, e, _, _, d⟩, _⟩ := I.list h
  obtain ⟨its', r', ⟨o', n', e', _, _, d'⟩, _⟩ := I.list h'
  rw [e] at e'; cases e'
  rw [d] at d'
  injection d' with d1 _
  have : its = its' := by simpa using congrArg Array.toList d1
  subst this
  exact r.inj r'
end
abbrev Cx.wish (X : Cx) (E : Value → Shared → Prop) : Cx := { X with xe := E }
abbrev Cx.nox (X : Cx) : Cx := X.wish fun _ _ => False
theorem Cx.Ok.wish {X : Cx} (ok : X.Ok) (E : Value → Shared → Prop) : (X.wish E).Ok :=
  ⟨ok.mod, ok.kind, ok.glob, ok.blt, ok.above, ok.inj, ok.has, ok.cab, ok.hd, ok.frames, ok.stk, ok.exf, ok.bs, ok.bsz, ok.noex, ok.exfs, ok.funs, ok.frf⟩
theorem Cx.Ok.unwish {X : Cx} {E : Value → Shared → Prop} (ok : (X.wish E).Ok) : X.Ok :=
  ⟨ok.mod, ok.kind, ok.glob, ok.blt, ok.above, ok.inj, ok.has, ok.cab, ok.hd, ok.frames, ok.stk, ok.exf, ok.bs, ok.bsz, ok.noex, ok.exfs, ok.funs, ok.frf⟩
section
variable {X : Cx} {pins : List (Addr × Obj)} {σ : St} {H : Hp} {s : Shared} {E : Value → Shared → Prop}
theorem Inv.wish (I : Inv X pins σ H s) (E : Value → Shared → Prop) : Inv (X.wish E) pins σ H s := ⟨I.ok.wish E, I.os, I.bare, I.base, I.loc, I.cell, I.free, I.freeC, I.pin, I.hok, I.len⟩
theorem Inv.unwish (I : Inv (X.wish E) pins σ H s) : Inv X pins σ H s := ⟨I.ok.unwish, I.os, I.bare, I.base, I.loc, I.cell, I.free, I.freeC, I.pin, I.hok, I.len⟩
theorem SP.unwish {D : Ends} {f : Flow} {s' : Shared} (h : SP (X.wish E) pins D f s') : SP X pins D f s' := by
  cases f with
  | next => obtain ⟨σ', H', I, q⟩ := h; exact ⟨σ', H', I.unwish, q⟩
  | brk => obtain ⟨σ', H', I, q⟩ := h; exact ⟨σ', H', I.unwish, q⟩
  | cont => obtain ⟨σ', H', I, q⟩ := h; exact ⟨σ', H', I.unwish, q⟩
  | ret u => obtain ⟨v, σ', H', I, r, q⟩ := h; exact ⟨v, σ', H', I.unwish, r, q⟩
theorem PSs.nox {st : List Stmt} {t : TS} (h : PSs X.nox st t) : PSs X st t := fun pins s σ H D I hw =>
  wpAny_mono (h pins s σ H D (I.wish _) hw) (fun _ _ q => q.unwish) fun _ _ z => False.elim z
end
section
variable {X : Cx} {st : Stmt} {rest : List Stmt} {t u : TS} {e : Expr} {te : TE} {pos : Pos}
def tNext : TS := fun D σ H => D.nx σ H
def tSeq (t u : TS) : TS := fun D σ H => t { D with nx := u D } σ H
theorem pss_nil : PSs X [] tNext := fun _ _ σ H _ I h => wpAny_execs_nil ⟨σ, H, I, h⟩
theorem pss_cons (h1 : PS X st t) (h2 : PSs X rest u) : PSs X (st :: rest) (tSeq t u) := by
  intro pins s σ H D I h
  refine wpAny_execs_cons (thn (h1 pins s σ H { D with nx := u D } I h) fun f s1 q => ?_)
  cases f with
  | next =>
    obtain ⟨σ', H', I', q⟩ := q
    exact h2 pins s1 σ' H' D I' q
  | ret v => exact q
  | brk => exact q
  | cont => exact q
theorem pss_one (h1 : PS X st t) : PSs X [st] t := by
  intro pins s σ H D I h
  refine wpAny_execs_cons (thn (h1 pins s σ H D I h) fun f s1 q => ?_)
  cases f with
  | next => exact wpAny_execs_nil q
  | ret v => exact q
  | brk => exact q
  | cont => exact q
theorem Inv.quiet {pins : List (Addr × Obj)} {σ : St} {H : Hp} {s : Shared} (I : Inv X pins σ H s) : interactive X.env = false := by simp [interactive, I.ok.kind]
def tDrop (te : TE) : TS := fun D σ H => te σ H fun _ H1 => D.nx σ H1
theorem ps_expr (he : PE X e te) (hs : swapsWith e none pos.line X.env = pure false := by rfl) : PS X (.Expr e pos) (tDrop te) := by
  intro pins s σ H D I h
  exact wpAny_Expr_any (thn (he pins s σ H _ I h) fun v s1 ⟨x, H1, I1, r1, q1⟩ => ⟨σ, H1, I1, q1⟩) I.quiet hs
def tRet (te : TE) : TS := fun D σ H => te σ H D.rt
theorem ps_ret (he : PE X e te) : PS X (.Return (some e) pos) (tRet te) := by
  intro pins s σ H D I h
  exact wpAny_Return_some (thn (he pins s σ H _ I h) fun v s1 ⟨x, H1, I1, r1, q1⟩ => ⟨x, σ, H1, I1, r1, q1⟩)
def tIfS (c : TT) (t u : TS) : TS := fun D σ H => c σ H fun b H1 => if b = true then t D σ H1 else u D σ H1
theorem ps_if {c : Expr} {a b : List Stmt} {tc : TT} (hc : PT X c tc) (ha : PSs X a t) (hb : PSs X b u) : PS X (.If c a b pos) (tIfS tc t u) := by
  intro pins s σ H D I h
  refine wpAny_If (thn (hc pins s σ H _ I h) fun d s1 ⟨H1, I1, q1⟩ => ?_)
  cases d with
  | true => exact ha pins s1 σ H1 D I1 q1
  | false => exact hb pins s1 σ H1 D I1 q1
end
abbrev TG := V → St → Hp → (St → Hp → Prop) → Prop
abbrev TGs := List V → St → Hp → (St → Hp → Prop) → Prop
def PG (X : Cx) (target : Expr) (t : TG) : Prop :=
  ∀ (pins : List (Addr × Obj)) (s : Shared) (σ : St) (H : Hp) (v : V) (u : Value) (Q : St → Hp → Prop), Inv X pins σ H s → RelV v u → t v σ H Q →
    wpAny (model X.prog X.w) X.A (assign target X.env u) (fun _ s' => ∃ σ' H', Inv X pins σ' H' s' ∧ Q σ' H') X.xe s
def PGs (X : Cx) (ts : List Expr) (t : TGs) : Prop :=
  ∀ (pins : List (Addr × Obj)) (s : Shared) (σ : St) (H : Hp) (vs : List V) (us : List Value) (Q : St → Hp → Prop), Inv X pins σ H s → Vals vs us → t vs σ H Q →
    wpAny (model X.prog X.w) X.A (assignInOrder ((assignEach ts X.env).map (·.2)) us) (fun _ s' => ∃ σ' H', Inv X pins σ' H' s' ∧ Q σ' H') X.xe s
section
variable {X : Cx} {pos : Pos}
def gName (i : Nat) : TG := fun v σ H Q => Q (σ.set i (some v)) H
theorem pg_name {i : Nat} {x : Str} (hN : X.N.Nodup) (hi : X.N[i]? = some x) (hx : Loc X.env.scope x) (hf : X.fn x = true ∨ X.env.scope.names.lookup x = some .local := by first | exact .inl rfl | exact .inr rfl | assumption) : PG X (.Name x pos) (gName i) := by
  intro pins s σ H v u Q I r h
  exact wpAny_assign_Name (store_ok I hN hi hx r (fun s' I' => ⟨_, H, I', h⟩) hf)
def gNil : TGs := fun vs σ H Q => vs = [] ∧ Q σ H
def gCons (t : TG) (u : TGs) : TGs := fun vs σ H Q => ∃ v r, vs = v :: r ∧ t v σ H fun σ' H' => u r σ' H' Q
theorem pgs_nil : PGs X [] gNil := by
  intro pins s σ H vs us Q I r h
  obtain ⟨e, h⟩ := h
  subst e
  cases r
  exact assignInOrder_nil ⟨σ, H, I, h⟩
theorem pgs_cons {e : Expr} {es : List Expr} {t : TG} {u : TGs} (h1 : PG X e t) (h2 : PGs X es u)
    (hs : (assignEach (e :: es) X.env).map (·.2) = assign e X.env :: (assignEach es X.env).map (·.2) := by rfl) : PGs X (e :: es) (gCons t u) := by
  intro pins s σ H vs us Q I r h
  obtain ⟨v, vr, e1, h⟩ := h
  subst e1
  cases r with
  | cons r rr =>
    rw [hs]
    refine assignInOrder_cons (thn (h1 pins s σ H _ _ _ I r h) fun _ s1 ⟨σ1, H1, I1, q1⟩ => ?_)
    exact h2 pins s1 σ1 H1 _ _ Q I1 rr q1
def gTup (K : PySem.W.Frag) (n : Nat) (t : TGs) : TG := fun v σ H Q => ∃ a xs, v = .ref a ∧ SqT K H a xs ∧ xs.length = n ∧ t xs σ H Q
theorem pg_tup {es : List Expr} {k : Nat} {t : TGs} {n : Nat} (hc : X.calm = true) (h : PGs X es t)
    (hn : (assignEach es X.env).length = n := by rfl) (hst : (assignEach es X.env).findIdx? (·.1) = none := by rfl) : PG X (.Tuple es k pos) (gTup X.K n t) := by
  intro pins s σ H v u Q I r hw
  obtain ⟨a, xs, e1, hq, hl, hw⟩ := hw
  subst e1
  cases r
  obtain ⟨its, rv, ht, hz⟩ := I.tuple hq
  refine assign_Tuple_tuple (I.ok.hd hc) ht (by simp [hn, ← hl, rv.length]) hst fun h' hx => ?_
  have I1 : Inv X pins σ H { s with heap := h' } := I.kept (t' := s.toks) fun b o e => hx b o (Nat.ne_of_lt (Heap.lt_size e)) e
  exact h pins _ σ H xs _ Q I1 (by simpa using rv) hw
def tAsg (te : TE) (g : TG) : TS := fun D σ H => te σ H fun x H1 => g x σ H1 D.nx
theorem ps_set {i : Nat} {x : Str} {e : Expr} {te : TE} {pos' : Pos} (hN : X.N.Nodup) (hi : X.N[i]? = some x) (hx : Loc X.env.scope x) (he : PE X e te) (hs : swapsWith e (some (.Name x pos')) pos.line X.env = pure false := by rfl) (hf : X.fn x = true ∨ X.env.scope.names.lookup x = some .local := by first | exact .inl rfl | exact .inr rfl | assumption) :
    PS X (.Assign [.Name x pos'] e pos) (tAsg te (gName i)) := by
  intro pins s σ H D I h
  refine wpAny_Assign_Name (thn (he pins s σ H _ I h) fun v s1 ⟨y, H1, I1, r1, q1⟩ => ?_) hs
  exact store_ok I1 hN hi hx r1 (fun s2 I2 => ⟨_, H1, I2, q1⟩) hf
end
section
variable {X : Cx} {pos : Pos}
def tWhile (c : TT) (tb : TS) : TS := fun D σ H => ∃ W : Nat → St → Hp → Prop, (∃ m, W m σ H) ∧ ∀ m σ H, W m σ H →
  c σ H fun b H1 => if b = true then ∃ N : St → Hp → Prop, (∀ σ' H', N σ' H' → ∃ m', m' < m ∧ W m' σ' H') ∧ tb { D with nx := N, ct := N, bk := D.nx } σ H1 else D.nx σ H1
theorem ps_while {c : Expr} {body : List Stmt} {tc : TT} {tb : TS} (hp : PassesOwn (model X.prog X.w) X.A X.env X.xe) (hc : PT X c tc) (hb : PSs X body tb) : PS X (.While c body [] pos) (tWhile tc tb) := by
  intro pins s σ H D I h
  obtain ⟨W, ⟨m0, w0⟩, turn⟩ := h
  refine wpAny_While (codeAny_whileLoop (fun n s' => ∃ σ' H', Inv X pins σ' H' s' ∧ W n σ' H') ?_ m0 ⟨σ, H, I, w0⟩)
  rintro n s1 ⟨σ1, H1, I1, w1⟩
  refine wpAny_passesOwn hp (thn (hc pins s1 σ1 H1 _ I1 (turn n σ1 H1 w1)) fun b s2 ⟨H2, I2, q2⟩ => ?_)
  cases b with
  | true =>
    obtain ⟨N, hN, q2⟩ := q2
    rw [if_pos rfl]
    refine wpAny_passesOwn hp (thn (hb pins s2 σ1 H2 _ I2 q2) fun f s3 q3 => ?_)
    cases f with
    | next =>
      obtain ⟨σ3, H3, I3, n3⟩ := q3
      obtain ⟨m', hm, w3⟩ := hN σ3 H3 n3
      exact ⟨m', hm, σ3, H3, I3, w3⟩
    | cont =>
      obtain ⟨σ3, H3, I3, n3⟩ := q3
      obtain ⟨m', hm, w3⟩ := hN σ3 H3 n3
      exact ⟨m', hm, σ3, H3, I3, w3⟩
    | brk => exact q3
    | ret v => exact q3
  | false =>
    rw [if_neg Bool.false_ne_true]
    exact wpAny_execs_nil ⟨σ1, H2, I2, q2⟩
end
structure It where
  go : Nat → Hp → Prop
  yld : Nat → Hp → V → Hp → Prop
  stop : Nat → Hp → Prop
def FpOk (X : Cx) (pins : List (Addr × Obj)) (H : Hp) (b : Addr) : Prop :=
  H b = none ∧ b ≠ X.env.locals ∧ b ∉ X.fs ∧ (b ∈ X.ex ∨ X.s_0.heap.objs.size ≤ b) ∧ (∀ x c, X.env.cells.lookup x = some c → c ≠ b) ∧ ∀ p ∈ X.pn ++ pins, p.1 ≠ b
theorem Inv.fpOk {X : Cx} {pins : List (Addr × Obj)} {σ : St} {H H' : Hp} {s : Shared} {b : Addr} (I : Inv X pins σ H s) (hb : s.heap.objs.size ≤ b) (hn : H' b = none) : FpOk X pins H' b := by
  refine ⟨hn, Nat.ne_of_gt (Nat.lt_of_lt_of_le I.lt hb), I.nofs hb, .inr (Nat.le_trans I.sz hb), fun x c e z => ?_, fun p hp z => ?_⟩
  · obtain ⟨v, q⟩ := I.cell x c e
    exact absurd (Nat.lt_of_lt_of_le q.lt (by rw [z]; exact hb)) (Nat.lt_irrefl _)
  · exact absurd (Nat.lt_of_lt_of_le (Heap.lt_size (I.pin p hp).1) (by rw [z]; exact hb)) (Nat.lt_irrefl _)
structure Turn (P : Program) (w : World) (K : PySem.W.Frag) (tg : Expr) (J : It) (fp : List Addr) (it : Addr) (tn : Nat → Heap → Prop) : Prop where
  mem : it ∈ fp
  obj : ∀ i h, tn i h → ∀ b ∈ fp, ∃ o, h.get? b = some o ∧ ∀ v, o.data ≠ .cell v
  keep : ∀ i h h', tn i h → (∀ b ∈ fp, ∀ o, h.get? b = some o → h'.get? b = some o) → tn i h'
  item : ∀ (X : Cx), X.prog = P → X.w = w → X.K = K → X.calm = true → ∀ (i : Nat) (pins : List (Addr × Obj)) (s : Shared) (σ : St) (H : Hp) (E : Value → Shared → Prop), Inv X pins σ H s → (∀ b ∈ fp, FpOk X pins H b) → tn i s.heap → J.go i H →
    wpAny (model P w) X.A (pyNext (.ref it)) (fun r s1 => ∃ u, r = some u ∧
      wpAny (model P w) X.A (letOwnedTupleGo tg (.ref it) u) (fun _ s2 => ∃ x H', Inv X pins σ H' s2 ∧ RelV x u ∧ J.yld i H x H' ∧ tn (i + 1) s2.heap ∧ ∀ b ∈ fp, H' b = none) E s1) E s
  done : ∀ (X : Cx), X.prog = P → X.w = w → X.K = K → X.calm = true → ∀ (i : Nat) (pins : List (Addr × Obj)) (s : Shared) (σ : St) (H : Hp) (E : Value → Shared → Prop), Inv X pins σ H s → (∀ b ∈ fp, FpOk X pins H b) → tn i s.heap → J.stop i H →
    wpAny (model P w) X.A (pyNext (.ref it)) (fun r s1 => r = none ∧ Inv X pins σ H s1) E s
  self : ∀ (A : Around) (i : Nat) (s : Shared) (Q : Value → Shared → Prop) (E : Value → Shared → Prop), tn i s.heap → Q (.ref it) s → wpAny (model P w) A (pyIter (.ref it)) Q E s
abbrev TI := St → Hp → (It → Hp → Prop) → Prop
def PIE (X : Cx) (pins : List (Addr × Obj)) (σ : St) (tg : Expr) (R : It → Hp → Prop) (itv : Value) (s2 : Shared) : Prop :=
  ∃ (it : Addr) (fp : List Addr) (tn : Nat → Heap → Prop) (J : It) (H' : Hp), itv = .ref it ∧ Inv X pins σ H' s2 ∧ Turn X.prog X.w X.K tg J fp it tn ∧ tn 0 s2.heap ∧ (∀ b ∈ fp, FpOk X pins H' b) ∧ R J H'
def PI (X : Cx) (tg iter : Expr) (wi : TI) : Prop :=
  ∀ (pins : List (Addr × Obj)) (s : Shared) (σ : St) (H : Hp) (R : It → Hp → Prop), Inv X pins σ H s → wi σ H R →
    wpAny (model X.prog X.w) X.A (eval iter X.env) (fun v s1 => wpAny (model X.prog X.w) X.A (pyIter v) (PIE X pins σ tg R) X.xe s1) X.xe s
theorem go_of {M : Model} {A : Around} {E : Value → Shared → Prop} {s : Shared} {tg : Expr} {it : Addr} {u : Value} {o : Obj} {n : String} {vs : Array Value} {Q : Unit → Shared → Prop} (ho : s.heap.get? it = some o) (hc : o.cls = .type n) (hd : o.data = .fields vs)
    (hn : ["enumerate", "zip", "dict_itemiterator", "dict_reverseitemiterator", "odict_iterator", "itertools.zip_longest", "itertools.pairwise"].contains n = false) (hQ : Q () s) : wpAny M A (letOwnedTupleGo tg (.ref it) u) Q E s := by
  unfold letOwnedTupleGo
  cases tg <;> first
    | exact wpAny_pure hQ
    | (cases u <;> first
        | exact wpAny_pure hQ
        | (refine wpAny_bind (wpAny_load ho ?_)
           rw [hc, hd]
           show wpAny M A (if (["enumerate", "zip", "dict_itemiterator", "dict_reverseitemiterator", "odict_iterator", "itertools.zip_longest", "itertools.pairwise"].contains n && vs[0]? == some (rawInt _)) = true then _ else _) Q E s
           rw [if_neg (by intro h; rw [hn, Bool.false_and] at h; cases h)]
           exact wpAny_pure hQ))
def Itl (K : PySem.W.Frag) (a : Addr) : It :=
  ⟨fun i H => ∃ xs x, SqL K H a xs ∧ xs[i]? = some x, fun i H x H' => H' = H ∧ ∀ xs, SqL K H a xs → xs[i]? = some x, fun i H => ∃ xs, SqL K H a xs ∧ xs.length ≤ i⟩
theorem turn_list {P : Program} {w : World} {K : PySem.W.Frag} {tg : Expr} (a it : Addr) : Turn P w K tg (Itl K a) [it] it (fun i h => h.IsListIter it a i) where
  mem := by simp
  obj := fun i h st b hb => by
    have e : b = it := by simpa using hb
    subst e
    obtain ⟨o, e, c, d⟩ := st
    exact ⟨o, e, fun v z => by rw [d] at z; cases z⟩
  keep := fun i h h' st k => st.at fun o e => k it (by simp) o e
  item := by
    intro X hP hw hK hc i pins s σ H E I hf st hg
    subst hP hw hK
    obtain ⟨xs, x, hq, hx⟩ := hg
    obtain ⟨its, rv, p, hz⟩ := I.list hq
    obtain ⟨u, hu, ru⟩ := rv.get hx
    obtain ⟨f0, f1, f2, f3, f4, f5⟩ := hf it (by simp)
    refine wpAny_pyNext_list_item st p.isList (x := u) (by simpa using hu) fun h' st' sb => ?_
    have I1 : Inv X pins σ H { s with heap := h' } := I.turned (t' := s.toks) (fun b o hb e => (sb.2 b hb).trans e) f0 f1 f3 f4 f5
    obtain ⟨o, e, c, d⟩ := id st'
    exact ⟨u, rfl, go_of (s := { s with heap := h' }) e c d (by decide) ⟨x, H, I1, ru, ⟨rfl, fun ys hy => by rw [I.list_inj hy hq]; exact hx⟩, st', fun b hb => (hf b hb).1⟩⟩
  done := by
    intro X hP hw hK hc i pins s σ H E I hf st hg
    subst hP hw hK
    obtain ⟨xs, hq, hx⟩ := hg
    obtain ⟨its, rv, p, hz⟩ := I.list hq
    obtain ⟨f0, f1, f2, f3, f4, f5⟩ := hf it (by simp)
    have hl := rv.length
    exact wpAny_pyNext_list_end (I.ok.hd hc) st p.isList (by simp; omega) fun h' eb => ⟨rfl, I.turned (t' := s.toks) (fun b o hb e => eb b o hb e) f0 f1 f3 f4 f5⟩
  self := fun _ _ _ _ _ st h => wpAny_pyIter_listiter st h
end L2
namespace L2
open PySem PySem.Spec PyProof.Rows
section
variable {X : Cx} {tg : Expr}
def iList (K : PySem.W.Frag) (tl : TE) : TI := fun σ H R => tl σ H fun x H1 => ∃ a, x = .ref a ∧ (∃ xs, SqL K H1 a xs) ∧ R (Itl K a) H1
theorem pi_list {l : Expr} {tl : TE} (hl : PE X l tl) : PI X tg l (iList X.K tl) := by
  intro pins s σ H R I h
  refine thn (hl pins s σ H _ I h) fun v s1 ⟨x, H1, I1, r1, q1⟩ => ?_
  obtain ⟨a, e, ⟨xs, hq⟩, q⟩ := q1
  subst e
  cases r1
  obtain ⟨its, rv, p, hz⟩ := I1.list hq
  refine wpAny_pyIter_list p.isList ?_
  refine ⟨s1.heap.objs.size, [s1.heap.objs.size], _, _, H1, rfl, I1.kept (t' := s1.toks) fun b o e => Heap.get?_push_of_some _ e, turn_list a _, ⟨_, Heap.get?_push_size _ rfl, rfl, rfl⟩, fun b hb => ?_, q⟩
  have e : b = s1.heap.objs.size := by simpa using hb
  subst e
  exact I1.fpOk (Nat.le_refl _) (I1.hok.fresh (Nat.le_refl _))
def tFor (wi : TI) (g : TG) (tb : TS) : TS := fun D σ H => wi σ H fun J H1 => ∃ W : Nat → Nat → St → Hp → Prop, (∃ m, W 0 m σ H1) ∧ ∀ i m σ H, W i m σ H →
  (J.stop i H ∧ D.nx σ H) ∨ (J.go i H ∧ ∃ N : St → Hp → Prop, (∀ σ' H', N σ' H' → ∃ m', m' < m ∧ W (i + 1) m' σ' H') ∧ ∀ x H', J.yld i H x H' → g x σ H' fun σ2 H2 => tb { D with nx := N, ct := N, bk := D.nx } σ2 H2)
def pinsAt (fp : List Addr) (h : Heap) : List (Addr × Obj) := fp.filterMap fun b => (h.get? b).map fun o => (b, o)
theorem mem_pinsAt {fp : List Addr} {h : Heap} {b : Addr} {o : Obj} (hb : b ∈ fp) (e : h.get? b = some o) : (b, o) ∈ pinsAt fp h := List.mem_filterMap.mpr ⟨b, hb, by rw [e]; rfl⟩
theorem of_pinsAt {fp : List Addr} {h : Heap} {p : Addr × Obj} (hp : p ∈ pinsAt fp h) : p.1 ∈ fp ∧ h.get? p.1 = some p.2 := by
  obtain ⟨b, hb, e⟩ := List.mem_filterMap.mp hp
  cases q : h.get? b with
  | none => rw [q] at e; cases e
  | some o =>
    rw [q] at e
    have e' : (b, o) = p := Option.some.inj e
    subst e'
    exact ⟨hb, q⟩
theorem Inv.pinned {pins : List (Addr × Obj)} {σ : St} {H : Hp} {s : Shared} {fp : List Addr} (I : Inv X pins σ H s) (hf : ∀ b ∈ fp, FpOk X pins H b) (ho : ∀ b ∈ fp, ∃ o, s.heap.get? b = some o ∧ ∀ v, o.data ≠ .cell v) : Inv X (pins ++ pinsAt fp s.heap) σ H s :=
  I.pins_of fun p hp => (List.mem_append.mp hp).elim (fun z => I.pin p (List.mem_append_right _ z)) fun z => by
    obtain ⟨hb, e⟩ := of_pinsAt z
    obtain ⟨f0, f1, f2, _⟩ := hf p.1 hb
    obtain ⟨o, e', d⟩ := ho p.1 hb
    rw [e] at e'; cases e'
    exact ⟨e, f0, f1, f2, d⟩
theorem Inv.unpinned {pins pl : List (Addr × Obj)} {σ : St} {H : Hp} {s : Shared} (I : Inv X (pins ++ pl) σ H s) : Inv X pins σ H s := I.pins_of fun p hp => I.pin p (List.mem_append_right _ (List.mem_append_left _ hp))
theorem ps_for {iter : Expr} {body : List Stmt} {wi : TI} {g : TG} {tb : TS} {pos : Pos} (hp : PassesOwn (model X.prog X.w) X.A X.env X.xe) (hc : X.calm = true) (hi : PI X tg iter wi) (hg : PG X tg g) (hb : PSs X body tb)
    (hs : ∀ x, foldedSetIterable iter X.env x = pure x := by intro _; rfl) : PS X (.For tg iter body [] pos) (tFor wi g tb) := by
  intro pins s σ H D I h
  refine wpAny_For (thn (hi pins s σ H _ I h) fun v s1 h1 => thn h1 fun itv s2 h2 => ?_) hs
  obtain ⟨it, fp, tn, J, H2, e, I2, T, st2, f2, W, ⟨m0, w0⟩, turn⟩ := h2
  subst e
  -- what stays true of the iterator's objects through the loop
  have stat : ∀ {H' : Hp}, (∀ b ∈ fp, H' b = none) → ∀ b ∈ fp, FpOk X pins H' b := fun hn b hb => ⟨hn b hb, (f2 b hb).2⟩
  refine codeAny_forLoop_any (fun n s' => ∃ i σ' H', Inv X pins σ' H' s' ∧ tn i s'.heap ∧ (∀ b ∈ fp, H' b = none) ∧ W i n σ' H') ?_ m0 ⟨0, σ, H2, I2, st2, fun b hb => (f2 b hb).1, w0⟩
  rintro n s3 ⟨i, σ3, H3, I3, st3, fr3, w3⟩
  rcases turn i n σ3 H3 w3 with ⟨stop, qn⟩ | ⟨go, N, hN, step⟩
  · refine wpAny_passesOwn hp (thn (T.done X rfl rfl rfl hc i pins s3 σ3 H3 X.xe I3 (stat fr3) st3 stop) fun r s4 ⟨hr, I4⟩ => ?_)
    subst hr
    exact wpAny_execs_nil ⟨σ3, H3, I4, qn⟩
  · refine wpAny_passesOwn hp (thn (T.item X rfl rfl rfl hc i pins s3 σ3 H3 X.xe I3 (stat fr3) st3 go) fun r s4 ⟨u, hr, h4⟩ => ?_)
    subst hr
    refine wpAny_passesOwn hp (thn h4 fun _ s5 ⟨x, H5, I5, r5, y5, st5, fr5⟩ => ?_)
    have I5' := I5.pinned (stat fr5) (T.obj _ _ st5)
    refine wpAny_passesOwn hp (thn (hg _ s5 σ3 H5 x u _ I5' r5 (step x H5 y5)) fun _ s6 ⟨σ6, H6, I6, q6⟩ => ?_)
    refine wpAny_passesOwn hp (thn (hb _ s6 σ6 H6 _ I6 q6) fun f s7 q7 => ?_)
    have again : ∀ {σ7 : St} {H7 : Hp}, Inv X (pins ++ pinsAt fp s5.heap) σ7 H7 s7 → N σ7 H7 → ∃ m, m < n ∧ ∃ i σ' H', Inv X pins σ' H' s7 ∧ tn i s7.heap ∧ (∀ b ∈ fp, H' b = none) ∧ W i m σ' H' := fun {σ7 H7} I7 n7 => by
      obtain ⟨m', hm, w7⟩ := hN σ7 H7 n7
      refine ⟨m', hm, i + 1, σ7, H7, I7.unpinned, T.keep _ _ _ st5 fun b hb o e => (I7.pin (b, o) (List.mem_append_right _ (List.mem_append_right _ (mem_pinsAt hb e)))).1, fun b hb => ?_, w7⟩
      obtain ⟨o, e, d⟩ := T.obj _ _ st5 b hb
      exact (I7.pin (b, o) (List.mem_append_right _ (List.mem_append_right _ (mem_pinsAt hb e)))).2.1
    cases f with
    | next => obtain ⟨σ7, H7, I7, n7⟩ := q7; exact again I7 n7
    | cont => obtain ⟨σ7, H7, I7, n7⟩ := q7; exact again I7 n7
    | brk => obtain ⟨σ7, H7, I7, q7⟩ := q7; exact ⟨σ7, H7, I7.unpinned, q7⟩
    | ret v => obtain ⟨x7, σ7, H7, I7, r7, q7⟩ := q7; exact ⟨x7, σ7, H7, I7.unpinned, r7, q7⟩
end
theorem for_list {K : PySem.W.Frag} {a : Addr} {xs : List V} {g : TG} {tb : TS} {D : Ends} {σ : St} {H : Hp} (Pv : Nat → St → Hp → Prop) (h0 : Pv 0 σ H) (hl : ∀ i σ H, i ≤ xs.length → Pv i σ H → SqL K H a xs)
    (hs : ∀ i x σ H, xs[i]? = some x → Pv i σ H → g x σ H fun σ2 H2 => tb { D with nx := Pv (i + 1), ct := Pv (i + 1), bk := D.nx } σ2 H2) (hd : ∀ σ H, Pv xs.length σ H → D.nx σ H) :
    ∃ W : Nat → Nat → St → Hp → Prop, (∃ m, W 0 m σ H) ∧ ∀ i m σ H, W i m σ H →
      ((Itl K a).stop i H ∧ D.nx σ H) ∨ ((Itl K a).go i H ∧ ∃ N : St → Hp → Prop, (∀ σ' H', N σ' H' → ∃ m', m' < m ∧ W (i + 1) m' σ' H') ∧ ∀ x H', (Itl K a).yld i H x H' → g x σ H' fun σ2 H2 => tb { D with nx := N, ct := N, bk := D.nx } σ2 H2) := by
  refine ⟨fun i m σ H => m = xs.length - i ∧ i ≤ xs.length ∧ Pv i σ H, ⟨xs.length, by simp, Nat.zero_le _, h0⟩, ?_⟩
  rintro i m σ H ⟨rfl, hi, p⟩
  have q := hl i σ H hi p
  by_cases hlt : i < xs.length
  · refine .inr ⟨⟨xs, xs[i], q, by simp [hlt]⟩, Pv (i + 1), fun σ' H' p' => ⟨xs.length - (i + 1), by omega, rfl, hlt, p'⟩, fun x H' y => ?_⟩
    obtain ⟨e, y⟩ := y
    subst e
    exact hs i x σ _ (y xs q) p
  · have e : i = xs.length := by omega
    subst e
    exact .inl ⟨⟨xs, q, Nat.le_refl _⟩, hd σ H p⟩
end L2
namespace L2
open PySem PySem.Spec PyProof.Rows
abbrev R2 := V → V → Hp → VK → Prop
def OpR (X : Cx) (f : Value → Value → Sem Value) (r : R2) : Prop :=
  ∀ (pins : List (Addr × Obj)) (s : Shared) (σ : St) (H : Hp) (x y : V) (v u : Value) (Q : VK), Inv X pins σ H s → RelV x v → RelV y u → r x y H Q →
    wpAny (model X.prog X.w) X.A (f v u) (EP X pins σ Q) X.xe s
def UnR (X : Cx) (f : Value → Sem Value) (r : V → Hp → VK → Prop) : Prop :=
  ∀ (pins : List (Addr × Obj)) (s : Shared) (σ : St) (H : Hp) (x : V) (v : Value) (Q : VK), Inv X pins σ H s → RelV x v → r x H Q →
    wpAny (model X.prog X.w) X.A (f v) (EP X pins σ Q) X.xe s
def CallR (X : Cx) (f : Value) (r : List V → Hp → VK → Prop) : Prop :=
  ∀ (pins : List (Addr × Obj)) (s : Shared) (σ : St) (H : Hp) (xs : List V) (us : List Value) (Q : VK), Inv X pins σ H s → Vals xs us → r xs H Q →
    wpAny (model X.prog X.w) X.A (call f us) (EP X pins σ Q) X.xe s
def TruR (X : Cx) (r : V → Hp → (Bool → Hp → Prop) → Prop) : Prop :=
  ∀ (pins : List (Addr × Obj)) (s : Shared) (σ : St) (H : Hp) (x : V) (v : Value) (Q : Bool → Hp → Prop), Inv X pins σ H s → RelV x v → r x H Q →
    wpAny (model X.prog X.w) X.A (truthy v) (TP X pins σ Q) X.xe s
def tOp (r : R2) (ta tb : TE) : TE := fun σ H Q => ta σ H fun x H1 => tb σ H1 fun y H2 => r x y H2 Q
def tUn (r : V → Hp → VK → Prop) (ta : TE) : TE := fun σ H Q => ta σ H fun x H1 => r x H1 Q
def rI (C : Int → Int → Prop) (g : Int → Int → V) : R2 := fun x y H Q => ∃ i j, x = .int i ∧ y = .int j ∧ C i j ∧ Q (g i j) H
def rI0 (g : Int → Int → V) : R2 := fun x y H Q => ∃ i j, x = .int i ∧ y = .int j ∧ Q (g i j) H
def rU (g : Int → V) : V → Hp → VK → Prop := fun x H Q => ∃ i, x = .int i ∧ Q (g i) H
section
variable {X : Cx} {a b c : Expr} {ta tb tc : TE} {pos : Pos}
theorem binT (ha : PE X a ta) (hb : PE X b tb) {pins : List (Addr × Obj)} {s : Shared} {σ : St} {H : Hp} {R : V → V → Hp → Prop} (I : Inv X pins σ H s)
    (h : ta σ H fun x H1 => tb σ H1 fun y H2 => R x y H2) {Q : Value → Shared → Prop} {f : Value → Value → Sem Value}
    (hf : ∀ v u s2 x y H2, Inv X pins σ H2 s2 → RelV x v → RelV y u → R x y H2 → wpAny (model X.prog X.w) X.A (f v u) Q X.xe s2) :
    wpAny (model X.prog X.w) X.A (eval a X.env) (fun v s₁ => wpAny (model X.prog X.w) X.A (eval b X.env) (fun u s₂ => wpAny (model X.prog X.w) X.A (f v u) Q X.xe s₂) X.xe s₁) X.xe s := by
  refine thn (ha pins s σ H _ I h) fun v s1 ⟨x, H1, I1, r1, q1⟩ => ?_
  refine thn (hb pins s1 σ H1 _ I1 q1) fun u s2 ⟨y, H2, I2, r2, q2⟩ => ?_
  exact hf v u s2 x y H2 I2 r1 r2 q2
theorem pe_op {op : Operator} {r : R2} (ho : OpR X (binaryOp op) r) (ha : PE X a ta) (hb : PE X b tb) : PE X (.BinOp a op b pos) (tOp r ta tb) := by
  intro pins s σ H Q I h
  exact wpAny_BinOp (binT ha hb I h fun v u s2 x y H2 I2 rx ry q => ho pins s2 σ H2 x y v u Q I2 rx ry q)
theorem pe_un {op : UnaryOp} {r : V → Hp → VK → Prop} (ho : UnR X (unaryOp op) r) (ha : PE X a ta) : PE X (.UnaryOp op a pos) (tUn r ta) := by
  intro pins s σ H Q I h
  exact UnaryOp_ (thn (ha pins s σ H _ I h) fun v s1 ⟨x, H1, I1, r1, q1⟩ => ho pins s1 σ H1 x v Q I1 r1 q1)
theorem opI {f : Value → Value → Sem Value} {C : Int → Int → Prop} {g : Int → Int → Int}
    (rule : ∀ (i j : Int) (t u : Tok) (s : Shared) (Q : Value → Shared → Prop) (E : Value → Shared → Prop), C i j → Q (.int (g i j) s.toks) { s with toks := s.toks + 1 } → wpAny (model X.prog X.w) X.A (f (.int i t) (.int j u)) Q E s) :
    OpR X f (rI C fun i j => .int (g i j)) := by
  intro pins s σ H x y v u Q I rx ry h
  obtain ⟨i, j, rfl, rfl, hc, q⟩ := h
  obtain ⟨t, rfl⟩ := rx
  obtain ⟨t', rfl⟩ := ry
  exact rule i j t t' s _ _ hc ⟨.int (g i j), H, I.tok _, ⟨_, rfl⟩, q⟩
theorem opI0 {f : Value → Value → Sem Value} {g : Int → Int → Int}
    (rule : ∀ (i j : Int) (t u : Tok) (s : Shared) (Q : Value → Shared → Prop) (E : Value → Shared → Prop), Q (.int (g i j) s.toks) { s with toks := s.toks + 1 } → wpAny (model X.prog X.w) X.A (f (.int i t) (.int j u)) Q E s) :
    OpR X f (rI0 fun i j => .int (g i j)) := by
  intro pins s σ H x y v u Q I rx ry h
  obtain ⟨i, j, rfl, rfl, q⟩ := h
  obtain ⟨t, rfl⟩ := rx
  obtain ⟨t', rfl⟩ := ry
  exact rule i j t t' s _ _ ⟨.int (g i j), H, I.tok _, ⟨_, rfl⟩, q⟩
theorem opB0 {f : Value → Value → Sem Value} {g : Int → Int → Bool}
    (rule : ∀ (i j : Int) (t u : Tok) (s : Shared) (Q : Value → Shared → Prop) (E : Value → Shared → Prop), Q (.bool (g i j)) s → wpAny (model X.prog X.w) X.A (f (.int i t) (.int j u)) Q E s) :
    OpR X f (rI0 fun i j => .bl (g i j)) := by
  intro pins s σ H x y v u Q I rx ry h
  obtain ⟨i, j, rfl, rfl, q⟩ := h
  obtain ⟨t, rfl⟩ := rx
  obtain ⟨t', rfl⟩ := ry
  exact rule i j t t' s _ _ ⟨.bl (g i j), H, I, rfl, q⟩
def CDiv (i j : Int) : Prop := 0 < j ∧ j < 1073741824
theorem op_add : OpR X (binaryOp .Add) (rI0 fun i j => .int (i + j)) := opI0 fun _ _ _ _ _ _ _ q => add_int q
theorem op_sub : OpR X (binaryOp .Sub) (rI0 fun i j => .int (i - j)) := opI0 fun _ _ _ _ _ _ _ q => sub_int q
theorem op_fdiv : OpR X (binaryOp .FloorDiv) (rI CDiv fun i j => .int (i / j)) := opI fun i j _ _ _ _ _ hc q => by
  have h1 : (0 : Int) < j := hc.1
  have h2 : j < 1073741824 := hc.2
  exact floordiv_int (by omega) (by rw [Int.fdiv_eq_ediv_of_nonneg i (by omega)]; exact q) (.inl (PyProof.noPylong_small (by omega)))
theorem op_mod : OpR X (binaryOp .Mod) (rI (fun _ j => 0 < j) fun i j => .int (i % j)) := opI fun i j _ _ _ _ _ hc q => by
  have h1 : (0 : Int) < j := hc
  exact mod_int' (by omega) (by rw [Int.fmod_eq_emod_of_nonneg i (by omega)]; exact q)
theorem unI {f : Value → Sem Value} {g : Int → Int}
    (rule : ∀ (i : Int) (t : Tok) (s : Shared) (Q : Value → Shared → Prop) (E : Value → Shared → Prop), Q (.int (g i) s.toks) { s with toks := s.toks + 1 } → wpAny (model X.prog X.w) X.A (f (.int i t)) Q E s) :
    UnR X f (rU fun i => .int (g i)) := by
  intro pins s σ H x v Q I rx h
  obtain ⟨i, rfl, q⟩ := h
  obtain ⟨t, rfl⟩ := rx
  exact rule i t s _ _ ⟨.int (g i), H, I.tok _, ⟨_, rfl⟩, q⟩
theorem un_neg : UnR X (unaryOp .USub) (rU fun i => .int (-i)) := unI fun _ _ _ _ _ q => neg_int q
end
def scal : V → V → Bool
  | .non, .non => true | .non, .int _ => true | .int _, .non => true | .non, .bl _ => true | .bl _, .non => true | .non, .str _ => true | .str _, .non => true
  | .int _, .int _ => true | .bl _, .bl _ => true | .str _, .str _ => true | .byt _, .byt _ => true
  | .int _, .str _ => true | .str _, .int _ => true | .bl _, .str _ => true | .str _, .bl _ => true
  | _, _ => false
def rEq : R2 := fun x y H Q => scal x y = true ∧ Q (.bl (decide (x = y))) H
def rNe : R2 := fun x y H Q => scal x y = true ∧ Q (.bl (!decide (x = y))) H
theorem dec_int {i j : Int} : decide (V.int i = V.int j) = (i == j) := by
  rw [Bool.eq_iff_iff]
  simp
theorem dec_bl {i j : Bool} : decide (V.bl i = V.bl j) = (i == j) := by
  rw [Bool.eq_iff_iff]
  simp
theorem dec_str {i j : Str} : decide (V.str i = V.str j) = (i == j) := by
  rw [Bool.eq_iff_iff]
  simp
theorem dec_byt {i j : Array UInt8} : decide (V.byt i = V.byt j) = (i.toList == j.toList) := by
  rw [Bool.eq_iff_iff]
  cases i
  cases j
  simp
section
variable {X : Cx} {a b c : Expr} {ta tb tc : TE} {pos : Pos}
theorem fin_bl {pins : List (Addr × Obj)} {σ : St} {H : Hp} {s : Shared} {Q : VK} {k k' : Bool} (I : Inv X pins σ H s) (q : Q (.bl k) H) (e : k = k') : EP X pins σ Q (.bool k') s := by
  subst e
  exact ⟨.bl k, H, I, rfl, q⟩
theorem op_eq : OpR X (compareOp .Eq) rEq := by
  intro pins s σ H x y v u Q I rx ry h
  obtain ⟨hs, q⟩ := h
  cases x with
  | non =>
    cases rx
    cases y with
    | non => cases ry; exact PySem.EqNone.eq_none_none (fin_bl I q (by simp))
    | bl j => cases ry; exact PySem.EqNone.eq_none_bool (fin_bl I q (by simp))
    | int j => obtain ⟨t', rfl⟩ := ry; exact PySem.EqNone.eq_none_int (fin_bl I q (by simp))
    | str j => obtain ⟨t', rfl⟩ := ry; exact PySem.EqNone.eq_none_str (fin_bl I q (by simp))
    | _ => exact absurd (show false = true from hs) Bool.false_ne_true
  | bl i =>
    cases rx
    cases y with
    | non => cases ry; exact PySem.EqNone.eq_bool_none (fin_bl I q (by simp))
    | bl j => cases ry; exact eq_bool (fin_bl I q dec_bl)
    | str j => obtain ⟨t', rfl⟩ := ry; exact PySem.EqMixed.eq_bool_str (fin_bl I q (by simp))
    | _ => exact absurd (show false = true from hs) Bool.false_ne_true
  | int i =>
    obtain ⟨t, rfl⟩ := rx
    cases y with
    | non => cases ry; exact PySem.EqNone.eq_int_none (fin_bl I q (by simp))
    | int j => obtain ⟨t', rfl⟩ := ry; exact eq_int (fin_bl I q dec_int)
    | str j => obtain ⟨t', rfl⟩ := ry; exact PySem.EqMixed.eq_int_str (fin_bl I q (by simp))
    | _ => exact absurd (show false = true from hs) Bool.false_ne_true
  | str i =>
    obtain ⟨t, rfl⟩ := rx
    cases y with
    | non => cases ry; exact PySem.EqNone.eq_str_none (fin_bl I q (by simp))
    | bl j => cases ry; exact PySem.EqMixed.eq_str_bool (fin_bl I q (by simp))
    | int j => obtain ⟨t', rfl⟩ := ry; exact PySem.EqMixed.eq_str_int (fin_bl I q (by simp))
    | str j => obtain ⟨t', rfl⟩ := ry; exact eq_str (fin_bl I q dec_str)
    | _ => exact absurd (show false = true from hs) Bool.false_ne_true
  | byt i =>
    obtain ⟨t, rfl⟩ := rx
    cases y with
    | byt j => obtain ⟨t', rfl⟩ := ry; exact PySem.W.eq_bytes (fin_bl I q dec_byt)
    | _ => exact absurd (show false = true from hs) Bool.false_ne_true
  | _ => cases y <;> exact absurd (show false = true from hs) Bool.false_ne_true
theorem op_ne : OpR X (compareOp .NotEq) rNe := by
  intro pins s σ H x y v u Q I rx ry h
  obtain ⟨hs, q⟩ := h
  cases x with
  | non =>
    cases rx
    cases y with
    | non => cases ry; exact PySem.EqNone.ne_none_none (fin_bl I q (by simp))
    | bl j => cases ry; exact PySem.EqNone.ne_none_bool (fin_bl I q (by simp))
    | int j => obtain ⟨t', rfl⟩ := ry; exact PySem.EqNone.ne_none_int (fin_bl I q (by simp))
    | str j => obtain ⟨t', rfl⟩ := ry; exact PySem.EqNone.ne_none_str (fin_bl I q (by simp))
    | _ => exact absurd (show false = true from hs) Bool.false_ne_true
  | bl i =>
    cases rx
    cases y with
    | non => cases ry; exact PySem.EqNone.ne_bool_none (fin_bl I q (by simp))
    | bl j => cases ry; exact ne_bool (fin_bl I q (congrArg not dec_bl))
    | str j => obtain ⟨t', rfl⟩ := ry; exact PySem.EqMixed.ne_bool_str (fin_bl I q (by simp))
    | _ => exact absurd (show false = true from hs) Bool.false_ne_true
  | int i =>
    obtain ⟨t, rfl⟩ := rx
    cases y with
    | non => cases ry; exact PySem.EqNone.ne_int_none (fin_bl I q (by simp))
    | int j => obtain ⟨t', rfl⟩ := ry; exact ne_int (fin_bl I q (congrArg not dec_int))
    | str j => obtain ⟨t', rfl⟩ := ry; exact PySem.EqMixed.ne_int_str (fin_bl I q (by simp))
    | _ => exact absurd (show false = true from hs) Bool.false_ne_true
  | str i =>
    obtain ⟨t, rfl⟩ := rx
    cases y with
    | non => cases ry; exact PySem.EqNone.ne_str_none (fin_bl I q (by simp))
    | bl j => cases ry; exact PySem.EqMixed.ne_str_bool (fin_bl I q (by simp))
    | int j => obtain ⟨t', rfl⟩ := ry; exact PySem.EqMixed.ne_str_int (fin_bl I q (by simp))
    | str j => obtain ⟨t', rfl⟩ := ry; exact ne_str (fin_bl I q (congrArg not dec_str))
    | _ => exact absurd (show false = true from hs) Bool.false_ne_true
  | byt i =>
    obtain ⟨t, rfl⟩ := rx
    cases y with
    | byt j => obtain ⟨t', rfl⟩ := ry; exact PySem.W.ne_bytes (fin_bl I q (congrArg not dec_byt))
    | _ => exact absurd (show false = true from hs) Bool.false_ne_true
  | _ => cases y <;> exact absurd (show false = true from hs) Bool.false_ne_true
theorem op_lt : OpR X (compareOp .Lt) (rI0 fun i j => .bl (decide (i < j))) := opB0 fun _ _ _ _ _ _ _ q => lt_int q
theorem op_le : OpR X (compareOp .LtE) (rI0 fun i j => .bl (decide (i ≤ j))) := opB0 fun _ _ _ _ _ _ _ q => le_int q
theorem op_gt : OpR X (compareOp .Gt) (rI0 fun i j => .bl (decide (j < i))) := opB0 fun _ _ _ _ _ _ _ q => gt_int q
theorem nomark (b : Expr) {op : CmpOp} (h : op ≠ .In := by decide) (h2 : op ≠ .NotIn := by decide) : behindInMarks op b = false := by
  have e1 : (op == CmpOp.In) = false := by cases op <;> first | rfl | exact absurd rfl h
  have e2 : (op == CmpOp.NotIn) = false := by cases op <;> first | rfl | exact absurd rfl h2
  cases b <;> simp [behindInMarks, e1, e2]
theorem pe_cmpR {op : CmpOp} {r : R2} (ho : OpR X (compareOp op) r) (ha : PE X a ta) (hb : PE X b tb) (hm : behindInMarks op b = false) : PE X (.Compare a [op] [b] pos) (tOp r ta tb) := by
  intro pins s σ H Q I h
  exact wpAny_Compare1 (binT ha hb I h fun v u s2 x y H2 I2 rx ry q => ho pins s2 σ H2 x y v u Q I2 rx ry q) hm
def tTest (t : TE) : TT := fun σ H Q => t σ H fun x H' => ∃ k, x = .bl k ∧ Q k H'
theorem pt_cmpR {op : CmpOp} {r : R2} (ho : OpR X (compareOp op) r) (ha : PE X a ta) (hb : PE X b tb) (hm : behindInMarks op b = false) : PT X (.Compare a [op] [b] pos) (tTest (tOp r ta tb)) := by
  intro pins s σ H Q I h
  refine wpAny_isTrue_Compare1 (thn (ha pins s σ H _ I h) fun v s1 ⟨x, H1, I1, r1, q1⟩ => thn (hb pins s1 σ H1 _ I1 q1) fun u s2 ⟨y, H2, I2, r2, q2⟩ =>
    thn (ho pins s2 σ H2 x y v u _ I2 r1 r2 q2) fun c s3 ⟨z, H3, I3, r3, k, e, q3⟩ => ?_) hm
  subst e
  cases r3
  exact wpAny_truthy_bool ⟨H3, I3, q3⟩
def tChain (r r' : R2) (ta tb tc : TE) : TE := fun σ H Q => ta σ H fun x H1 => tb σ H1 fun y H2 => r x y H2 fun z H3 => ∃ k, z = .bl k ∧
  (if k = true then tc σ H3 fun w' H4 => r' y w' H4 Q else Q (.bl false) H3)
theorem pt_chain {op op' : CmpOp} {r r' : R2} (ho : OpR X (compareOp op) r) (ho' : OpR X (compareOp op') r') (ha : PE X a ta) (hb : PE X b tb) (hc : PE X c tc)
    (hm : lastMarks [op, op'] [b, c] = false := by with_unfolding_all rfl) : PT X (.Compare a [op, op'] [b, c] pos) (tTest (tChain r r' ta tb tc)) := by
  intro pins s σ H Q I h
  refine isTrue_chain (thn (ha pins s σ H _ I h) fun v s1 ⟨x, H1, I1, r1, q1⟩ => test_link (thn (hb pins s1 σ H1 _ I1 q1) fun u s2 ⟨y, H2, I2, r2, q2⟩ =>
    thn (ho pins s2 σ H2 x y v u _ I2 r1 r2 q2) fun d s3 ⟨z, H3, I3, r3, k, e, q3⟩ => ?_)) hm
  subst e
  cases r3
  refine wpAny_truthy_bool ?_
  cases k with
  | false =>
    obtain ⟨k', e', q'⟩ := q3
    cases e'
    exact ite_ff ⟨H3, I3, q'⟩
  | true =>
    refine ite_tt (test_last (thn (hc pins s3 σ H3 _ I3 q3) fun w' s4 ⟨z', H4, I4, r4, q4⟩ => thn (ho' pins s4 σ H4 y z' u w' _ I4 r2 r4 q4) fun d' s5 ⟨z2, H5, I5, r5, k2, e2, q5⟩ => ?_))
    subst e2
    cases r5
    exact wpAny_truthy_bool ⟨H5, I5, q5⟩
def TruV (K : PySem.W.Frag) (x : V) (H : Hp) (k : Bool) : Prop :=
  match x with
  | .non => k = false
  | .bl b => k = b
  | .int i => k = (i != 0)
  | .str y => y.length ≤ sizeLine ∧ k = ((y.length : Int) != 0)
  | .byt y => y.size ≤ sizeLine ∧ k = ((y.size : Int) != 0)
  | .ref p => (∃ xs, SqL K H p xs ∧ k = !xs.isEmpty) ∨ (∃ xs, SqT K H p xs ∧ k = !xs.isEmpty) ∨ ∃ kvs, H p = some (.dK kvs) ∧ k = !kvs.isEmpty
  | _ => False
theorem isEmpty_kv {κ : Type} {kvs : List (κ × V)} {vs : List (κ × Value)} (r : KV kvs vs) : (!vs.isEmpty) = !kvs.isEmpty := by
  cases r <;> rfl
theorem isEmpty_of {xs : List V} {its : List Value} (r : Vals xs its) : (!its.toArray.isEmpty) = !xs.isEmpty := by
  cases r <;> simp
theorem line63 : (sizeLine : Nat) < 2 ^ 63 := by rw [sizeLine_eq]; decide
theorem tru_ok : TruR X (fun x H Q => ∃ k, TruV X.K x H k ∧ Q k H) := by
  intro pins s σ H x v Q I rx h
  obtain ⟨k, e, q⟩ := h
  have hl := line63
  have hs : sizeLine = 16777216 := sizeLine_eq
  cases x with
  | non =>
    cases rx
    have e' : k = false := e
    subst e'
    exact truthy_none ⟨H, I, q⟩
  | bl b =>
    cases rx
    have e' : k = b := e
    subst e'
    exact wpAny_truthy_bool ⟨H, I, q⟩
  | int i =>
    obtain ⟨t, rfl⟩ := rx
    have e' : k = (i != 0) := e
    subst e'
    exact PySem.P.truthy_int ⟨H, I, q⟩
  | str y =>
    obtain ⟨t, rfl⟩ := rx
    obtain ⟨hy, e'⟩ : y.length ≤ sizeLine ∧ k = ((y.length : Int) != 0) := e
    subst e'
    exact PySem.P.truthy_str (by omega) ⟨H, I.tok _, q⟩
  | byt y =>
    obtain ⟨t, rfl⟩ := rx
    obtain ⟨hy, e'⟩ : y.size ≤ sizeLine ∧ k = ((y.size : Int) != 0) := e
    subst e'
    exact PySem.W.truthy_bytes (by omega) ⟨H, I.tok _, q⟩
  | ref p =>
    cases rx
    have e' : (∃ xs, SqL X.K H p xs ∧ k = !xs.isEmpty) ∨ (∃ xs, SqT X.K H p xs ∧ k = !xs.isEmpty) ∨ ∃ kvs, H p = some (.dK kvs) ∧ k = !kvs.isEmpty := e
    rcases e' with ⟨xs, hx, e'⟩ | ⟨xs, hx, e'⟩ | ⟨kvs, hx, e'⟩
    · subst e'
      obtain ⟨its, r, pl, hz⟩ := I.list hx
      have hlen := r.length
      exact wpAny_truthy_list pl.isList (by simp only [List.size_toArray]; omega) ⟨H, I.tok _, by rw [isEmpty_of r]; exact q⟩
    · subst e'
      obtain ⟨its, r, pl, hz⟩ := I.tuple hx
      have hlen := r.length
      exact truthy_tuple pl (by simp only [List.size_toArray]; omega) ⟨H, I.tok _, by rw [isEmpty_of r]; exact q⟩
    · subst e'
      obtain ⟨hz, hS, vs, r, m⟩ : kvs.length ≤ sizeLine ∧ (p == sysModules) = false ∧ ∃ vs, KV kvs vs ∧ s.heap.DictOf (mixKind X.prog X.w) p vs := I.hok p _ hx
      have hlen : kvs.length = vs.length := Paired.length r
      exact wpAny_truthy_dict hS m (by omega) ⟨H, I.tok _, by rw [isEmpty_kv r]; exact q⟩
  | _ => exact (show False from e).elim
theorem pt_truth (ha : PE X a ta) (he : ∀ whole, isTrue a X.env whole = (do let v ← whole; standAt a.pos; holding [v] (truthy v))) :
    PT X a (fun σ H Q => ta σ H fun x H' => ∃ k, TruV X.K x H' k ∧ Q k H') := by
  intro pins s σ H Q I h
  exact isTrue_plain (thn (ha pins s σ H _ I h) fun v s1 ⟨x, H1, I1, r1, q1⟩ => tru_ok pins s1 σ H1 x v Q I1 r1 q1) (he _)
theorem vals1 {x : V} {us : List Value} (r : Vals [x] us) : ∃ u, us = [u] ∧ RelV x u := by
  cases r with
  | cons r1 r2 => cases r2; exact ⟨_, rfl, r1⟩
end
end L2
namespace L2
open PySem PySem.Spec PyProof.Rows
structure ObjM (h : Heap) (x dx C : Addr) (mA : Str → Option Value) : Prop where
  obj : h.get? x = some (PySem.W.instObj C dx)
  ns : h.Ns1 dx mA
  ne : dx ≠ x
theorem lookIn_ns {h : Heap} {dx : Addr} {mA : Str → Option Value} (n : h.Ns1 dx mA) : ∃ od, h.get? dx = some od ∧ ∀ name, PySem.W.lookIn name od = some (mA name) := by
  obtain ⟨o, es, ep, ho, hd, hk, _, hm⟩ := n
  refine ⟨o, ho, fun name => ?_⟩
  have e := hm name
  unfold nsFind findBy at e
  rw [← Array.find?_toList] at e
  unfold PySem.W.lookIn
  rw [hd]
  dsimp only
  split
  · rename_i y q
    rw [q] at e
    exact congrArg some e
  · rename_i q
    rw [q] at e
    have a : es.toList.any (·.refKey) = false := by
      rw [List.any_eq_false]
      intro y hy
      obtain ⟨z, t, hkey⟩ := hk y (Array.mem_toList_iff.mp hy)
      simp [DictEntry.refKey, hkey]
    have a' : ¬ es.toList.any (·.refKey) = true := by rw [a]; exact Bool.false_ne_true
    rw [if_neg a']
    exact congrArg some e
theorem ObjM.look {h : Heap} {x dx C : Addr} {mA : Str → Option Value} (I : ObjM h x dx C mA) : ∃ od, PySem.W.InstAt h x (PySem.W.instObj C dx) C (some od) ∧ ∀ name, PySem.W.lookIn name od = some (mA name) :=
  let ⟨od, ho, hl⟩ := lookIn_ns I.ns
  ⟨od, ⟨I.obj, rfl, rfl, ho⟩, hl⟩
section
variable {prog : Program} {w : World} {A : Around} {E : Value → Shared → Prop} {s : Shared} {K : PySem.W.Frag} {x dx C f : Addr} {mA : Str → Option Value} {name : Str} {v : Value}
theorem get_map {expr : Bool} {Q : Value → Shared → Prop} (X : K.In s.heap) (I : ObjM s.heap x dx C mA) (hg : PySem.W.plainGet K C name = true) (hh : PySem.W.hasDictIn K C = true)
    (ha : PySem.W.findIn K (.ref C) name = some none) (hv : mA name = some v) (hv' : PySem.W.handedIn v = true) (h : Q v { s with toks := s.toks + 1 }) :
    wpAny (model prog w) A (getAttr (.ref x) name expr) Q E s := by
  obtain ⟨od, J, hl⟩ := I.look
  exact PySem.W.get_value X J (PySem.W.plainGet_of hg).1 (PySem.W.findObj_own hh ha rfl (by rw [hl, hv])) hv' h
theorem get_meth {pl : Sem Bool} {Q : Value × List Value → Shared → Prop} (X : K.In s.heap) (I : ObjM s.heap x dx C mA) (hg : PySem.W.plainGet K C name = true)
    (hf : PySem.W.findIn K (.ref C) name = some (some (.ref f))) (ht : PySem.W.isFn K (.ref f) = true) (hv : mA name = none) (h : Q (.ref f, [.ref x]) s) :
    wpAny (model prog w) A (getMethod (.ref x) name pl) Q E s := by
  obtain ⟨od, J, hl⟩ := I.look
  exact PySem.W.method_fn X J (PySem.W.plainGet_of hg).1 (PySem.W.plainGet_of hg).2 hf (beq_iff_eq.mp ht) (by show (PySem.W.lookIn name od).map (·.isSome) = some false; rw [hl, hv]; rfl) h
theorem set_map {ns : List Str} {Q : Unit → Shared → Prop} (X : K.In s.heap) (I : ObjM s.heap x dx C mA)
    (hs : PySem.W.findIn K (.ref C) "__setattr__" = some (some (.builtin "object.__setattr__"))) (hp : PySem.W.plainOver K C = true) (ht : PySem.W.takerIn K C name = some none) (hh : PySem.W.hasDictIn K C = true)
    (hw : PySem.Within mA ns) (hsz : ns.length ≤ sizeLine)
    (h : ∀ h', ObjM h' x dx C (fun y => if y = name then some v else mA y) → Heap.SameBut dx s.heap h' → Q () { s with heap := h', toks := s.toks + 2 }) :
    wpAny (model prog w) A (setAttr (.ref x) name v) Q E s := by
  obtain ⟨od, J, hl⟩ := I.look
  refine PySem.W.set_plain X J hs (PySem.W.osa_open (s := { s with toks := s.toks + 1 }) (r := none) X J hp ht fun b => ?_)
  obtain ⟨cd, hc, hd'⟩ := PySem.W.any_some hh
  have hx : s.heap.get? x = some ⟨.ref C, some dx, .plain, #[]⟩ := I.obj
  refine wpAny_bind (wpAny_pure (wpAny_bind (wpAny_bind (wpAny_loadPart hx (wpAny_bind (PySem.W.Looks.here (s := { s with toks := s.toks + 1 }) (PySem.W.looks_clsIn X hc) ?_))))))
  rw [hd']
  refine wpAny_pure (a := some dx) (wpAny_bind (wpAny_pure (wpAny_bind ?_)))
  refine wpAny_nsSet1 (s := { s with toks := s.toks + 1 }) I.ns fun h' hn2 hs2 => ?_
  obtain ⟨oD, esD, epD, hoD, hdD, hcD⟩ := hn2.count (PySem.Within.cons name v hw)
  refine wpAny_bind (wpAny_lookBehind hoD (by rw [hdD]; exact pastItsLine_dict (Nat.le_trans hcD (by rw [List.length_cons]; omega))) ?_)
  exact wpAny_pure (h _ ⟨(hs2.2 _ (Ne.symm I.ne)).trans I.obj, hn2, I.ne⟩ hs2)
theorem make_map {R : Result → Shared → Prop} {vs : List Value} {kw : List (Str × Value)} (X : K.In s.heap) (hm : PySem.W.makesIn K C = true)
    (hi : PySem.W.findIn K (.ref C) "__init__" = some (some (.ref f))) (hf : PySem.W.typeIn K (.ref f) = some (.type "function"))
    (h : codeAny (model prog w) (A.under (.builtin "type.__call__" ⟨.ref C :: vs, kw⟩)) (.call (.ref f) ⟨.ref (s.heap.objs.size + 1) :: vs, kw⟩) (PySem.W.InitBack (s.heap.objs.size + 1) R)
      { s with heap := (s.heap.push PySem.W.emptyDict).push (PySem.W.instObj C s.heap.objs.size) }) :
    codeAny (model prog w) A (.call (.ref C) ⟨vs, kw⟩) R s := by
  obtain ⟨hh, g, d, t, os⟩ := s
  exact PySem.W.make_core (PySem.W.makes_of X hm) (PySem.W.looks_findIn X hi) (fun self => PySem.W.bind_fn X self hf) (.inl rfl) h
end
def putF (f : Str) (v : V) : List (Str × V) → List (Str × V)
  | [] => [(f, v)]
  | (g, x) :: r => if g = f then (g, v) :: r else (g, x) :: putF f v r
theorem lookup_putF (f g : Str) (v : V) : ∀ fs : List (Str × V), (putF f v fs).lookup g = if g = f then some v else fs.lookup g
  | [] => by
    show List.lookup g [(f, v)] = _
    by_cases h : g = f
    · have hb : (g == f) = true := beq_iff_eq.mpr h
      simp only [List.lookup, hb, if_pos h]
    · have hb : (g == f) = false := beq_eq_false_iff_ne.mpr h
      simp only [List.lookup, hb, if_neg h]
  | (k, x) :: r => by
    have ih := lookup_putF f g v r
    rw [show putF f v ((k, x) :: r) = (if k = f then (k, v) :: r else (k, x) :: putF f v r) from rfl]
    by_cases hk : k = f
    · rw [if_pos hk]
      by_cases h : g = k
      · have hb : (g == k) = true := beq_iff_eq.mpr h
        simp only [List.lookup, hb, if_pos (h.trans hk)]
      · have hb : (g == k) = false := beq_eq_false_iff_ne.mpr h
        simp only [List.lookup, hb, if_neg (fun e : g = f => h (e.trans hk.symm))]
    · rw [if_neg hk]
      by_cases h : g = k
      · have hb : (g == k) = true := beq_iff_eq.mpr h
        simp only [List.lookup, hb, if_neg (fun e : g = f => hk (h.symm.trans e))]
      · have hb : (g == k) = false := beq_eq_false_iff_ne.mpr h
        simp only [List.lookup, hb]
        exact ih
theorem keys_putF (f : Str) (v : V) : ∀ fs : List (Str × V), f ∈ (putF f v fs).map (·.1) ∧ ∀ g, g ∈ fs.map (·.1) → g ∈ (putF f v fs).map (·.1)
  | [] => ⟨by simp [putF], fun g h => by simp at h⟩
  | (k, x) :: r => by
    obtain ⟨i1, i2⟩ := keys_putF f v r
    rw [show putF f v ((k, x) :: r) = (if k = f then (k, v) :: r else (k, x) :: putF f v r) from rfl]
    by_cases hk : k = f
    · rw [if_pos hk]
      subst hk
      exact ⟨by simp, fun g h => by simpa using h⟩
    · rw [if_neg hk]
      refine ⟨?_, fun g h => ?_⟩
      · rw [List.map_cons]
        exact List.mem_cons_of_mem _ i1
      · rw [List.map_cons] at h ⊢
        rcases List.mem_cons.mp h with e | e
        · exact List.mem_cons.mpr (.inl e)
        · exact List.mem_cons_of_mem _ (i2 g e)
theorem length_putF (f : Str) (v : V) : ∀ fs : List (Str × V), (putF f v fs).length ≤ fs.length + 1
  | [] => by simp [putF]
  | (k, x) :: r => by
    have ih := length_putF f v r
    rw [show putF f v ((k, x) :: r) = (if k = f then (k, v) :: r else (k, x) :: putF f v r) from rfl]
    by_cases hk : k = f
    · rw [if_pos hk, List.length_cons, List.length_cons]; omega
    · rw [if_neg hk, List.length_cons, List.length_cons]; omega
theorem RelO.some_of {v : V} {o : Option Value} (r : RelO (some v) o) : ∃ u, o = some u ∧ RelV v u := by
  cases o with
  | none => exact (show False from r).elim
  | some u => exact ⟨u, rfl, r⟩
theorem RelO.none_of {o : Option Value} (r : RelO none o) : o = none := by
  cases o with
  | none => rfl
  | some u => exact (show False from r).elim
theorem handed_of {v : V} {u : Value} (r : RelV v u) : PySem.W.handedIn u = true := by
  cases v with
  | non => cases (show u = Value.none from r); rfl
  | bl b => cases (show u = Value.bool b from r); rfl
  | int i => obtain ⟨t, e⟩ := (show ∃ t, u = Value.int i t from r); cases e; rfl
  | str x => obtain ⟨t, e⟩ := (show ∃ t, u = Value.str x t from r); cases e; rfl
  | byt b => obtain ⟨t, e⟩ := (show ∃ t, u = Value.bytes b t from r); cases e; rfl
  | flt b => obtain ⟨t, e⟩ := (show ∃ t, u = Value.float b t from r); cases e; rfl
  | ref a => cases (show u = Value.ref a from r); rfl
  | ty n => cases (show u = Value.type n from r); rfl
section
variable {P : Program} {w : World} {H H' : Hp} {h h' : Heap} {a C dx : Addr} {fs fs' : List (Str × V)}
theorem ins_get (hok : HOk P w H h) (e : H a = some (.ins C dx fs)) : ∃ mA, ObjM h a dx C mA ∧ (∀ f, RelO (fs.lookup f) (mA f)) ∧ PySem.Within mA (fs.map (·.1)) ∧ fs.length ≤ 1000 ∧ H dx = some (.own a) := by
  obtain ⟨d, z, ne, ob, mA, n, r, q⟩ := (show ObjOk P w H h a (.ins C dx fs) from hok a _ e)
  exact ⟨mA, ⟨ob, n, ne⟩, r, q, z, d⟩
end
structure Cls (K : PySem.W.Frag) (C : Addr) : Prop where
  pg : PySem.W.plainGet K C Str.empty = true
  hd : PySem.W.hasDictIn K C = true
  po : PySem.W.plainOver K C = true
  sa : PySem.W.findIn K (.ref C) "__setattr__" = some (some (.builtin "object.__setattr__"))
theorem Cls.get {K : PySem.W.Frag} {C : Addr} (c : Cls K C) (f : Str) : PySem.W.plainGet K C f = true := c.pg
def NoAttr (K : PySem.W.Frag) (C : Addr) (f : Str) : Prop := PySem.W.findIn K (.ref C) f = some none
theorem NoAttr.taker {K : PySem.W.Frag} {C : Addr} {f : Str} (n : NoAttr K C f) : PySem.W.takerIn K C f = some none := by
  unfold PySem.W.takerIn
  rw [show PySem.W.findIn K (.ref C) f = some none from n]
  rfl
structure Con (K : PySem.W.Frag) (C : Addr) (f : Str) (v : V) (u : Value) : Prop where
  at_ : PySem.W.findIn K (.ref C) f = some (some u)
  rel : RelV v u
  get : PySem.W.specialIn K u "__get__" = some none
  cp : PySem.W.copiedNames.contains f = false
structure Meth (K : PySem.W.Frag) (C : Addr) (m : Str) (f : Addr) : Prop where
  at_ : PySem.W.findIn K (.ref C) m = some (some (.ref f))
  fn : PySem.W.isFn K (.ref f) = true
  kp : PySem.W.keepIn K (.ref f) = true
section
variable {X : Cx} {pins : List (Addr × Obj)} {σ : St} {H : Hp} {s : Shared} {a C dx : Addr} {fs : List (Str × V)} {f : Str} {v : V} {A : Around} {E : Value → Shared → Prop}
theorem getattr_ok {b : Bool} {Q : Value → Shared → Prop} (I : Inv X pins σ H s) (e : H a = some (.ins C dx fs)) (c : Cls X.K C) (n : NoAttr X.K C f) (l : fs.lookup f = some v)
    (h : ∀ u s', Inv X pins σ H s' → RelV v u → Q u s') : wpAny (model X.prog X.w) A (getAttr (.ref a) f b) Q E s := by
  obtain ⟨mA, O, r, _, _, _⟩ := ins_get I.hok e
  obtain ⟨u, hu, ru⟩ := RelO.some_of (v := v) (o := mA f) (by rw [← l]; exact r f)
  exact get_map I.kIn O (c.get f) c.hd n hu (handed_of ru) (h u _ (I.tok _) ru)
theorem getmeth_ok {m : Str} {g : Addr} {pl : Sem Bool} {Q : Value × List Value → Shared → Prop} (I : Inv X pins σ H s) (e : H a = some (.ins C dx fs)) (c : Cls X.K C) (k : Meth X.K C m g) (l : fs.lookup m = none)
    (h : Q (.ref g, [.ref a]) s) : wpAny (model X.prog X.w) A (getMethod (.ref a) m pl) Q E s := by
  obtain ⟨mA, O, r, _, _, _⟩ := ins_get I.hok e
  have hn : mA m = none := RelO.none_of (by rw [← l]; exact r m)
  exact get_meth I.kIn O (c.get m) k.at_ k.fn hn h
theorem setattr_ok {y : V} {u : Value} {Q : Unit → Shared → Prop} (I : Inv X pins σ H s) (e : H a = some (.ins C dx fs)) (c : Cls X.K C) (n : NoAttr X.K C f) (hl : fs.length < 1000) (ry : RelV y u)
    (h : ∀ s', Inv X pins σ (upd H a (.ins C dx (putF f y fs))) s' → Q () s') : wpAny (model X.prog X.w) A (setAttr (.ref a) f u) Q E s := by
  obtain ⟨mA, O, r, wi, _, ho⟩ := ins_get I.hok e
  have hz : (fs.map (·.1)).length ≤ sizeLine := by rw [List.length_map, sizeLine_eq]; omega
  refine set_map I.kIn O c.sa c.po n.taker c.hd wi hz fun h' O' sb => h _ ?_
  have hd : ∃ o, h'.get? dx = some o := let ⟨o, _, _, e', _⟩ := O'.ns; ⟨o, e'⟩
  refine I.write (x := a) (e := dx) (by rw [e]; exact True.intro) (.inr ho) (fun b q hb z => (sb.2 b hb).trans z) hd ?_
  refine ⟨by rw [upd_ne O.ne]; exact ho, ?_, O.ne, O'.obj, _, O'.ns, fun g => ?_, fun g hg => ?_⟩
  · have := length_putF f y fs; omega
  · show RelO ((putF f y fs).lookup g) (if g = f then some u else mA g)
    rw [lookup_putF]
    by_cases q : g = f
    · rw [if_pos q, if_pos q]; exact ry
    · rw [if_neg q, if_neg q]; exact r g
  · by_cases q : g = f
    · rw [q]; exact (keys_putF f y fs).1
    · refine (keys_putF f y fs).2 g (wi g fun z => hg ?_)
      show (if g = f then some u else mA g) = none
      rw [if_neg q]; exact z
theorem Inv.made (I : Inv X pins σ H s) : Inv X pins σ (upd (upd H s.heap.objs.size (.own (s.heap.objs.size + 1))) (s.heap.objs.size + 1) (.ins C s.heap.objs.size []))
    { s with heap := (s.heap.push PySem.W.emptyDict).push (PySem.W.instObj C s.heap.objs.size) } := by
  have e1 : (s.heap.push PySem.W.emptyDict).get? s.heap.objs.size = some PySem.W.emptyDict := Heap.get?_push_size s.heap rfl
  have e2 : ((s.heap.push PySem.W.emptyDict).push (PySem.W.instObj C s.heap.objs.size)).get? (s.heap.objs.size + 1) = some (PySem.W.instObj C s.heap.objs.size) := by
    have := Heap.get?_push_size (s.heap.push PySem.W.emptyDict) (o := PySem.W.instObj C s.heap.objs.size) rfl
    rwa [Heap.size_push] at this
  have e3 : (s.heap.push PySem.W.emptyDict).Ns s.heap.objs.size (fun _ => none) := ⟨PySem.W.emptyDict, #[], _, e1, rfl, (fun e he => absurd he (by simp)), fun _ => rfl⟩
  have I1 := I.laid (a := s.heap.objs.size) (o := .own (s.heap.objs.size + 1)) (h' := s.heap.push PySem.W.emptyDict) (t' := s.toks) (fun b u q => Heap.get?_push_of_some _ q) (Nat.le_refl _) ⟨_, e1⟩
  refine I1.laid (a := s.heap.objs.size + 1) (o := .ins C s.heap.objs.size []) (t' := s.toks) (fun b u q => Heap.get?_push_of_some _ q) (Nat.le_of_eq (Heap.size_push _ _)) ?_
  have ne : s.heap.objs.size ≠ s.heap.objs.size + 1 := Nat.ne_of_lt (Nat.lt_succ_self _)
  refine ⟨by rw [upd_ne ne, upd_same], Nat.zero_le _, ne, e2, fun _ => none, (Heap.Ns1.of_empty e3).at fun o q => Heap.get?_push_of_some _ q, fun _ => True.intro, fun y hy => absurd rfl hy⟩
theorem attr_of {prog : Program} {w : World} {env : Env} {e : Expr} {f : Str} {pos : Pos} {s : Shared} {Q : Value → Shared → Prop} (hb : attributeBase e f env (eval e env) = eval e env)
    (h : wpAny (model prog w) A (eval e env) (fun o s₁ => wpAny (model prog w) A (getAttr o f true) Q E s₁) E s) : wpAny (model prog w) A (eval (.Attribute e f pos) env) Q E s :=
  Attribute_any_ h (by rw [arm_eval_Attribute, hb])
end
def tFld (K : PySem.W.Frag) (ta : TE) (f : Str) : TE := fun σ H Q => ta σ H fun x H1 => ∃ a C dx fs v, x = .ref a ∧ H1 a = some (.ins C dx fs) ∧ Cls K C ∧ NoAttr K C f ∧ fs.lookup f = some v ∧ Q v H1
def sFld (K : PySem.W.Frag) (ta tv : TE) (f : Str) : TS := fun D σ H => tv σ H fun y H1 => ta σ H1 fun x H2 => ∃ a C dx fs, x = .ref a ∧ H2 a = some (.ins C dx fs) ∧ Cls K C ∧ NoAttr K C f ∧ fs.length < 1000 ∧
  D.nx σ (upd H2 a (.ins C dx (putF f y fs)))
section
variable {X : Cx} {o e value : Expr} {f : Str} {pos pos' tpos : Pos} {ta tv : TE}
theorem pe_fld (he : PE X e ta) (hb : attributeBase e f X.env (eval e X.env) = eval e X.env) : PE X (.Attribute e f pos) (tFld X.K ta f) := by
  intro pins s σ H Q I h
  refine attr_of hb (thn (he pins s σ H _ I h) fun u s1 ⟨x, H1, I1, rx, a, C, dx, fs, v, ex, ea, c, n, l, q⟩ => ?_)
  subst ex
  obtain rfl : u = Value.ref a := rx
  exact getattr_ok I1 ea c n l fun u' s2 I2 ru => ⟨v, H1, I2, ru, q⟩
theorem ps_fld (ha : PE X o ta) (hv : PE X value tv) (hs : swapsWith value (some (.Attribute o f pos')) pos.line X.env = pure false) : PS X (.Assign [.Attribute o f pos'] value pos) (sFld X.K ta tv f) := by
  intro pins s σ H D I h
  refine plainObj_wpAny_Assign_Attribute (thn (hv pins s σ H _ I h) fun u s1 ⟨y, H1, I1, ry, q⟩ => thn (ha pins s1 σ H1 _ I1 q) fun ov s2 ⟨x, H2, I2, rx, a, C, dx, fs, ex, ea, c, n, l, q2⟩ => ?_) hs
  subst ex
  obtain rfl : ov = Value.ref a := rx
  exact setattr_ok I2 ea c n l ry fun s3 I3 => ⟨σ, _, I3, q2⟩
theorem methcall_of {pl : Sem Bool} {m : Str} {apos : Pos} {args : List Expr} {pins : List (Addr × Obj)} {s : Shared} {σ : St} {H : Hp} {Q : Value → Shared → Prop} {te : TE} (he : PE X e te) (I : Inv X pins σ H s)
    (h : te σ H fun x H1 => ∃ a C dx fs g, x = .ref a ∧ H1 a = some (.ins C dx fs) ∧ Cls X.K C ∧ Meth X.K C m g ∧ fs.lookup m = none ∧
      ∀ s1, Inv X pins σ H1 s1 → wpAny (model X.prog X.w) X.A (callWith pos (.ref g) [.ref a] (backTo pos (starEach args X.env)) (backToKw pos (keywordEach [] X.env))) Q X.xe s1)
    (ht : eval (.Call (.Attribute e m apos) args [] pos) X.env = (do
      let ov ← eval e X.env
      standAt apos.atName
      let (f, first) ← holding [ov] (getMethod ov m pl)
      callWith pos f first (backTo pos (starEach args X.env)) (backToKw pos (keywordEach [] X.env)))) :
    wpAny (model X.prog X.w) X.A (eval (.Call (.Attribute e m apos) args [] pos) X.env) Q X.xe s := by
  refine PySem.W.methodCall_KW (pl := pl) (thn (he pins s σ H _ I h) fun u s1 ⟨x, H1, I1, rx, a, C, dx, fs, g, ex, ea, c, k, l, q⟩ => ?_) ht
  subst ex
  obtain rfl : u = Value.ref a := rx
  exact getmeth_ok I1 ea c k l (q s1 I1)
end
section
variable {X : Cx} {pins : List (Addr × Obj)} {σ : St} {H : Hp} {s : Shared} {A : Around} {E : Value → Shared → Prop} {Q : Value → Shared → Prop} {c : Value} {b : Bool}
inductive TyOf (K : PySem.W.Frag) (H : Hp) : V → Value → Prop where
  | non : TyOf K H .non (.type "NoneType")
  | bl (x : Bool) : TyOf K H (.bl x) (.type "bool")
  | int (i : Int) : TyOf K H (.int i) (.type "int")
  | str (x : Str) : TyOf K H (.str x) (.type "str")
  | flt (x : UInt64) : TyOf K H (.flt x) (.type "float")
  | lst {a : Addr} {xs : List V} (e : H a = some (.lst xs)) : TyOf K H (.ref a) (.type "list")
  | frz {a : Addr} {o : Obj} {xs : List V} (e : H a = some (.frz o (.lst xs))) : TyOf K H (.ref a) (.type "list")
  | tup {a : Addr} {xs : List V} (e : H a = some (.tup xs)) : TyOf K H (.ref a) (.type "tuple")
  | dK {a : Addr} {kvs : List (Key × V)} (e : H a = some (.dK kvs)) : TyOf K H (.ref a) (.type "dict")
  | dT {a : Addr} {kvs : List (List Key × V)} (e : H a = some (.dT kvs)) : TyOf K H (.ref a) (.type "dict")
  | ins {a C dx : Addr} {fs : List (Str × V)} (e : H a = some (.ins C dx fs)) (cl : Cls K C) (ha : PySem.W.findIn K (.ref C) "__class__" = some (some (.builtin "object.__class__")))
      (hn : PySem.W.specialIn K (.builtin "object.__class__") "__get__" = some (some (.builtin "getset_descriptor.__get__"))) (htk : PySem.W.takesIn K (.builtin "object.__class__") = some true)
      (hm : PySem.W.mroIn K C (.type "object") = some true) : TyOf K H (.ref a) (.ref C)
end
end L2
namespace L2
open PySem PySem.Spec PyProof.Rows
structure Room (k : Nat) (A : Around) : Prop where
  hd : A.handled = none
  dp : A.depth + 3 * k + 5 < recursionLimit
  un : A.units + 16 * k + 200 < cLine
theorem Room.mono {j k : Nat} {A : Around} (r : Room k A) (h : j ≤ k) : Room j A := ⟨r.hd, by have := r.dp; omega, by have := r.un; omega⟩
theorem Room.deeper {k : Nat} {A : Around} (r : Room (k + 1) A) (env : Env) : Room k (A.deeper env) :=
  ⟨r.hd, by have := r.dp; show A.depth + 1 + 3 * k + 5 < _; omega, by have := r.un; show A.units + 3 + 16 * k + 200 < _; omega⟩
theorem make_depth {A : Around} {C : Addr} {us : List Value} {kw : List (Str × Value)} : (A.under (.builtin "type.__call__" ⟨.ref C :: us, kw⟩)).depth = A.depth + 1 := by
  first | rfl | simp [Around.under, Code.weight, Code.isCreation, Code.isGuard, Code.isCaller, Code.frames, Code.isFrame, guardIds]
theorem make_units {A : Around} {C : Addr} {us : List Value} {kw : List (Str × Value)} : (A.under (.builtin "type.__call__" ⟨.ref C :: us, kw⟩)).units = A.units + 1 := by
  first | rfl | simp [Around.under, Code.cUnits, Code.frames, Code.isFrame]
theorem Room.make {k : Nat} {A : Around} (r : Room (k + 1) A) (C : Addr) (us : List Value) (kw : List (Str × Value)) : Room k (A.under (.builtin "type.__call__" ⟨.ref C :: us, kw⟩)) :=
  ⟨r.hd, by have := r.dp; rw [make_depth]; omega, by have := r.un; rw [make_units]; omega⟩
theorem Room.depth {k : Nat} {A : Around} (r : Room k A) : A.depth < recursionLimit := by have := r.dp; omega
theorem Room.units {k : Nat} {A : Around} (r : Room k A) : A.units + 64 < cLine := by have := r.un; omega
def tNil : TA := fun _ H Q => Q [] H
def tCons (ta : TE) (tr : TA) : TA := fun σ H Q => ta σ H fun x H1 => tr σ H1 fun xs H2 => Q (x :: xs) H2
section
variable {X : Cx} {e : Expr} {es : List Expr} {te : TE} {t : TA} {pos : Pos}
theorem pa_nil : PA X [] tNil := fun _ _ _ _ H Q I h => Calls.spliced_nil ⟨[], H, I, .nil, h⟩
theorem pa_cons (ha : PE X e te) (hr : PA X es t) (hs : starEach (e :: es) X.env = (false, eval e X.env) :: starEach es X.env := by rfl) : PA X (e :: es) (tCons te t) := by
  intro pos pins s σ H Q I h
  rw [hs]
  show wpAny _ _ (spliced ((false, eval e X.env) :: backTo pos (starEach es X.env))) _ _ s
  refine Calls.spliced_cons (thn (ha pins s σ H _ I h) fun u s1 ⟨x, H1, I1, r1, q1⟩ => ?_)
  exact thn (hr pos pins s1 σ H1 _ I1 q1) fun us s2 ⟨xs, H2, I2, r2, q2⟩ => ⟨x :: xs, H2, I2, .cons r1 r2, q2⟩
def tTup (t : TA) : TE := fun σ H Q => t σ H fun xs H1 => xs.length ≤ sizeLine ∧ ∀ p, H1 p = none → Q (.ref p) (upd H1 p (.tup xs))
def tLst (t : TA) : TE := fun σ H Q => t σ H fun xs H1 => xs.length ≤ sizeLine ∧ ∀ p, H1 p = none → Q (.ref p) (upd H1 p (.lst xs))
theorem pe_tup {x1} (h : PA X es t) : PE X (.Tuple es x1 pos) (tTup t) := by
  intro pins s σ H Q I hq
  refine wpAny_Tuple_spliced (thn (h pos pins s σ H _ I hq) fun us s1 ⟨xs, H1, I1, r, z, q⟩ => ⟨by rw [← r.length]; exact z, ?_⟩)
  have hf : H1 s1.heap.objs.size = none := I1.hok.fresh (Nat.le_refl _)
  refine ⟨.ref s1.heap.objs.size, upd H1 s1.heap.objs.size (.tup xs), I1.laid (t' := s1.toks) (fun b u e => Heap.get?_push_of_some _ e) (Nat.le_refl _) ?_, rfl, q _ hf⟩
  exact ⟨z, us, r, ⟨_, Heap.get?_push_size _ rfl, rfl, _, rfl⟩⟩
theorem pe_lst (h : PA X es t) : PE X (.List es pos) (tLst t) := by
  intro pins s σ H Q I hq
  refine wpAny_List_spliced (thn (h pos pins s σ H _ I hq) fun us s1 ⟨xs, H1, I1, r, z, q⟩ => ⟨by rw [← r.length]; exact z, ?_⟩)
  have hf : H1 s1.heap.objs.size = none := I1.hok.fresh (Nat.le_refl _)
  refine ⟨.ref s1.heap.objs.size, upd H1 s1.heap.objs.size (.lst xs), I1.laid (t' := s1.toks) (fun b u e => Heap.get?_push_of_some _ e) (Nat.le_refl _) ?_, rfl, q _ hf⟩
  exact ⟨z, us, 0, r, Heap.get?_push_size _ rfl⟩
end
abbrev Sp := List V → Hp → VK → XK → Prop
abbrev CXT := List Env → Hp → Shared → XK → Value → Shared → Prop
structure Env0 (P : Program) (w : World) (K : PySem.W.Frag) (mg : Str → Option Value) (base : Heap) (A : Around) (outer : List Env) (s : Shared) (H : Hp) : Prop where
  frames : A.frames = some outer
  mod : Mod K mg base
  bs : ∀ b o, base.get? b = some o → s.heap.get? b = some o ∧ H b = none
  bsz : base.objs.size ≤ s.heap.objs.size
  funs : s.heap.FunFrames base outer
  frf : ∀ b ∈ frs outer, H b = none
  hok : HOk P w H s.heap
  bare : AllBare s.gens
def CE (outer : List Env) (P : Program) (w : World) (H : Hp) (s : Shared) (Q : VK) (u : Value) (s' : Shared) : Prop :=
  ∃ v H', s'.os = s.os ∧ AllBare s'.gens ∧ Un (frs outer) [] H H' s.heap s'.heap ∧ HOk P w H' s'.heap ∧ RelV v u ∧ Q v H'
def CR (CX : CXT) (outer : List Env) (P : Program) (w : World) (H : Hp) (s : Shared) (Q : VK) (E : XK) (r : Result) (s' : Shared) : Prop :=
  match r with
  | .ok (.ret u) => CE outer P w H s Q u s'
  | .ok _ => False
  | .error e => CX outer H s E e s'
structure FnOk (P : Program) (w : World) (K : PySem.W.Frag) (mg : Str → Option Value) (base : Heap) (CX : CXT) (k : Nat) (f : Addr) (fd : FuncData) (ps : List Str) (sp : Sp) : Prop where
  len : ∀ vs H Q E, sp vs H Q E → vs.length = ps.length
  run : ∀ (A : Around) (outer : List Env) (s : Shared) (H : Hp) (args : Args) (us : List Value) (vs : List V) (Q : VK) (E : XK), Room k A → Env0 P w K mg base A outer s H → BindsTo s fd args (ps.zip us) → Vals vs us → sp vs H Q E →
    codeAny (model P w) A (.call (.ref f) args) (CR CX outer P w H s Q E) s
theorem Env0.make {P : Program} {w : World} {K : PySem.W.Frag} {mg : Str → Option Value} {base : Heap} {A : Around} {outer : List Env} {s : Shared} {H : Hp} (e : Env0 P w K mg base A outer s H) (C : Addr) (us : List Value) (kw : List (Str × Value)) :
    Env0 P w K mg base (A.under (.builtin "type.__call__" ⟨.ref C :: us, kw⟩)) outer s H := ⟨by first | exact e.frames | (simpa [Around.under, Code.envs, Code.isFrame, pushEnvs] using e.frames), e.mod, e.bs, e.bsz, e.funs, e.frf, e.hok, e.bare⟩
section
variable {X : Cx} {pins : List (Addr × Obj)} {σ : St} {H : Hp} {s s' : Shared}
theorem Inv.env0 (I : Inv X pins σ H s) : Env0 X.prog X.w X.K X.mg X.base X.A X.stack s H :=
  ⟨I.ok.frames, I.ok.mod, I.bs, Nat.le_trans I.ok.bsz I.sz, I.stack, I.stkFree, I.hok, I.bare⟩
theorem Inv.after {Q : VK} {u : Value} (I : Inv X pins σ H s) (h : CE X.stack X.prog X.w H s Q u s') : EP X pins σ Q u s' := by
  obtain ⟨v, H', os, bare, un, hok, r, q⟩ := h
  obtain ⟨hh, g, d, t, os'⟩ := s'
  obtain rfl : os' = s.os := os
  exact ⟨v, H', I.call (h' := hh) (g' := g) (d' := d) (t' := t) (ch := []) un hok bare (fun b z => absurd z (by simp)), r, q⟩
end
def tCall (sp : Sp) (dvs : List V) (E : XK) (t : TA) : TE := fun σ H Q => t σ H fun vs H1 => sp (vs ++ dvs) H1 Q E
def tMeth (C : Addr) (m : Str) (sp : Sp) (dvs : List V) (E : XK) (ta : TE) (t : TA) : TE := fun σ H Q => ta σ H fun x H1 => ∃ a dx fs, x = .ref a ∧ H1 a = some (.ins C dx fs) ∧ fs.lookup m = none ∧
  t σ H1 fun vs H2 => sp (x :: (vs ++ dvs)) H2 Q E
def tMake (C : Addr) (sp : Sp) (dvs : List V) (E : XK) (t : TA) : TE := fun σ H Q => t σ H fun vs H1 => ∀ x dx, H1 x = none → H1 dx = none → dx ≠ x →
  sp (.ref x :: (vs ++ dvs)) (upd (upd H1 dx (.own x)) x (.ins C dx [])) (fun v H2 => v = .non ∧ Q (.ref x) H2) E
def Binds (K : PySem.W.Frag) (fd : FuncData) (ps : List Str) (ds : List Value) : Prop :=
  ∀ (s : Shared) (us : List Value), K.In s.heap → (us ++ ds).length = ps.length → BindsTo s fd ⟨us, []⟩ (ps.zip (us ++ ds))
theorem Binds.all {K : PySem.W.Frag} {fd : FuncData} {ps : List Str} (h : ∀ us : List Value, us.length = ps.length → bindArgs fd ⟨us, []⟩ = pure (ps.zip us)) : Binds K fd ps [] := fun s us _ hl => by
  rw [List.append_nil] at hl ⊢
  exact .of_eq (h us hl)
def Passes (CX : CXT) (X : Cx) (E : XK) : Prop := ∀ (pins : List (Addr × Obj)) (σ : St) (H : Hp) (s : Shared) (e : Value) (s' : Shared), Inv X pins σ H s → CX X.stack H s E e s' → X.xe e s'
section
variable {X : Cx} {CX : CXT} {k : Nat} {f C : Addr} {fd : FuncData} {ps : List Str} {sp : Sp} {dvs : List V} {ds : List Value} {E : XK} {x m : Str} {p pos apos : Pos} {e o : Expr} {es : List Expr} {ta : TE} {t : TA}
theorem run_fn {pins : List (Addr × Obj)} {σ : St} {H : Hp} {s : Shared} {Q : VK} {us : List Value} {vs : List V} (F : FnOk X.prog X.w X.K X.mg X.base CX k f fd ps sp) (hr : Room k X.A) (hb : Binds X.K fd ps ds) (hd : Vals dvs ds) (hx : Passes CX X E)
    (I : Inv X pins σ H s) (r : Vals vs us) (h : sp (vs ++ dvs) H Q E) : wpAny (model X.prog X.w) X.A (call (.ref f) us) (EP X pins σ Q) X.xe s := by
  have r2 : Vals (vs ++ dvs) (us ++ ds) := r.append hd
  have hl : (us ++ ds).length = ps.length := by rw [← r2.length]; exact F.len _ _ _ _ h
  refine wpAny_call (codeAny_mono (F.run X.A X.stack s H ⟨us, []⟩ (us ++ ds) (vs ++ dvs) Q E hr I.env0 (hb s us I.kIn hl) r2 h) fun r s' hq => ?_)
  cases r with
  | error e => exact hx pins σ H s e s' I hq
  | ok fl =>
    cases fl with
    | ret u => exact I.after hq
    | next => exact False.elim hq
    | brk => exact False.elim hq
    | cont => exact False.elim hq
theorem pe_call (F : FnOk X.prog X.w X.K X.mg X.base CX k f fd ps sp) (hr : Room k X.A) (hg : Gl X x) (hm : X.mg x = some (.ref f)) (hk : PySem.W.keepIn X.K (.ref f) = true) (hb : Binds X.K fd ps ds) (hd : Vals dvs ds) (hx : Passes CX X E)
    (ha : PA X (e :: es) t) (hdb : (x == ("__debug__" : Str)) = false := by decide) (he : starEach (e :: es) X.env = (false, eval e X.env) :: starEach es X.env := by rfl) (hpl : (backTo pos (starEach es X.env)).any (·.1) = false := by rfl) :
    PE X (.Call (.Name x p) (e :: es) [] pos) (tCall sp dvs E t) := by
  intro pins s σ H Q I h
  refine wpAny_Call_Name_kw (ld_glob I hg hm ?_ hdb)
  refine PySem.W.callWith_K (h₀ := X.base) I.ok.mod.kin hk (thn (ha pos pins s σ H _ I h) fun us s1 ⟨vs, H1, I1, r, q⟩ => ⟨I1.kIn, ?_⟩) he hpl
  exact run_fn F hr hb hd hx I1 r q
theorem pe_meth {pl : Sem Bool} (he : PE X o ta) (c : Cls X.K C) (hm : Meth X.K C m f) (F : FnOk X.prog X.w X.K X.mg X.base CX k f fd ps sp) (hr : Room k X.A) (hb : Binds X.K fd ps ds) (hd : Vals dvs ds) (hx : Passes CX X E) (ha : PA X (e :: es) t)
    (hst : starEach (e :: es) X.env = (false, eval e X.env) :: starEach es X.env := by rfl) (hpl : (backTo pos (starEach es X.env)).any (·.1) = false := by rfl)
    (ht : eval (.Call (.Attribute o m apos) (e :: es) [] pos) X.env = (do
      let ov ← eval o X.env
      standAt apos.atName
      let (f, first) ← holding [ov] (getMethod ov m pl)
      callWith pos f first (backTo pos (starEach (e :: es) X.env)) (backToKw pos (keywordEach [] X.env))) := by rfl) :
    PE X (.Call (.Attribute o m apos) (e :: es) [] pos) (tMeth C m sp dvs E ta t) := by
  intro pins s σ H Q I h
  refine PySem.W.methodCall_KW (pl := pl) (thn (he pins s σ H _ I h) fun u s1 ⟨x, H1, I1, rx, a, dx, fs, ex, ea, l, q⟩ => ?_) ht
  subst ex
  obtain rfl : u = Value.ref a := rx
  refine getmeth_ok I1 ea c hm l ?_
  refine PySem.W.callWith_K (first := [.ref a]) (h₀ := X.base) I.ok.mod.kin hm.kp (thn (ha pos pins s1 σ H1 _ I1 q) fun us s2 ⟨vs, H2, I2, r, q2⟩ => ⟨I2.kIn, ?_⟩) hst hpl
  exact run_fn (us := .ref a :: us) (vs := .ref a :: vs) F hr hb hd hx I2 (.cons rfl r) q2
theorem pe_meth0 {pl : Sem Bool} (he : PE X o ta) (c : Cls X.K C) (hm : Meth X.K C m f) (F : FnOk X.prog X.w X.K X.mg X.base CX k f fd ps sp) (hr : Room k X.A) (hb : Binds X.K fd ps ds) (hd : Vals dvs ds) (hx : Passes CX X E)
    (ht : eval (.Call (.Attribute o m apos) [] [] pos) X.env = (do
      let ov ← eval o X.env
      standAt apos.atName
      let (f, first) ← holding [ov] (getMethod ov m pl)
      callWith pos f first (backTo pos (starEach [] X.env)) (backToKw pos (keywordEach [] X.env))) := by rfl) :
    PE X (.Call (.Attribute o m apos) [] [] pos) (tMeth C m sp dvs E ta tNil) := by
  intro pins s σ H Q I h
  refine PySem.W.methodCall_KW (pl := pl) (thn (he pins s σ H _ I h) fun u s1 ⟨x, H1, I1, rx, a, dx, fs, ex, ea, l, q⟩ => ?_) ht
  subst ex
  obtain rfl : u = Value.ref a := rx
  refine getmeth_ok I1 ea c hm l ?_
  exact PySem.W.callWith_K0 (first := [.ref a]) I1.kIn hm.kp (run_fn (us := [.ref a]) (vs := [.ref a]) F hr hb hd hx I1 (.cons rfl .nil) q)
structure Mk (K : PySem.W.Frag) (C f : Addr) : Prop where
  makes : PySem.W.makesIn K C = true
  init : PySem.W.findIn K (.ref C) "__init__" = some (some (.ref f))
  fn : PySem.W.isFn K (.ref f) = true
  kp : PySem.W.keepIn K (.ref C) = true
theorem run_make {pins : List (Addr × Obj)} {σ : St} {H : Hp} {s : Shared} {Q : VK} {us : List Value} {vs : List V} (M : Mk X.K C f) (F : FnOk X.prog X.w X.K X.mg X.base CX k f fd ps sp) (hr : Room (k + 1) X.A) (hb : Binds X.K fd ps ds) (hd : Vals dvs ds)
    (hx : Passes CX X E) (I : Inv X pins σ H s) (r : Vals vs us)
    (h : ∀ x dx, H x = none → H dx = none → dx ≠ x → sp (.ref x :: (vs ++ dvs)) (upd (upd H dx (.own x)) x (.ins C dx [])) (fun v H2 => v = .non ∧ Q (.ref x) H2) E) :
    wpAny (model X.prog X.w) X.A (call (.ref C) us) (EP X pins σ Q) X.xe s := by
  have hq := h (s.heap.objs.size + 1) s.heap.objs.size (I.hok.fresh (Nat.le_succ _)) (I.hok.fresh (Nat.le_refl _)) (Nat.ne_of_lt (Nat.lt_succ_self _))
  have I2 := Inv.made (C := C) I
  have r2 : Vals (V.ref (s.heap.objs.size + 1) :: (vs ++ dvs)) (Value.ref (s.heap.objs.size + 1) :: (us ++ ds)) := .cons rfl (r.append hd)
  have hl : (Value.ref (s.heap.objs.size + 1) :: us ++ ds).length = ps.length := by
    have e := r2.length
    rw [F.len _ _ _ _ hq] at e
    exact e.symm
  refine wpAny_call (make_map (f := f) I.kIn M.makes M.init (beq_iff_eq.mp M.fn) (codeAny_mono (F.run _ X.stack _ _ ⟨Value.ref (s.heap.objs.size + 1) :: us, []⟩ (Value.ref (s.heap.objs.size + 1) :: (us ++ ds)) _ _ E (hr.make C us [])
    (I2.env0.make C us []) (hb _ (Value.ref (s.heap.objs.size + 1) :: us) I2.kIn hl) r2 hq) fun r s' hq' => ?_))
  cases r with
  | error e => exact hx pins σ _ _ e s' I2 hq'
  | ok fl =>
    cases fl with
    | ret u =>
      obtain ⟨v, H', I3, rv, ev, q3⟩ := I2.after hq'
      subst ev
      exact ⟨rv, ⟨V.ref (s.heap.objs.size + 1), H', I3, rfl, q3⟩⟩
    | next => exact False.elim hq'
    | brk => exact False.elim hq'
    | cont => exact False.elim hq'
theorem pe_make (M : Mk X.K C f) (F : FnOk X.prog X.w X.K X.mg X.base CX k f fd ps sp) (hr : Room (k + 1) X.A) (hg : Gl X x) (hm : X.mg x = some (.ref C)) (hb : Binds X.K fd ps ds) (hd : Vals dvs ds) (hx : Passes CX X E)
    (ha : PA X (e :: es) t) (hdb : (x == ("__debug__" : Str)) = false := by decide) (he : starEach (e :: es) X.env = (false, eval e X.env) :: starEach es X.env := by rfl) (hpl : (backTo pos (starEach es X.env)).any (·.1) = false := by rfl) :
    PE X (.Call (.Name x p) (e :: es) [] pos) (tMake C sp dvs E t) := by
  intro pins s σ H Q I h
  refine wpAny_Call_Name_kw (ld_glob I hg hm ?_ hdb)
  refine PySem.W.callWith_K (h₀ := X.base) I.ok.mod.kin M.kp (thn (ha pos pins s σ H _ I h) fun us s1 ⟨vs, H1, I1, r, q⟩ => ⟨I1.kIn, ?_⟩) he hpl
  exact run_make M F hr hb hd hx I1 r q
theorem pe_make0 (M : Mk X.K C f) (F : FnOk X.prog X.w X.K X.mg X.base CX k f fd ps sp) (hr : Room (k + 1) X.A) (hg : Gl X x) (hm : X.mg x = some (.ref C)) (hb : Binds X.K fd ps ds) (hd : Vals dvs ds) (hx : Passes CX X E)
    (hdb : (x == ("__debug__" : Str)) = false := by decide) : PE X (.Call (.Name x p) [] [] pos) (tMake C sp dvs E tNil) := by
  intro pins s σ H Q I h
  refine wpAny_Call_Name_kw (ld_glob I hg hm ?_ hdb)
  exact PySem.W.callWith_K0 I.kIn M.kp (run_make (us := []) M F hr hb hd hx I .nil h)
end
section
variable {X : Cx} {CX : CXT} {k : Nat} {f C : Addr} {fd : FuncData} {ps ks : List Str} {sp : Sp} {E : XK} {x m : Str} {p pos apos kpos : Pos} {e o : Expr} {es : List Expr} {kws : List Keyword} {te ta : TE} {t tk : TA} {nm : Option Str}
structure KBinds (K : PySem.W.Frag) (fd : FuncData) (ps ks : List Str) (g : List Value → List Value → List Value) (gV : List V → List V → List V) : Prop where
  to : ∀ (s : Shared) (us ws : List Value), K.In s.heap → (g us ws).length = ps.length → BindsTo s fd ⟨us, ks.zip ws⟩ (ps.zip (g us ws))
  rel : ∀ {vs : List V} {us : List Value} {zs : List V} {ws : List Value}, Vals vs us → Vals zs ws → Vals (gV vs zs) (g us ws)
variable {g : List Value → List Value → List Value} {gV : List V → List V → List V}
end
structure FnScope (N P : List Str) (sc : Scope) : Prop where
  kind : sc.kind = .function
  co : sc.isCoroutine = false
  gen : sc.isGenerator = false
  nd : N.Nodup
  pre : N.take P.length = P
  par : ∀ x ∈ P, sc.names.lookup x = some .local ∨ sc.names.lookup x = some .cell
  nofree : ∀ y ∈ sc.names, y.2 ≠ .free
theorem bindL_out {kindOf : Str → Option NameKind} {x : Str} : ∀ {binds : List (Str × Value)} {m : Str → Option Value}, (∀ v, (x, v) ∉ binds) → bindL kindOf binds m x = m x
  | [], _, _ => rfl
  | (n, v) :: r, m, h => by
    unfold bindL
    rw [bindL_out fun w hw => h w (List.mem_cons_of_mem _ hw)]
    split
    · have : x ≠ n := by rintro rfl; exact h v List.mem_cons_self
      simp [this]
    · rfl
theorem bindC_out {kindOf : Str → Option NameKind} {x : Str} : ∀ {binds : List (Str × Value)} {m : Str → Option Value}, (∀ v, (x, v) ∉ binds) → bindC kindOf binds m x = m x
  | [], _, _ => rfl
  | (n, v) :: r, m, h => by
    unfold bindC
    rw [bindC_out fun w hw => h w (List.mem_cons_of_mem _ hw)]
    split
    · rfl
    · have : x ≠ n := by rintro rfl; exact h v List.mem_cons_self
      simp [this]
theorem bindL_get {kindOf : Str → Option NameKind} {x : Str} {v : Value} : ∀ {P : List Str} {vs : List Value} {i : Nat} {m : Str → Option Value}, P.Nodup → P[i]? = some x → vs[i]? = some v → kindOf x = some .local →
    bindL kindOf (P.zip vs) m x = some v
  | [], _, _, _, _, h, _, _ => by simp at h
  | _ :: _, [], _, _, _, _, h, _ => by simp at h
  | p :: P, w :: vs, 0, m, nd, h1, h2, hk => by
    simp at h1 h2; subst h1; subst h2
    show bindL kindOf ((p, w) :: P.zip vs) m p = _
    unfold bindL
    rw [bindL_out fun v hv => (List.nodup_cons.mp nd).1 (List.of_mem_zip hv).1, if_pos hk]
    simp
  | p :: P, w :: vs, i + 1, m, nd, h1, h2, hk => by
    show bindL kindOf ((p, w) :: P.zip vs) m x = _
    unfold bindL
    exact bindL_get (i := i) (List.nodup_cons.mp nd).2 (by simpa using h1) (by simpa using h2) hk
theorem bindC_get {kindOf : Str → Option NameKind} {x : Str} {v : Value} : ∀ {P : List Str} {vs : List Value} {i : Nat} {m : Str → Option Value}, P.Nodup → P[i]? = some x → vs[i]? = some v → kindOf x ≠ some .local →
    bindC kindOf (P.zip vs) m x = some v
  | [], _, _, _, _, h, _, _ => by simp at h
  | _ :: _, [], _, _, _, _, h, _ => by simp at h
  | p :: P, w :: vs, 0, m, nd, h1, h2, hk => by
    simp at h1 h2; subst h1; subst h2
    show bindC kindOf ((p, w) :: P.zip vs) m p = _
    unfold bindC
    rw [bindC_out fun v hv => (List.nodup_cons.mp nd).1 (List.of_mem_zip hv).1, if_neg hk]
    simp
  | p :: P, w :: vs, i + 1, m, nd, h1, h2, hk => by
    show bindC kindOf ((p, w) :: P.zip vs) m x = _
    unfold bindC
    exact bindC_get (i := i) (List.nodup_cons.mp nd).2 (by simpa using h1) (by simpa using h2) hk
def start (N : List Str) (vs : List V) : St := vs.map some ++ List.replicate (N.length - vs.length) none
def cxOf (CX : CXT) (P : Program) (w : World) (K : PySem.W.Frag) (mg : Str → Option Value) (base : Heap) (N : List Str) (qual : Str) (scope : Scope) (f : Addr) (cd : Value) (A : Around) (outer : List Env) (s : Shared) (H : Hp) (E : XK) : Cx where
  prog := P
  w := w
  K := K
  mg := mg
  base := base
  A := A.deeper (envOfC qual scope s.heap.objs.size f cd)
  N := N
  s_0 := s
  H_0 := H
  env := envOfC qual scope s.heap.objs.size f cd
  outer := outer
  stack := envOfC qual scope s.heap.objs.size f cd :: outer
  ex := []
  calm := true
  fn := fun _ => true
  pn := []
  xe := fun e s' => wpAny (model P w) (A.deeper (envOfC qual scope s.heap.objs.size f cd)) (leaving (envOfC qual scope s.heap.objs.size f cd) e) (fun _ s'' => CX outer H s E e s'') (fun e' s'' => CX outer H s E e' s'') s'
theorem cell_has {sc : Scope} {n : Nat} {x : Str} (h : sc.names.lookup x = some .cell) : ∃ c, (cellsFrom n sc.names []).lookup x = some c := by
  have q := PySem.W.cellsFrom_some sc.names n [] (.inl h)
  exact Option.isSome_iff_exists.mp q
theorem inv_start {CX : CXT} {P : Program} {w : World} {K : PySem.W.Frag} {mg : Str → Option Value} {base : Heap} {N ps : List Str} {qual : Str} {scope : Scope} {f : Addr} {cd : Value} {A : Around} {outer : List Env} {s s1 : Shared} {H : Hp} {E : XK} {us : List Value} {vs : List V}
    (S : FnScope N ps scope) (hd : A.handled = none) (e0 : Env0 P w K mg base A outer s H) (hl : vs.length = ps.length) (r : Vals vs us)
    (x : InCallC s s.heap.objs.size (bindL (envOfC qual scope s.heap.objs.size f cd).kindOf (ps.zip us) fun _ => none) (cellsFrom (s.heap.objs.size + 1) scope.names []) (bindC (envOfC qual scope s.heap.objs.size f cd).kindOf (ps.zip us) fun _ => none) s1) :
    Inv (cxOf CX P w K mg base N qual scope f cd A outer s H E) [] (start N vs) H s1 := by
  have hpl : ps.length ≤ N.length := by have := congrArg List.length S.pre; rw [List.length_take] at this; omega
  obtain ⟨h1, tk, rfl, hk⟩ := x.done
  have noA : ∀ b : Addr, b ∉ (cxOf CX P w K mg base N qual scope f cd A outer s H E).ex := fun b z => absurd (show b ∈ ([] : List Addr) from z) (by simp)
  refine ⟨⟨e0.mod, S.kind, rfl, rfl, Nat.le_refl _, fun y z c h1 h2 => ?_, fun y hy => ?_, fun y c _ h => ?_, fun _ => hd, Around.frames_deeper e0.frames, .inr ⟨rfl, rfl⟩, fun b z => absurd z (noA b), e0.bs, e0.bsz, fun b _ _ => noA b, fun b z => absurd z (noA b), e0.funs, e0.frf⟩,
    rfl, e0.bare, Un.kept hk, ⟨_, x.toInCall.ns, fun i y v h1 h2 h3 => ?_⟩, fun y c h => ⟨_, x.cell y c h⟩, e0.hok.fresh (Nat.le_refl _), fun y c h => ?_, fun p hp => absurd (show p ∈ ([] : List (Addr × Obj)) from hp) (by simp), e0.hok.kept hk, ?_⟩
  · exact name_of_addr x.apart (PySem.mem_of_lookup h1) (PySem.mem_of_lookup h2)
  · have hy : scope.names.lookup y = some .cell ∨ scope.names.lookup y = some .free := hy
    rcases hy with hy | hy
    · exact cell_has hy
    · exact absurd rfl (S.nofree _ (PySem.mem_of_lookup hy))
  · exact Nat.le_of_lt (x.above y c (PySem.mem_of_lookup h))
  · have hi : i < vs.length := by
      unfold start at h2
      by_cases hi : i < vs.length
      · exact hi
      · rw [List.getElem?_append_right (by simpa using hi)] at h2
        rw [List.getElem?_replicate] at h2
        split at h2 <;> cases h2
    have ha : vs[i]? = some v := by
      unfold start at h2
      rw [List.getElem?_append_left (by simpa using hi), List.getElem?_map] at h2
      cases e : vs[i]? with
      | none => rw [e] at h2; cases h2
      | some a => rw [e] at h2; cases h2; rfl
    obtain ⟨u, hu, rv⟩ := r.get ha
    have hp : ps[i]? = some y := by
      rw [← S.pre, List.getElem?_take_of_lt (by omega)]; exact h1
    have ndP : ps.Nodup := by rw [← S.pre]; exact S.nd.sublist (List.take_sublist _ _)
    refine ⟨u, rv, ?_⟩
    rcases S.par y (List.mem_of_getElem? hp) with k | k
    · exact .inl ⟨k, bindL_get ndP hp hu k⟩
    · obtain ⟨c, e⟩ := cell_has (n := s.heap.objs.size + 1) k
      refine .inr ⟨.inl k, c, e, ?_⟩
      have q := x.cell y c e
      rw [bindC_get ndP hp hu (by show scope.names.lookup y ≠ _; rw [k]; decide)] at q
      exact q
  · exact e0.hok.fresh (Nat.le_of_lt (x.above y c (PySem.mem_of_lookup h)))
  · unfold start
    show _ = N.length
    rw [List.length_append, List.length_map, List.length_replicate]
    omega
theorem fn_of {CX : CXT} {P : Program} {w : World} {K : PySem.W.Frag} {mg : Str → Option Value} {base : Heap} {k : Nat} {f : Addr} {name qual : Str} {params : Arguments} {body : List Stmt} {scope : Scope} {dV kV doc pm cdv ct oc : Value} {an od : Option Addr}
    {osl : Array (Option Value)} {N ps : List Str} {sp : Sp} (lk : K.lookup f = some ⟨oc, od, .func (PySem.W.fnOf name qual params body scope dV kV doc pm an cdv ct), osl⟩) (hcd : PySem.W.codeIn K cdv qual = true) (S : FnScope N ps scope)
    (len : ∀ vs H Q E, sp vs H Q E → vs.length = ps.length)
    (hbody : ∀ (A : Around) (outer : List Env) (s : Shared) (H : Hp) (vs : List V) (Q : VK) (E : XK), Room k (A.deeper (envOfC qual scope s.heap.objs.size f cdv)) → sp vs H Q E →
      ∃ t, PSs (cxOf CX P w K mg base N qual scope f cdv A outer s H E) body t ∧ t { nx := fun _ H' => Q .non H', rt := Q } (start N vs) H) :
    FnOk P w K mg base CX (k + 1) f (PySem.W.fnOf name qual params body scope dV kV doc pm an cdv ct) ps sp := by
  refine ⟨len, fun A outer s H args us vs Q E hr e0 hb r hsp => ?_⟩
  have hl := len _ _ _ _ hsp
  have KX : K.In s.heap := e0.mod.kin.keeps fun b o e => (e0.bs b o e).1
  have lim : s.heap.NoLimit := e0.mod.nolimit.keeps fun b o e => (e0.bs b o e).1
  have hkind : ∀ y ∈ ps.zip us, scope.names.lookup y.1 = some .local ∨ (scope.names.lookup y.1 = some .cell ∧ ((cellsFrom (s.heap.objs.size + 1) scope.names []).lookup y.1).isSome = true) := fun ⟨n, v⟩ hy => by
    rcases S.par n (List.of_mem_zip hy).1 with q | q
    · exact .inl q
    · exact .inr ⟨q, PySem.W.cellsFrom_some _ _ _ (.inl q)⟩
  refine codeAny_call_function hr.depth (KX _ _ lk) rfl S.co S.gen rfl (PySem.W.codeRec_of KX hcd) (hb _ _ _ _ ?_)
  refine wpAny_newFunctionEnv_cells S.kind hkind fun env he s1 x => ?_
  subst he
  refine ⟨lim.keeps x.toInCall.keep, codeAny_func ?_⟩
  obtain ⟨t, ht, hq⟩ := hbody A outer s H vs Q E (hr.deeper _) hsp
  have I : Inv (cxOf CX P w K mg base N qual scope f cdv A outer s H E) [] (start N vs) H s1 := inv_start S hr.hd e0 hl r x
  refine wpAny_mono (ht [] s1 (start N vs) H _ I hq) (fun fl s' hs => ?_) fun e s' hs => hs
  have fin : ∀ {σ' : St} {H' : Hp} {v : V} {u : Value}, Inv (cxOf CX P w K mg base N qual scope f cdv A outer s H E) [] σ' H' s' → RelV v u → Q v H' → CE outer P w H s Q u s' :=
    fun {σ' H' v u} J rv q => ⟨v, H', J.os, J.bare, J.base, J.hok, rv, q⟩
  cases fl with
  | ret u =>
    obtain ⟨v, σ', H', J, rv, q⟩ := hs
    exact fin J rv q
  | next =>
    obtain ⟨σ', H', J, q⟩ := hs
    exact fin (v := V.non) (u := Value.none) J rfl q
  | brk =>
    obtain ⟨_, _, _, q⟩ := hs
    exact False.elim q
  | cont =>
    obtain ⟨_, _, _, q⟩ := hs
    exact False.elim q
end L2
namespace L2
open PySem PySem.Spec PyProof.Rows
section
variable {X : Cx} {x : Str} {p pos : Pos} {e : Expr} {es : List Expr} {t : TA} {id T : String} {r : List V → Hp → VK → Prop}
def tCB (r : List V → Hp → VK → Prop) (t : TA) : TE := fun σ H Q => t σ H fun vs H1 => r vs H1 Q
theorem pe_callB (hc : CallR X (.builtin id) r) (hg : Gl X x) (hm : X.mg x = none) (hv : bootBuiltins x = some (.builtin id)) (ha : PA X (e :: es) t) (hn : x ≠ "__name__" := by decide) (hdb : (x == ("__debug__" : Str)) = false := by decide)
    (he : starEach (e :: es) X.env = (false, eval e X.env) :: starEach es X.env := by rfl) (hpl : (backTo pos (starEach es X.env)).any (·.1) = false := by rfl) : PE X (.Call (.Name x p) (e :: es) [] pos) (tCB r t) := by
  intro pins s σ H Q I h
  refine wpAny_Call_Name_kw (ld_blt I hg hm hv ?_ hn hdb)
  exact PyProof.Rows.callWith_builtin1 (thn (ha pos pins s σ H _ I h) fun us s1 ⟨vs, H1, I1, r1, q1⟩ => hc pins s1 σ H1 vs us Q I1 r1 q1) he hpl
end
end L2
namespace HT
open PySem PyProof.Rows
section
open PySem.SeqAt
open PySem.AutoSeq1 (wpAny_loadPart')
open PySem.MeetsSeq PySem.MeetsSeq2 PySem.MeetsSeq3
end
section
variable {prog : Program} {w : World} {A : Around} {E : Value → Shared → Prop} {s : Shared}
def sIx (n d : Nat) : Option Int → Nat
  | none => d
  | some v => if v < 0 then (v + (n : Int)).toNat else min v.toNat n
theorem sIx_none (n d : Nat) : sIx n d none = d := rfl
theorem sIx_nat (n d k : Nat) : sIx n d (some (k : Int)) = min k n := by
  show (if (k : Int) < 0 then ((k : Int) + (n : Int)).toNat else min (k : Int).toNat n) = min k n
  rw [if_neg (by omega), Int.toNat_natCast]
end
end HT
namespace L2
open PySem PySem.Spec PyProof.Rows
abbrev TO := St → Hp → (Option Int → Hp → Prop) → Prop
def PO (X : Cx) (e : Option Expr) (t : TO) : Prop :=
  ∀ (pins : List (Addr × Obj)) (s : Shared) (σ : St) (H : Hp) (Q : Option Int → Hp → Prop), Inv X pins σ H s → t σ H Q →
    wpAny (model X.prog X.w) X.A (evalPart e X.env) (fun u s' => ∃ o H', Inv X pins σ H' s' ∧ IsPart u o ∧ Q o H') X.xe s
def tNoPart : TO := fun _ H Q => Q none H
def tPart (t : TE) : TO := fun σ H Q => t σ H fun x H1 => ∃ i, x = .int i ∧ Q (some i) H1
section
variable {X : Cx} {e : Expr} {te : TE} {lo hi : Option Expr} {tl th : TO} {pos p2 : Pos}
theorem po_none : PO X none tNoPart := by
  intro pins s σ H Q I h
  rw [evalPart_none]
  exact wpAny_pure ⟨none, H, I, .none, h⟩
theorem po_some (h : PE X e te) : PO X (some e) (tPart te) := by
  intro pins s σ H Q I hw
  rw [evalPart_some]
  refine thn (h pins s σ H _ I hw) fun u s1 ⟨x, H1, I1, r1, q1⟩ => ?_
  obtain ⟨i, rfl, q⟩ := q1
  obtain ⟨t, rfl⟩ := r1
  exact ⟨some i, H1, I1, .int i t, q⟩
def SlR (X : Cx) (r : V → Option Int → Option Int → Hp → VK → Prop) : Prop :=
  ∀ (pins : List (Addr × Obj)) (s : Shared) (σ : St) (H : Hp) (x : V) (v vl vu : Value) (lo hi : Option Int) (sl : Addr) (Q : VK), Inv X pins σ H s → RelV x v → s.heap.IsSliceOf sl vl vu .none → IsPart vl lo → IsPart vu hi → r x lo hi H Q →
    ∃ T id, typeLookup (.type T) "__getitem__" = pure (some (.builtin id)) ∧ s.TypeIs v T ∧ wpAny (model X.prog X.w) X.A (getItem v (.ref sl)) (EP X pins σ Q) X.xe s
def tSl (r : V → Option Int → Option Int → Hp → VK → Prop) (te : TE) (tl th : TO) : TE := fun σ H Q => te σ H fun x H1 => tl σ H1 fun l H2 => th σ H2 fun u H3 => r x l u H3 Q
theorem pe_slice {r : V → Option Int → Option Int → Hp → VK → Prop} (hr : SlR X r) (he : PE X e te) (hl : PO X lo tl) (hu : PO X hi th) : PE X (.Subscript e (.Slice lo hi none p2) pos) (tSl r te tl th) := by
  intro pins s σ H Q I h
  refine Subscript_ (thn (he pins s σ H _ I h) fun v s1 ⟨x, H1, I1, r1, q1⟩ => ?_)
  refine wpAny_Slice (thn (hl pins s1 σ H1 _ I1 q1) fun vl s2 ⟨l, H2, I2, pl, q2⟩ => thn (hu pins s2 σ H2 _ I2 q2) fun vu s3 ⟨u, H3, I3, pu, q3⟩ => ?_)
  rw [evalPart_none]
  refine wpAny_pure ?_
  have I4 : Inv X pins σ H3 { s3 with heap := s3.heap.push { cls := .type "slice", data := .fields #[vl, vu, .none] } } := I3.kept (t' := s3.toks) fun b ob q => Heap.get?_push_of_some _ q
  obtain ⟨T, id, hT, ht, hg⟩ := hr pins { s3 with heap := s3.heap.push { cls := .type "slice", data := .fields #[vl, vu, .none] } } σ H3 x v vl vu l u s3.heap.objs.size Q I4 r1 (Heap.IsSliceOf.new ..) pl pu q3
  show wpAny (model X.prog X.w) X.A (subscriptTail e (.Slice lo hi none p2) v (.ref s3.heap.objs.size)) (EP X pins σ Q) X.xe { s3 with heap := s3.heap.push { cls := .type "slice", data := .fields #[vl, vu, .none] } }
  exact tail_any (ops := [.ref s3.heap.objs.size, v]) ht hT hg (by with_unfolding_all rfl)
def cutV (xs : List V) (lo hi : Option Int) : List V := (xs.drop (HT.sIx xs.length 0 lo)).take (HT.sIx xs.length xs.length hi - HT.sIx xs.length 0 lo)
theorem cutV_length (xs : List V) (lo hi : Option Int) : (cutV xs lo hi).length ≤ xs.length := by
  unfold cutV
  rw [List.length_take, List.length_drop]
  omega
end
end L2
namespace L2
open PySem PySem.Spec PyProof.Rows
def ixN (n : Nat) (i : Int) : Option Nat := if 0 ≤ i then (if i < n then some i.toNat else none) else if -(n : Int) ≤ i then some (i + n).toNat else none
def atI {α : Type} (xs : List α) (i : Int) : Option α := (ixN xs.length i).bind fun j => xs[j]?
theorem ixN_seq {n : Nat} {i : Int} {j : Nat} (h : ixN n i = some j) : seqIndex? i n = some j ∧ j < n ∧ -(n : Int) ≤ i ∧ i < n := by
  unfold ixN at h
  by_cases h0 : 0 ≤ i
  · rw [if_pos h0] at h
    by_cases h1 : i < n
    · rw [if_pos h1] at h
      have e : i.toNat = j := Option.some.inj h
      exact ⟨by rw [seqIndex_of h0 h1, e], by omega, by omega, h1⟩
    · rw [if_neg h1] at h; cases h
  · rw [if_neg h0] at h
    by_cases h1 : -(n : Int) ≤ i
    · rw [if_pos h1] at h
      have e : (i + n).toNat = j := Option.some.inj h
      exact ⟨by rw [seqIndex_neg (by omega) h1, e], by omega, h1, by omega⟩
    · rw [if_neg h1] at h; cases h
theorem atI_get {α : Type} {xs : List α} {i : Int} {v : α} (h : atI xs i = some v) : ∃ j, seqIndex? i xs.length = some j ∧ xs[j]? = some v ∧ j < xs.length ∧ -(xs.length : Int) ≤ i ∧ i < xs.length := by
  unfold atI at h
  cases e : ixN xs.length i with
  | none => rw [e] at h; cases h
  | some j =>
    rw [e] at h
    obtain ⟨h1, h2, h3, h4⟩ := ixN_seq e
    exact ⟨j, h1, h, h2, h3, h4⟩
theorem atI_nat {α : Type} {xs : List α} {j : Nat} {v : α} (h : xs[j]? = some v) : atI xs (j : Int) = some v := by
  have hj : j < xs.length := (List.getElem?_eq_some_iff.mp h).1
  have e : ixN xs.length (j : Int) = some j := by
    unfold ixN
    rw [if_pos (by omega), if_pos (by omega)]; simp
  unfold atI; rw [e]; exact h
theorem atI_last {α : Type} (xs : List α) (v : α) : atI (xs ++ [v]) (-1) = some v := by
  have hl : (xs ++ [v]).length = xs.length + 1 := by simp
  have e : ixN (xs ++ [v]).length (-1) = some xs.length := by
    unfold ixN
    rw [hl, if_neg (by decide), if_pos (by omega)]
    congr 1
    omega
  unfold atI
  rw [e]
  show (xs ++ [v])[xs.length]? = some v
  simp
def PlainIx (b : Expr) : Prop := ∀ o i, subscripted b false o i = operate [o, i] (getItem o i)
def IxR (X : Cx) (r : R2) : Prop :=
  ∀ (value slice : Expr) (pins : List (Addr × Obj)) (s : Shared) (σ : St) (H : Hp) (x y : V) (v u : Value) (Q : VK), Inv X pins σ H s → RelV x v → RelV y u → r x y H Q →
    subscripted slice false v u = operate [v, u] (getItem v u) → wpAny (model X.prog X.w) X.A (subscriptTail value slice v u) (EP X pins σ Q) X.xe s
def MtR (X : Cx) (id : String) (r : V → List V → Hp → VK → Prop) : Prop :=
  ∀ (pins : List (Addr × Obj)) (s : Shared) (σ : St) (H : Hp) (x : V) (xs : List V) (v : Value) (us : List Value) (Q : VK), Inv X pins σ H s → RelV x v → Vals xs us → r x xs H Q →
    wpAny (model X.prog X.w) X.A (call (.builtin id) (v :: us)) (EP X pins σ Q) X.xe s
section
variable {X : Cx} {a b : Expr} {ta tb : TE} {pos : Pos}
theorem pe_ix {r : R2} (hr : IxR X r) (ha : PE X a ta) (hb : PE X b tb) (hs : PlainIx b) : PE X (.Subscript a b pos) (tOp r ta tb) := by
  intro pins s σ H Q I h
  exact Subscript_ (binT ha hb I h fun v u s2 x y H2 I2 rx ry q => hr a b pins s2 σ H2 x y v u Q I2 rx ry q (hs _ _))
def rIxL (K : PySem.W.Frag) : R2 := fun x y H Q => ∃ p xs i v, x = .ref p ∧ y = .int i ∧ SqL K H p xs ∧ atI xs i = some v ∧ Q v H
def rIxT (K : PySem.W.Frag) : R2 := fun x y H Q => ∃ p xs i v, x = .ref p ∧ y = .int i ∧ SqT K H p xs ∧ atI xs i = some v ∧ Q v H
theorem ix_list : IxR X (rIxL X.K) := by
  intro value slice pins s σ H x y v u Q I rx ry h hs
  obtain ⟨p, xs, i, z, rfl, rfl, hq, he, q⟩ := h
  cases rx
  obtain ⟨t, rfl⟩ := ry
  obtain ⟨its, r, pl, hz⟩ := I.list hq
  obtain ⟨j, h1, h2, h3, h4, h5⟩ := atI_get he
  obtain ⟨w, ew, rw'⟩ := r.get h2
  have hl := r.length
  have hn := line63
  have fin : EP X pins σ Q w s := ⟨z, H, I, rw', q⟩
  by_cases h0 : 0 ≤ i
  · have hj : i.toNat = j := by
      rw [seqIndex_of h0 h5] at h1
      exact Option.some.inj h1
    exact item_listR pl.isList h0 (by omega) (by rw [hj]; simpa using ew) fin hs
  · have hj : (i + (its.toArray.size : Int)).toNat = j := by
      rw [seqIndex_neg (by omega) h4] at h1
      rw [List.size_toArray, ← hl]
      exact Option.some.inj h1
    exact subscriptTail_builtinR (x := w) pl.isList.typeIs slot_list_getitem.lookup
      (wpAny_getItem_list_neg (Q := fun r s' => r = w ∧ EP X pins σ Q r s') pl.isList (by omega) (by rw [List.size_toArray] <;> omega) (by omega) (by rw [hj]; simpa using ew) ⟨rfl, fin⟩) hs
theorem ix_tup : IxR X (rIxT X.K) := by
  intro value slice pins s σ H x y v u Q I rx ry h hs
  obtain ⟨p, xs, i, z, rfl, rfl, hq, he, q⟩ := h
  cases rx
  obtain ⟨t, rfl⟩ := ry
  obtain ⟨its, r, pl, hz⟩ := I.tuple hq
  obtain ⟨j, h1, h2, h3, h4, h5⟩ := atI_get he
  obtain ⟨w, ew, rw'⟩ := r.get h2
  have hl := r.length
  have hn := line63
  have fin : EP X pins σ Q w s := ⟨z, H, I, rw', q⟩
  exact subscriptTail_builtinR (x := w) pl.typeIs slot_tuple_getitem.lookup
    (getItem_tuple (j := j) (Q := fun r s' => r = w ∧ EP X pins σ Q r s') pl (by omega) (by omega) (by rw [List.size_toArray, ← hl]; exact h1) (by simpa using ew) ⟨rfl, fin⟩) hs
theorem slice_bounds (lo hi : Option Int) (n : Nat) : (sliceBounds lo hi none n).1 = ((HT.sIx n 0 lo : Nat) : Int) ∧ (sliceBounds lo hi none n).2.1 = ((HT.sIx n n hi : Nat) : Int) ∧ (sliceBounds lo hi none n).2.2 = 1 := by
  refine ⟨?_, ?_, rfl⟩
  · cases lo with
    | none => simp [sliceBounds, HT.sIx]
    | some i =>
      simp only [sliceBounds, HT.sIx, Option.getD_none, show (1 : Int) > 0 by decide, if_true]
      by_cases h : i < 0
      · simp only [h, if_true] <;> omega
      · simp only [h, if_false] <;> omega
  · cases hi with
    | none => simp [sliceBounds, HT.sIx]
    | some i =>
      simp only [sliceBounds, HT.sIx, Option.getD_none, show (1 : Int) > 0 by decide, if_true]
      by_cases h : i < 0
      · simp only [h, if_true] <;> omega
      · simp only [h, if_false] <;> omega
theorem slicePick_cut (its : List Value) (lo hi : Option Int) : slicePick its.toArray lo hi none = ((its.drop (HT.sIx its.length 0 lo)).take (HT.sIx its.length its.length hi - HT.sIx its.length 0 lo)).toArray := by
  obtain ⟨h1, h2, h3⟩ := slice_bounds lo hi its.toArray.size
  unfold slicePick
  rw [h1, h2, h3]
  simp only [sliceRange_one, pick_run, List.size_toArray] <;> rfl
def rSlL (K : PySem.W.Frag) : V → Option Int → Option Int → Hp → VK → Prop := fun x lo hi H Q => ∃ a xs, x = .ref a ∧ SqL K H a xs ∧ ∀ p, H p = none → Q (.ref p) (upd H p (.lst (cutV xs lo hi)))
theorem sl_list : SlR X (rSlL X.K) := by
  intro pins s σ H x v vl vu lo hi sl Q I rx hs pl pu h
  obtain ⟨a, xs, rfl, hx, q⟩ := h
  cases rx
  obtain ⟨its, r, ht, hz⟩ := I.list hx
  have hlen := r.length
  refine ⟨"list", _, slot_list_getitem.lookup, ht.isList.typeIs, ?_⟩
  refine wpAny_getItem_list_slice ht.isList hs pl pu .none (by simp) ?_ (by rw [List.size_toArray] <;> omega)
  rw [slicePick_cut, ← hlen]
  refine ⟨.ref s.heap.objs.size, _, I.laid (t' := s.toks) (o := .lst (cutV xs lo hi)) (fun b ob q => Heap.get?_push_of_some _ q) (Nat.le_refl _) ?_, rfl, q _ (I.hok.fresh (Nat.le_refl _))⟩
  exact ⟨Nat.le_trans (cutV_length xs lo hi) hz, _, 0, (r.drop (HT.sIx xs.length 0 lo)).take (HT.sIx xs.length xs.length hi - HT.sIx xs.length 0 lo), Heap.get?_push_size _ rfl⟩
def flatV : V → Bool
  | .non => true
  | .bl _ => true
  | .int _ => true
  | .str _ => true
  | _ => false
def eqV : V → V → Bool
  | .non, .non => true
  | .bl a, .bl b => a == b
  | .bl a, .int b => (if a then 1 else 0) == b
  | .int a, .bl b => a == (if b then 1 else 0)
  | .int a, .int b => a == b
  | .str a, .str b => a == b
  | _, _ => false
theorem eqAt_V {A : Around} {s : Shared} {y x : V} {u v : Value} (ry : RelV y u) (rx : RelV x v) (fy : flatV y = true) (fx : flatV x = true) : SeqAt.EqAt A s u v (eqV y x) := by
  cases y with
  | non =>
    cases ry
    cases x with
    | non => cases rx; exact SeqAt.EqAt.same _
    | bl b => cases rx; exact SeqAt.EqAt.none_bool b
    | int b => obtain ⟨t, rfl⟩ := rx; exact SeqAt.EqAt.none_int b t
    | str b => obtain ⟨t, rfl⟩ := rx; exact SeqAt.EqAt.none_str b t
    | _ => exact absurd (show false = true from fx) Bool.false_ne_true
  | bl a =>
    cases ry
    cases x with
    | non => cases rx; exact SeqAt.EqAt.bool_none a
    | bl b => cases rx; exact SeqAt.EqAt.bool_bool a b
    | int b => obtain ⟨t, rfl⟩ := rx; exact SeqAt.EqAt.bool_int a b t
    | str b => obtain ⟨t, rfl⟩ := rx; exact SeqAt.EqAt.bool_str a b t
    | _ => exact absurd (show false = true from fx) Bool.false_ne_true
  | int a =>
    obtain ⟨t', rfl⟩ := ry
    cases x with
    | non => cases rx; exact SeqAt.EqAt.int_none a t'
    | bl b => cases rx; exact SeqAt.EqAt.int_bool a t' b
    | int b => obtain ⟨t, rfl⟩ := rx; exact SeqAt.EqAt.int_int a t' b t
    | str b => obtain ⟨t, rfl⟩ := rx; exact SeqAt.EqAt.int_str a t' b t
    | _ => exact absurd (show false = true from fx) Bool.false_ne_true
  | str a =>
    obtain ⟨t', rfl⟩ := ry
    cases x with
    | non => cases rx; exact SeqAt.EqAt.str_none a t'
    | bl b => cases rx; exact SeqAt.EqAt.str_bool a t' b
    | int b => obtain ⟨t, rfl⟩ := rx; exact SeqAt.EqAt.str_int a t' b t
    | str b => obtain ⟨t, rfl⟩ := rx; exact SeqAt.EqAt.str_str a t' b t
    | _ => exact absurd (show false = true from fx) Bool.false_ne_true
  | _ => exact absurd (show false = true from fy) Bool.false_ne_true
def eqU (x : V) (u : Value) : Bool := match u with
  | .none => eqV .non x
  | .bool b => eqV (.bl b) x
  | .int i _ => eqV (.int i) x
  | .str z _ => eqV (.str z) x
  | _ => false
theorem eqU_of {x y : V} {u : Value} (r : RelV y u) (f : flatV y = true) : eqU x u = eqV y x := by
  cases y with
  | non => cases r; rfl
  | bl b => cases r; rfl
  | int i => obtain ⟨t, rfl⟩ := r; rfl
  | str z => obtain ⟨t, rfl⟩ := r; rfl
  | _ => exact absurd (show false = true from f) Bool.false_ne_true
theorem any_eqU {x : V} : ∀ {xs : List V} {us : List Value}, Vals xs us → xs.all flatV = true → us.any (eqU x) = xs.any fun y => eqV y x
  | _, _, .nil, _ => rfl
  | y :: xs, u :: us, .cons r t, f => by
    rw [List.all_cons, Bool.and_eq_true] at f
    rw [List.any_cons, List.any_cons, eqU_of r f.1, any_eqU t f.2]
theorem mem_eqAt {A : Around} {s : Shared} {x : V} {v : Value} (rx : RelV x v) (fx : flatV x = true) : ∀ {xs : List V} {us : List Value}, Vals xs us → xs.all flatV = true → ∀ u ∈ us, SeqAt.EqAt A s u v (eqU x u)
  | _, _, .nil, _ => fun u hu => by cases hu
  | y :: xs, u :: us, .cons r t, f => fun u' hu => by
    rw [List.all_cons, Bool.and_eq_true] at f
    rcases List.mem_cons.mp hu with rfl | hu
    · rw [eqU_of r f.1]; exact eqAt_V r rx f.1 fx
    · exact mem_eqAt rx fx t f.2 u' hu
def inV (x : V) (xs : List V) : Bool := xs.any fun y => eqV y x
def rIn (K : PySem.W.Frag) (neg : Bool) : R2 := fun x y H Q => ∃ p xs, y = .ref p ∧ (SqL K H p xs ∨ SqT K H p xs) ∧ flatV x = true ∧ xs.all flatV = true ∧ Q (.bl (if neg then !inV x xs else inV x xs)) H
theorem op_in_seq : OpR X (compareOp .In) (rIn X.K false) := by
  intro pins s σ H x y v u Q I rx ry h
  obtain ⟨p, xs, rfl, hq, fx, fs, q⟩ := h
  cases ry
  rcases hq with hq | hq
  · obtain ⟨its, r, pl, hz⟩ := I.list hq
    refine SeqAt.in_listAt (eqU x) pl.isList (fun w hw => mem_eqAt rx fx r fs w (by simpa using hw)) ⟨.bl _, H, I, rfl, ?_⟩
    rw [show its.toArray.any (eqU x) = its.any (eqU x) by simp, any_eqU r fs]
    exact q
  · obtain ⟨its, r, pl, hz⟩ := I.tuple hq
    refine SeqAt.in_tupleAt (eqU x) pl (fun w hw => mem_eqAt rx fx r fs w (by simpa using hw)) ⟨.bl _, H, I, rfl, ?_⟩
    rw [show its.toArray.any (eqU x) = its.any (eqU x) by simp, any_eqU r fs]
    exact q
theorem call_len_seq : CallR X (.builtin "len") (fun xs H Q => ∃ p ys, xs = [.ref p] ∧ (SqL X.K H p ys ∨ SqT X.K H p ys) ∧ Q (.int ys.length) H) := by
  intro pins s σ H xs us Q I r h
  obtain ⟨p, ys, rfl, hq, q⟩ := h
  obtain ⟨u, rfl, rx⟩ := vals1 r
  cases rx
  have hn := line63
  rcases hq with hq | hq
  · obtain ⟨its, r', pl, hz⟩ := I.list hq
    have hlen := r'.length
    exact Calls.call_len_list pl.isList (by simp only [List.size_toArray] <;> omega) ⟨.int ys.length, H, I.tok _, ⟨s.toks + 1, by rw [List.size_toArray, hlen]⟩, q⟩
  · obtain ⟨its, r', pl, hz⟩ := I.tuple hq
    have hlen := r'.length
    exact len_tuple pl (by simp only [List.size_toArray] <;> omega) ⟨.int ys.length, H, I.tok _, ⟨s.toks + 1, by rw [List.size_toArray, hlen]⟩, q⟩
def tyV (K : PySem.W.Frag) (T : String) (x : V) (H : Hp) : Prop := match x with
  | .str _ => T = "str"
  | .int _ => T = "int"
  | .ref p => (T = "list" ∧ ∃ xs, SqL K H p xs) ∨ (T = "tuple" ∧ ∃ o, K.lookup p = some o ∧ o.cls = .type "tuple" ∧ o.dict = none) ∨
      (T = "dict" ∧ ((∃ kvs, H p = some (.dK kvs)) ∨ ∃ kvs, H p = some (.dT kvs))) ∨ (T = "set" ∧ ∃ S n, H p = some (.set S n))
  | _ => False
theorem tyV_is {pins : List (Addr × Obj)} {σ : St} {H : Hp} {s : Shared} {T : String} {x : V} {v : Value} (I : Inv X pins σ H s) (r : RelV x v) (ty : tyV X.K T x H) :
    s.TypeIs v T ∧ ∀ a, v = .ref a → ∃ ob, s.heap.get? a = some ob ∧ ob.dict = none := by
  cases x with
  | str z =>
    obtain ⟨t, rfl⟩ := r
    cases (show T = "str" from ty)
    exact ⟨typeIs_str s z t, fun _ e => nomatch e⟩
  | int i =>
    obtain ⟨t, rfl⟩ := r
    cases (show T = "int" from ty)
    exact ⟨typeIs_int s i t, fun _ e => nomatch e⟩
  | ref p =>
    cases r
    rcases ty with ⟨rfl, xs, hq⟩ | ⟨rfl, o, hk, hc, hd⟩ | ⟨rfl, hk⟩ | ⟨rfl, S, n, hk⟩
    · obtain ⟨its, _, pl, _⟩ := I.list hq
      refine ⟨pl.isList.typeIs, fun a e => ?_⟩
      cases e
      obtain ⟨o, n, e, c, hd, _⟩ := pl
      exact ⟨o, e, hd⟩
    · refine ⟨⟨o, I.kIn p o hk, hc⟩, fun a e => ?_⟩
      cases e
      exact ⟨o, I.kIn _ o hk, hd⟩
    · have z : ∃ o, s.heap.get? p = some o ∧ o.ExactDict := by
        rcases hk with ⟨kvs, hk⟩ | ⟨kvs, hk⟩
        · obtain ⟨_, _, _, _, o, _, _, e, ex, _⟩ := I.hok p _ hk
          exact ⟨o, e, ex⟩
        · obtain ⟨_, _, _, _, o, _, _, e, ex, _⟩ := I.hok p _ hk
          exact ⟨o, e, ex⟩
      obtain ⟨o, e, ex⟩ := z
      refine ⟨⟨o, e, ex.1⟩, fun a e2 => ?_⟩
      cases e2
      exact ⟨o, e, ex.2.1⟩
    · obtain ⟨o, _, _, _, e, ex, _⟩ := I.hok p _ hk
      refine ⟨⟨o, e, ex.1⟩, fun a e2 => ?_⟩
      cases e2
      exact ⟨o, e, ex.2.1⟩
  | _ => exact False.elim ty
def tBM0 (K : PySem.W.Frag) (T : String) (r : V → List V → Hp → VK → Prop) (to : TE) : TE := fun σ H Q => to σ H fun x H1 => tyV K T x H1 ∧ r x [] H1 Q
def tBM (K : PySem.W.Frag) (T : String) (r : V → List V → Hp → VK → Prop) (to : TE) (t : TA) : TE := fun σ H Q => to σ H fun x H1 => tyV K T x H1 ∧ t σ H1 fun xs H2 => r x xs H2 Q
variable {o e : Expr} {es : List Expr} {to : TE} {t : TA} {name : Str} {apos cpos : Pos} {T id : String} {r : V → List V → Hp → VK → Prop}
theorem pe_bm0 (pa : PlainAttrs T) (slot : Slot T name id) (hty : typeOf (.builtin id) = pure (.type "method_descriptor")) (hm : MtR X id r) (ho : PE X o to)
    (hbase : attributeBase o name X.env (eval o X.env) = eval o X.env := by rfl) (hline : (apos.endLine == cpos.line) = true := by rfl) : PE X (.Call (.Attribute o name apos) [] [] cpos) (tBM0 X.K T r to) := by
  intro pins s σ H Q I h
  refine wpAny_Call_method0_late hbase hline (thn (ho pins s σ H _ I h) fun v s1 ⟨x, H1, I1, r1, ty, q1⟩ => ?_)
  obtain ⟨h1, h2⟩ := tyV_is I1 r1 ty
  exact ⟨T, id, pa, slot, hty, h1, h2, Calls.callWith_builtin rfl (PySem.evalArgs_none (hm pins s1 σ H1 x [] v [] Q I1 r1 .nil q1))⟩
theorem pe_bm (pa : PlainAttrs T) (slot : Slot T name id) (hty : typeOf (.builtin id) = pure (.type "method_descriptor")) (hm : MtR X id r) (ho : PE X o to) (ha : PA X (e :: es) t)
    (hbase : attributeBase o name X.env (eval o X.env) = eval o X.env := by rfl)
    (hfew : ((backTo cpos (starEach (e :: es) X.env)).all (fun x => !x.1) && (backToKw cpos (keywordEach [] X.env)).all (fun x => x.1.isSome)
      && decide ((e :: es).length + ([] : List Keyword).length + (if ([] : List Keyword).isEmpty then 0 else 1) < 30)) = true := by rfl)
    (hline : (apos.endLine == cpos.line) = true := by rfl) (hs : starEach (e :: es) X.env = (false, eval e X.env) :: starEach es X.env := by rfl) (hplain : (backTo cpos (starEach es X.env)).any (·.1) = false := by rfl) :
    PE X (.Call (.Attribute o name apos) (e :: es) [] cpos) (tBM X.K T r to t) := by
  intro pins s σ H Q I h
  refine wpAny_Call_method_late hbase hfew hline rfl (thn (ho pins s σ H _ I h) fun v s1 ⟨x, H1, I1, r1, ty, q1⟩ => ?_)
  obtain ⟨h1, h2⟩ := tyV_is I1 r1 ty
  refine ⟨T, id, pa, slot, hty, h1, h2, ?_⟩
  have hA := ha cpos pins s1 σ H1 _ I1 q1
  rw [hs] at hA ⊢
  refine Calls.callWith_builtin (by show (false || (backTo cpos (starEach es X.env)).any (·.1)) = false; rw [hplain] <;> rfl) (Calls.evalArgs_plain ?_)
  exact thn hA fun us s2 ⟨vs, H2, I2, r2, q2⟩ => hm pins s2 σ H2 x vs v us Q I2 r1 r2 q2
end
end L2
namespace L2
open PySem PySem.Spec PyProof.Rows
def MtM (X : Cx) (id : String) (r : V → List V → Hp → VK → Prop) : Prop :=
  ∀ (pins : List (Addr × Obj)) (s : Shared) (σ : St) (H : Hp) (x : V) (xs : List V) (v : Value) (us : List Value) (Q : VK), Inv X pins σ H s → RelV x v → Vals xs us → r x xs H Q →
    wpAny (model X.prog X.w) X.A (call (.builtin id) (v :: us)) (EP X pins σ Q) X.xe s
theorem Vals.one : ∀ {x : V} {us : List Value}, Vals [x] us → ∃ u, us = [u] ∧ RelV x u
  | _, _, .cons r .nil => ⟨_, rfl, r⟩
theorem Vals.zero : ∀ {us : List Value}, Vals [] us → us = []
  | _, .nil => rfl
theorem Vals.dropLast {xs : List V} {us : List Value} (h : Vals xs us) : Vals xs.dropLast us.dropLast := by
  induction h with
  | nil => exact .nil
  | cons r t ih =>
    cases t with
    | nil => exact .nil
    | cons q t' => exact .cons r ih
theorem Vals.eraseIdx : ∀ {xs : List V} {us : List Value} (i : Nat), Vals xs us → Vals (xs.eraseIdx i) (us.eraseIdx i)
  | _, _, _, .nil => .nil
  | _, _, 0, .cons _ t => t
  | _, _, i + 1, .cons r t => .cons r (Vals.eraseIdx i t)
theorem Vals.reverse {xs : List V} {us : List Value} (h : Vals xs us) : Vals xs.reverse us.reverse := by
  induction h with
  | nil => exact .nil
  | cons r t ih => rw [List.reverse_cons, List.reverse_cons]; exact Vals.append ih (.cons r .nil)
theorem erase_last {α : Type} (l : List α) : l.eraseIdx (l.length - 1) = l.dropLast := by
  induction l with
  | nil => rfl
  | cons a r ih =>
    cases r with
    | nil => rfl
    | cons b r =>
      have e : (a :: b :: r).length - 1 = ((b :: r).length - 1) + 1 := by
        have h1 : (a :: b :: r).length = r.length + 2 := rfl
        have h2 : (b :: r).length = r.length + 1 := rfl
        omega
      rw [e, List.eraseIdx_cons_succ, ih]
      all_goals rfl
theorem len_erase {α : Type} : ∀ (l : List α) (i : Nat), (l.eraseIdx i).length ≤ l.length
  | [], _ => Nat.le_refl _
  | _ :: _, 0 => Nat.le_succ _
  | _ :: r, i + 1 => Nat.succ_le_succ (len_erase r i)
section
variable {X : Cx} {pins : List (Addr × Obj)} {σ : St} {H : Hp} {s : Shared} {l b : Addr} {xs ys zs : List V}
theorem Inv.lset {its its' : List Value} {n : Nat} {f : Array Value → Array Value} {t' : Nat} (I : Inv X pins σ H s) (hH : H l = some (.lst xs))
    (e : s.heap.get? l = some { cls := .type "list", data := .seq its.toArray n }) (hf : f its.toArray = its'.toArray) (hv : Vals ys its') (hz : ys.length ≤ sizeLine) :
    Inv X pins σ (upd H l (.lst ys)) { s with heap := s.heap.update l (Obj.mapSeq f), toks := t' } := by
  have q := PySem.IsL.update e f
  rw [hf] at q
  refine I.write (x := l) (e := l) (by rw [hH]; exact trivial) (.inl rfl) (fun b' u hb hu => (Heap.get?_update_other s.heap (Obj.mapSeq f) (Ne.symm hb)).trans hu) ⟨_, q⟩ ?_
  exact ⟨hz, its', _, hv, q⟩
theorem Inv.lnew {its : List Value} {t' : Nat} (I : Inv X pins σ H s) (hv : Vals ys its) (hz : ys.length ≤ sizeLine) :
    Inv X pins σ (upd H s.heap.objs.size (.lst ys)) { s with heap := s.heap.push { cls := .type "list", data := .seq its.toArray }, toks := t' } :=
  I.laid (fun _ _ q => Heap.get?_push_of_some _ q) (Nat.le_refl _) ⟨hz, its, 0, hv, Heap.get?_push_size _ rfl⟩
theorem Inv.fresh (I : Inv X pins σ H s) : H s.heap.objs.size = none := I.hok.fresh (Nat.le_refl _)
theorem Inv.lstM (I : Inv X pins σ H s) (hH : H l = some (.lst xs)) : xs.length ≤ sizeLine ∧ ∃ (its : List Value) (n : Nat), Vals xs its ∧ xs.length = its.length ∧ s.heap.get? l = some { cls := .type "list", data := .seq its.toArray n } := by
  obtain ⟨z, its, n, r, e⟩ := I.hok l _ hH
  exact ⟨z, its, n, r, r.length, e⟩
theorem notLongL {n : Nat} (h : n ≤ sizeLine) : Builtin.List.listTooLong n = false := by
  unfold Builtin.List.listTooLong
  exact decide_eq_false (by omega)
end
section
variable {X : Cx}
def rAppend : V → List V → Hp → VK → Prop := fun x vs H Q => ∃ l xs y, x = .ref l ∧ vs = [y] ∧ H l = some (.lst xs) ∧ xs.length < sizeLine ∧ Q .non (upd H l (.lst (xs ++ [y])))
theorem mt_append : MtM X "list.append" rAppend := by
  intro pins s σ H x vs v us Q I rx rv h
  obtain ⟨l, xs, y, rfl, rfl, hH, hz, q⟩ := h
  cases rx
  obtain ⟨u, rfl, ru⟩ := rv.one
  obtain ⟨z, its, n, r, hl, e⟩ := I.lstM hH
  refine call_meets F.slot_list_append ⟨_, e, rfl⟩ F.entry_list_append (F.args_list_append_2 _ _) (PySem.list_append l its.toArray n u (by rw [List.size_toArray]; omega)) ⟨e, ?_⟩
  refine ⟨.non, _, I.lset (its' := its ++ [u]) hH e (by simp) (r.append (.cons ru .nil)) ?_, rfl, q⟩
  rw [List.length_append, List.length_singleton]
  omega
def rExtend : V → List V → Hp → VK → Prop := fun x vs H Q => ∃ l b xs zs, x = .ref l ∧ vs = [.ref b] ∧ H l = some (.lst xs) ∧ H b = some (.lst zs) ∧ xs.length + zs.length ≤ sizeLine ∧ Q .non (upd H l (.lst (xs ++ zs)))
theorem mt_extend : MtM X "list.extend" rExtend := by
  intro pins s σ H x vs v us Q I rx rv h
  obtain ⟨l, b, xs, zs, rfl, rfl, hH, hB, hz, q⟩ := h
  cases rx
  obtain ⟨u, rfl, ru⟩ := rv.one
  cases ru
  obtain ⟨z, its, n, r, hl, e⟩ := I.lstM hH
  obtain ⟨z2, its2, n2, r2, hl2, e2⟩ := I.lstM hB
  have hsz : its.toArray.size + its2.toArray.size ≤ sizeLine := by rw [List.size_toArray, List.size_toArray]; omega
  have hlong : ¬ (!its.toArray.isEmpty && Builtin.List.listTooLong (its.toArray.size + its2.toArray.size)) = true := by
    rw [notLongL hsz, Bool.and_false]
    exact Bool.false_ne_true
  refine call_meets F.slot_list_extend ⟨_, e, rfl⟩ F.entry_list_extend (F.args_list_extend_2 _ _)
    (AutoSeq1.list_extend_list_list_0 l its.toArray n b its2.toArray n2 hlong (by rw [List.size_toArray]; omega) (by omega)) ⟨e, e2, ?_⟩
  refine ⟨.non, _, I.lset (its' := its ++ its2) hH e (by simp) (r.append r2) ?_, rfl, q⟩
  rw [List.length_append]
  omega
def rPop : V → List V → Hp → VK → Prop := fun x vs H Q => ∃ l xs y, x = .ref l ∧ vs = [] ∧ H l = some (.lst xs) ∧ xs[xs.length - 1]? = some y ∧ Q y (upd H l (.lst xs.dropLast))
theorem mt_pop : MtM X "list.pop" rPop := by
  intro pins s σ H x vs v us Q I rx rv h
  obtain ⟨l, xs, y, rfl, rfl, hH, hy, q⟩ := h
  cases rx
  have hus := rv.zero
  subst hus
  obtain ⟨z, its, n, r, hl, e⟩ := I.lstM hH
  obtain ⟨u, hu, ru⟩ := r.get hy
  have hy' : its.toArray[its.toArray.size - 1]? = some u := by
    show its.toArray[its.length - 1]? = some u
    rw [← Array.getElem?_toList, ← hl]
    exact hu
  refine call_meets F.slot_list_pop ⟨_, e, rfl⟩ F.entry_list_pop (F.args_list_pop_1 _) (MeetsSeq.list_pop_last l its.toArray n u hy' (by rw [List.size_toArray]; omega)) ⟨e, ?_⟩
  refine ⟨y, _, I.lset (its' := its.dropLast) hH e ?_ r.dropLast ?_, ru, q⟩
  · show its.toArray.eraseIdxIfInBounds (its.toArray.size - 1) = its.dropLast.toArray
    rw [List.size_toArray, List.eraseIdxIfInBounds_toArray, erase_last]
  · rw [List.length_dropLast]
    omega
def rCat : R2 := fun x y H Q => ∃ l b xs zs, x = .ref l ∧ y = .ref b ∧ H l = some (.lst xs) ∧ H b = some (.lst zs) ∧ xs.length + zs.length ≤ sizeLine ∧ ∀ p, H p = none → Q (.ref p) (upd H p (.lst (xs ++ zs)))
theorem op_cat : OpR X (binaryOp .Add) rCat := by
  intro pins s σ H x y v u Q I rx ry h
  obtain ⟨l, b, xs, zs, rfl, rfl, hH, hB, hz, q⟩ := h
  cases rx
  cases ry
  obtain ⟨z, its, n, r, hl, e⟩ := I.lstM hH
  obtain ⟨z2, its2, n2, r2, hl2, e2⟩ := I.lstM hB
  refine PySem.P.add_list e e2 ?_ (by rw [List.size_toArray, List.size_toArray]; omega)
  have ea : its.toArray ++ its2.toArray = (its ++ its2).toArray := by simp
  rw [ea]
  exact ⟨.ref _, _, I.lnew (t' := s.toks) (r.append r2) (by rw [List.length_append]; omega), rfl, q _ I.fresh⟩
end
section
variable {prog : Program} {w : World} {A : Around} {E : Value → Shared → Prop} {s : Shared}
set_option maxRecDepth 100000 in
end
section
variable {X : Cx}
end
end L2
namespace L2
open PySem PySem.Spec PyProof.Rows
theorem Vals.ints : ∀ {ns : List Int} {us : List Value}, Vals (ns.map V.int) us → IntsAre us ns
  | [], us, h => by
    rw [List.map_nil] at h
    cases h
    exact IntsAre.nil
  | n :: ns, us, h => by
    rw [List.map_cons] at h
    cases h with
    | cons r t =>
      obtain ⟨k, rfl⟩ := r
      exact IntsAre.cons n k (Vals.ints t)
theorem vals_of_ints : ∀ {us : List Value} {ns : List Int}, IntsAre us ns → Vals (ns.map V.int) us
  | _, _, .nil => by rw [List.map_nil]; exact Paired.nil
  | _, _, .cons n t h => by rw [List.map_cons]; exact Paired.cons (show RelV (V.int n) (Value.int n t) from ⟨t, rfl⟩) (vals_of_ints h)
theorem Vals.ref1 {a : Addr} {us : List Value} (r : Vals [V.ref a] us) : us = [Value.ref a] := by
  cases r with
  | cons r t =>
    cases t
    cases r
    rfl
section
variable {prog : Program} {w : World} {A : Around} {E : Value → Shared → Prop} {s : Shared} {l : Addr} {its : List Value} {ns : List Int} {Q : Value → Shared → Prop}
theorem max_raw (hh : A.handled = none) (hl : s.heap.IsList l its.toArray) (hi : IntsAre its ns) (hne : 0 < ns.length)
    (h : ∀ h' tk M t', (∀ b o, s.heap.get? b = some o → h'.get? b = some o) → M ∈ ns → (∀ a, a ∈ ns → a ≤ M) → Q (.int M t') { s with heap := h', toks := tk }) : wpAny (model prog w) A (call (.builtin "max") [.ref l]) Q E s := by
  obtain ⟨xs, e⟩ := hi.allInts.items
  have hn : numsOf (intItems xs).toList = ns := by rw [← e]; exact hi.numsOf
  rw [nums_intItems] at hn
  subst hn
  rw [e] at hl
  have hsz : 0 < xs.size := by simpa using hne
  refine PySem.max_intList hh hl hsz fun v h' tk hv hk => ?_
  obtain ⟨t, rfl⟩ := intItems_at hv
  obtain ⟨h1, h2⟩ := argBest_gt (numAt xs) (xs.size - 1)
  refine h h' tk _ t hk ?_ fun a ha => ?_
  · rw [numAt_eq]; exact PySem.getD_mem (by rw [List.length_map, Array.length_toList]; omega)
  · obtain ⟨j, hj, rfl⟩ := mem_getD ha
    rw [List.length_map, Array.length_toList] at hj
    rw [← numAt_eq]; exact h2 j (by omega)
theorem min_raw (hh : A.handled = none) (hl : s.heap.IsList l its.toArray) (hi : IntsAre its ns) (hne : 0 < ns.length)
    (h : ∀ h' tk M t', (∀ b o, s.heap.get? b = some o → h'.get? b = some o) → M ∈ ns → (∀ a, a ∈ ns → M ≤ a) → Q (.int M t') { s with heap := h', toks := tk }) : wpAny (model prog w) A (call (.builtin "min") [.ref l]) Q E s := by
  obtain ⟨xs, e⟩ := hi.allInts.items
  have hn : numsOf (intItems xs).toList = ns := by rw [← e]; exact hi.numsOf
  rw [nums_intItems] at hn
  subst hn
  rw [e] at hl
  have hsz : 0 < xs.size := by simpa using hne
  refine PySem.min_intList hh hl hsz fun v h' tk hv hk => ?_
  obtain ⟨t, rfl⟩ := intItems_at hv
  obtain ⟨h1, h2⟩ := argBest_lt (numAt xs) (xs.size - 1)
  refine h h' tk _ t hk ?_ fun a ha => ?_
  · rw [numAt_eq]; exact PySem.getD_mem (by rw [List.length_map, Array.length_toList]; omega)
  · obtain ⟨j, hj, rfl⟩ := mem_getD ha
    rw [List.length_map, Array.length_toList] at hj
    rw [← numAt_eq]; exact h2 j (by omega)
end
section
variable {X : Cx}
def rMin (K : PySem.W.Frag) : List V → Hp → VK → Prop := fun vs H Q => ∃ (a : Addr) (ns : List Int), vs = [V.ref a] ∧ SqL K H a (ns.map V.int) ∧ 0 < ns.length ∧ ∀ m, m ∈ ns → (∀ y, y ∈ ns → m ≤ y) → Q (.int m) H
theorem cr_min (hc : X.calm = true) : CallR X (.builtin "min") (rMin X.K) := by
  intro pins s σ H vs us Q I r h
  obtain ⟨a, ns, rfl, hs, hne, q⟩ := h
  obtain ⟨its, rv, hl, _⟩ := I.list hs
  rw [Vals.ref1 r]
  exact min_raw (I.ok.hd hc) hl.isList rv.ints hne fun h' tk m t' hk h1 h2 => ⟨.int _, H, I.kept hk, ⟨_, rfl⟩, q m h1 h2⟩
end
section
variable {X : Cx}
def rIndex (K : PySem.W.Frag) : V → List V → Hp → VK → Prop := fun x xs H Q => ∃ (a : Addr) (ys : List V) (y : V) (j : Nat) (z : V), x = V.ref a ∧ xs = [y] ∧ SqL K H a ys ∧ flatV y = true ∧ ys.all flatV = true ∧ ys[j]? = some z ∧ eqV z y = true ∧
  (∀ (m : Nat) (z' : V), m < j → ys[m]? = some z' → eqV z' y = false) ∧ Q (.int (j : Nat)) H
theorem flat_at {ys : List V} (f : ys.all flatV = true) {j : Nat} {z : V} (h : ys[j]? = some z) : flatV z = true := List.all_eq_true.mp f z (List.mem_of_getElem? h)
theorem mt_index : MtR X "list.index" (rIndex X.K) := by
  intro pins s σ H x xs v us Q I rx rxs h
  obtain ⟨a, ys, y, j, z, rfl, rfl, hs, fy, fys, hz, hzj, hno, q⟩ := h
  cases rx
  cases rxs with
  | cons ry rt =>
    rename_i uy ut
    cases rt
    obtain ⟨its, rv, ⟨⟨cls, dd, data, sl⟩, n, ho, hc, hdn, hd⟩, hlen⟩ := I.list hs
    simp only at hc hd
    subst hc hd
    obtain ⟨u, hu, ru⟩ := rv.get hz
    obtain ⟨hjl, hje⟩ := List.getElem?_eq_some_iff.mp hu
    have hvl := rv.length
    have hj : j < its.toArray.size := by simpa using hjl
    have hsl := sizeLine_eq
    refine call_meets PySem.F.slot_list_index ⟨_, ho, rfl⟩ PySem.F.entry_list_index (PySem.F.args_list_index_2 _ _)
      (SeqAt.list_indexAt a its.toArray n dd sl uy (eqU y) j hj (by omega) ?_ ?_) ⟨ho, fun u' hu' => mem_eqAt ry fy rv fys u' (by simpa using hu'), ?_⟩
    · have e1 : its.toArray[j] = u := by simpa using hje
      rw [e1, eqU_of ru (flat_at fys hz)]
      exact hzj
    · intro m hm hmj
      have hml : m < its.length := by simpa using hm
      have hmy : m < ys.length := by omega
      have hy' : ys[m]? = some ys[m] := List.getElem?_eq_getElem hmy
      obtain ⟨u2, hu2, ru2⟩ := rv.get hy'
      obtain ⟨_, hme⟩ := List.getElem?_eq_some_iff.mp hu2
      have e1 : its.toArray[m] = u2 := by simpa using hme
      rw [e1, eqU_of ru2 (flat_at fys hy')]
      exact hno m _ hmj hy'
    · exact ⟨.int (j : Nat), H, I.tok _, ⟨_, rfl⟩, q⟩
end
section
variable {X : Cx}
end
section
variable {X : Cx}
end
mutual
inductive Dp (K : PySem.W.Frag) (H : Hp) : V → PyData → Prop
  | non : Dp K H .non .none
  | bl (b : Bool) : Dp K H (.bl b) (.bool b)
  | int (i : Int) : Dp K H (.int i) (.int i)
  | str (x : Str) : Dp K H (.str x) (.str x)
  | lst {a : Addr} {xs : List V} {ds : List PyData} : SqL K H a xs → DpAll K H xs ds → Dp K H (.ref a) (.list ds)
  | tup {a : Addr} {xs : List V} {ds : List PyData} : SqT K H a xs → DpAll K H xs ds → Dp K H (.ref a) (.tuple ds)
inductive DpAll (K : PySem.W.Frag) (H : Hp) : List V → List PyData → Prop
  | nil : DpAll K H [] []
  | cons {v : V} {vs : List V} {d : PyData} {ds : List PyData} : Dp K H v d → DpAll K H vs ds → DpAll K H (v :: vs) (d :: ds)
end
section
variable {X : Cx} {pins : List (Addr × Obj)} {σ : St} {H : Hp} {s : Shared}
end
section
variable {X : Cx}
end
end L2
namespace L2
open PySem PySem.Spec PyProof.Rows
abbrev CellAt (h : Heap) (c : Addr) (v : Option Value) : Prop := h.IsCell c v
def relS (scope sc : Scope) : Scope :=
  { scope with names := scope.names.map fun (n, k) => if (k == .free && sc.kind == .function && sc.names.lookup n == some .cell) then (n, .cell) else (n, k) }
def cloFrom (cells : List (Str × Addr)) : List (Str × NameKind) → List (Str × Addr) → List (Str × Addr)
  | [], acc => acc
  | (n, k) :: r, acc => if k == .free then cloFrom cells r ((n, (cells.lookup n).getD 0) :: acc) else cloFrom cells r acc
theorem closure_loop (env : Env) (f : Str × NameKind → List (Str × Addr) → Sem (ForInStep (List (Str × Addr))))
    (hf : ∀ n k c, f (n, k) c = if k == .free then (do let a ← cellOf env n; pure (.yield ((n, a) :: c))) else pure (.yield c)) :
    ∀ (names : List (Str × NameKind)) (acc : List (Str × Addr)), (∀ y ∈ names, y.2 = .free → ∃ c, env.cells.lookup y.1 = some c) → forIn names acc f = pure (cloFrom env.cells names acc)
  | [], acc, _ => by rw [List.forIn_nil]; rfl
  | (n, k) :: r, acc, h => by
    rw [List.forIn_cons, hf]
    have ih := fun acc => closure_loop env f hf r acc fun y hy => h y (List.mem_cons_of_mem _ hy)
    unfold cloFrom
    by_cases hk : (k == NameKind.free) = true
    · rw [if_pos hk, if_pos hk]
      obtain ⟨c, hc⟩ := h (n, k) List.mem_cons_self (by simpa using hk)
      have e : cellOf env n = pure c := by unfold cellOf; rw [hc]
      rw [e]
      have e2 : (env.cells.lookup n).getD 0 = c := by rw [hc]; rfl
      rw [e2]
      exact ih _
    · rw [if_neg hk, if_neg hk]
      exact ih _
theorem closure_ok {scope : Scope} {env : Env} (h : ∀ y ∈ scope.names, y.2 = .free → ∃ c, env.cells.lookup y.1 = some c) : closureFor scope env = pure (cloFrom env.cells scope.names []) := by
  simp only [closureFor]
  rw [closure_loop env _ (fun n k c => rfl) scope.names [] h]
  rfl
theorem mem_lookup {α : Type} : ∀ {l : List (Str × α)} {n : Str} {c : α}, (n, c) ∈ l → ∃ c', l.lookup n = some c'
  | (k, v) :: r, n, c, h => by
    rw [List.lookup_cons]
    cases hb : n == k with
    | true => exact ⟨_, rfl⟩
    | false =>
      rcases List.mem_cons.mp h with e | h
      · cases e; simp at hb
      · exact mem_lookup h
theorem cloFrom_mem {cells : List (Str × Addr)} : ∀ {names : List (Str × NameKind)} {acc : List (Str × Addr)} {n : Str} {c : Addr}, (n, c) ∈ cloFrom cells names acc → (n, c) ∈ acc ∨ ((n, .free) ∈ names ∧ c = (cells.lookup n).getD 0)
  | [], _, _, _, h => .inl h
  | (m, k) :: r, acc, n, c, h => by
    unfold cloFrom at h
    split at h
    · rename_i hk
      have hk : k = .free := by simpa using hk
      rcases cloFrom_mem h with h | ⟨h1, h2⟩
      · rcases List.mem_cons.mp h with e | h
        · cases e; exact .inr ⟨hk ▸ List.mem_cons_self, rfl⟩
        · exact .inl h
      · exact .inr ⟨List.mem_cons_of_mem _ h1, h2⟩
    · rcases cloFrom_mem h with h | ⟨h1, h2⟩
      · exact .inl h
      · exact .inr ⟨List.mem_cons_of_mem _ h1, h2⟩
theorem cloFrom_acc {cells : List (Str × Addr)} : ∀ {names : List (Str × NameKind)} {acc : List (Str × Addr)} {p : Str × Addr}, p ∈ acc → p ∈ cloFrom cells names acc
  | [], _, _, h => h
  | (m, k) :: r, acc, p, h => by
    unfold cloFrom
    split
    · exact cloFrom_acc (List.mem_cons_of_mem _ h)
    · exact cloFrom_acc h
theorem cloFrom_has {cells : List (Str × Addr)} : ∀ {names : List (Str × NameKind)} {acc : List (Str × Addr)} {n : Str}, (n, .free) ∈ names → (n, (cells.lookup n).getD 0) ∈ cloFrom cells names acc
  | (m, k) :: r, acc, n, h => by
    unfold cloFrom
    rcases List.mem_cons.mp h with e | h
    · cases e
      exact cloFrom_acc List.mem_cons_self
    · split
      · exact cloFrom_has h
      · exact cloFrom_has h
theorem cells_mem : ∀ {names : List (Str × NameKind)} {h : Heap} {acc : List (Str × Addr)} {x : Str} {c : Addr}, (x, c) ∈ cellsFrom h.objs.size names acc →
    (x, c) ∈ acc ∨ ((x, .cell) ∈ names ∧ h.objs.size ≤ c ∧ CellAt (pushCells h names) c none)
  | [], _, _, _, _, h => .inl h
  | (n, k) :: r, h, acc, x, c, hm => by
    unfold cellsFrom at hm
    unfold pushCells
    split at hm
    · rename_i hk
      rw [if_pos hk]
      have hk : k = .cell := by simpa using hk
      rw [← Heap.size_push h { cls := .type "cell", data := .cell none }] at hm
      rcases cells_mem hm with hm | ⟨h1, h2, h3⟩
      · rcases List.mem_cons.mp hm with e | hm
        · cases e
          exact .inr ⟨hk ▸ List.mem_cons_self, Nat.le_refl _, _, pushCells_keeps r _ _ _ (Heap.get?_push_size _ rfl), rfl⟩
        · exact .inl hm
      · rw [Heap.size_push] at h2
        exact .inr ⟨List.mem_cons_of_mem _ h1, Nat.le_of_succ_le h2, h3⟩
    · rename_i hk
      rw [if_neg hk]
      rcases cells_mem hm with hm | ⟨h1, h2, h3⟩
      · exact .inl hm
      · exact .inr ⟨List.mem_cons_of_mem _ h1, h2, h3⟩
theorem cells_acc : ∀ {names : List (Str × NameKind)} {n : Nat} {acc : List (Str × Addr)} {p : Str × Addr}, p ∈ acc → p ∈ cellsFrom n names acc
  | [], _, _, _, h => h
  | (m, k) :: r, n, acc, p, h => by
    unfold cellsFrom
    split
    · exact cells_acc (List.mem_cons_of_mem _ h)
    · exact cells_acc h
theorem cells_has : ∀ {names : List (Str × NameKind)} {n : Nat} {acc : List (Str × Addr)} {x : Str}, (x, .cell) ∈ names → ∃ c, (x, c) ∈ cellsFrom n names acc
  | (m, k) :: r, n, acc, x, h => by
    unfold cellsFrom
    rcases List.mem_cons.mp h with e | h
    · cases e
      exact ⟨n, cells_acc List.mem_cons_self⟩
    · split
      · exact cells_has h
      · exact cells_has h
theorem cells_inj : ∀ {names : List (Str × NameKind)} {h : Heap} {acc : List (Str × Addr)} {x y : Str} {c : Addr}, (∀ p ∈ acc, p.2 < h.objs.size) → (∀ x y c, (x, c) ∈ acc → (y, c) ∈ acc → x = y) →
    (x, c) ∈ cellsFrom h.objs.size names acc → (y, c) ∈ cellsFrom h.objs.size names acc → x = y
  | [], _, _, _, _, _, _, hi, h1, h2 => hi _ _ _ h1 h2
  | (n, k) :: r, h, acc, x, y, c, hl, hi, h1, h2 => by
    unfold cellsFrom at h1 h2
    split at h1
    · rename_i hk
      rw [if_pos hk] at h2
      rw [← Heap.size_push h { cls := .type "cell", data := .cell none }] at h1 h2
      refine cells_inj (h := h.push _) (fun p hp => ?_) (fun x y c a b => ?_) h1 h2
      · rw [Heap.size_push]
        rcases List.mem_cons.mp hp with rfl | hp
        · exact Nat.lt_succ_self _
        · exact Nat.lt_succ_of_lt (hl p hp)
      · rcases List.mem_cons.mp a with e | a <;> rcases List.mem_cons.mp b with e' | b
        · cases e; cases e'; rfl
        · cases e; exact absurd (hl _ b) (Nat.lt_irrefl _)
        · cases e'; exact absurd (hl _ a) (Nat.lt_irrefl _)
        · exact hi _ _ _ a b
    · rename_i hk
      rw [if_neg hk] at h2
      exact cells_inj hl hi h1 h2
theorem newEnv_comp {M : Model} {A : Around} {E : Value → Shared → Prop} {s : Shared} {scope : Scope} {globals : Addr} {closure : List (Str × Addr)} {qual : Str} {func : Option Addr} {code : Value} {around : Env} {builtins : Addr} {Q : Env → Shared → Prop}
    (h : Q (newEnv scope s.heap.objs.size globals (cellsFrom (s.heap.objs.size + 1) scope.names closure) qual func code (some around) builtins)
      { s with heap := pushCells (s.heap.push { cls := .type "dict", data := .dict #[] }) scope.names }) :
    wpAny M A (newFunctionEnv scope globals closure [] qual func code (some around) builtins) Q E s := by
  simp only [newFunctionEnv, Option.isSome_some, if_true]
  refine wpAny_bind (wpAny_alloc ?_)
  refine wpAny_bind (wpAny_layCells _ (fun n k c => rfl) scope.names closure _ _ ?_)
  rw [show ({ s with heap := s.heap.push { cls := .type "dict", data := .dict #[] } } : Shared).heap.objs.size = s.heap.objs.size + 1 from Heap.size_push ..]
  rw [List.forIn_nil]
  exact wpAny_bind (wpAny_pure (wpAny_pure h))
theorem lookup_relS {sc : Scope} : ∀ {names : List (Str × NameKind)} {x : Str} {k : NameKind},
    (names.map fun (n, k) => if (k == NameKind.free && sc.kind == .function && sc.names.lookup n == some .cell) then (n, NameKind.cell) else (n, k)).lookup x = some k →
    ∃ k', names.lookup x = some k' ∧ (k = k' ∨ (k' = .free ∧ k = .cell))
  | [], _, _, h => by simp at h
  | (n, k₀) :: r, x, k, h => by
    have ih := @lookup_relS sc r x k
    have h' : List.lookup x ((if (k₀ == NameKind.free && sc.kind == .function && sc.names.lookup n == some .cell) = true then (n, NameKind.cell) else (n, k₀)) :: (r.map _)) = some k := h
    cases hx : x == n with
    | true =>
      simp only [List.lookup_cons, hx]
      by_cases hc : (k₀ == NameKind.free && sc.kind == .function && sc.names.lookup n == some .cell) = true
      · rw [if_pos hc] at h'
        simp only [List.lookup_cons, hx] at h'
        cases h'
        simp only [Bool.and_eq_true, beq_iff_eq] at hc
        exact ⟨k₀, rfl, .inr ⟨hc.1.1, rfl⟩⟩
      · rw [if_neg hc] at h'
        simp only [List.lookup_cons, hx] at h'
        cases h'
        exact ⟨_, rfl, .inl rfl⟩
    | false =>
      simp only [List.lookup_cons, hx]
      by_cases hc : (k₀ == NameKind.free && sc.kind == .function && sc.names.lookup n == some .cell) = true
      · rw [if_pos hc] at h'
        simp only [List.lookup_cons, hx] at h'
        exact ih h'
      · rw [if_neg hc] at h'
        simp only [List.lookup_cons, hx] at h'
        exact ih h'
structure BlkOk (N : List Str) (sc scope : Scope) (own : List (Str × Nat)) : Prop where
  kind : scope.kind = .function
  uniq : ∀ y ∈ scope.names, scope.names.lookup y.1 = some y.2
  ix : ∀ p ∈ own, N[p.2]? = some p.1
  free : ∀ y ∈ scope.names, y.2 = .free → sc.names.lookup y.1 = some .cell ∨ sc.names.lookup y.1 = some .free
  own : ∀ y ∈ scope.names, y.2 = .local ∨ y.2 = .cell → y.1 ∈ own.map (·.1) ∨ y.1 ∉ N
def wipe (σ : St) : List Nat → St
  | [] => σ
  | v :: vs => (wipe σ vs).set v none
theorem wipe_length (σ : St) : ∀ vs : List Nat, (wipe σ vs).length = σ.length
  | [] => rfl
  | v :: vs => by unfold wipe; rw [List.length_set, wipe_length σ vs]
theorem wipe_some {σ : St} {i : Nat} {x : V} : ∀ {vs : List Nat}, (wipe σ vs)[i]? = some (some x) → σ[i]? = some (some x) ∧ i ∉ vs
  | [], h => ⟨h, by simp⟩
  | v :: vs, h => by
    unfold wipe at h
    by_cases hi : v = i
    · subst hi
      by_cases hv : v < (wipe σ vs).length
      · rw [List.getElem?_set_self hv] at h; cases h
      · rw [List.getElem?_eq_none (by simpa using hv)] at h; cases h
    · rw [List.getElem?_set_ne hi] at h
      obtain ⟨h1, h2⟩ := wipe_some h
      exact ⟨h1, by simp only [List.mem_cons, not_or]; exact ⟨fun e => hi e.symm, h2⟩⟩
abbrev Cx.blk (X : Cx) (s : Shared) (H : Hp) (scope : Scope) (cenv : Env) (fp : List Addr) : Cx := { X with s_0 := s, H_0 := H, env := cenv, outer := X.stack, ex := fp, fn := fun x => scope.names.lookup x == some .cell, pn := [], xe := fun _ _ => False }
section
variable {X : Cx} {pins : List (Addr × Obj)} {σ : St} {H : Hp} {s : Shared}
theorem block_start {scope : Scope} {own : List (Str × Nat)} {fp : List Addr} (I : Inv X pins σ H s) (ok : BlkOk X.N X.env.scope scope own) (hN : X.N.Nodup) (hfp : ∀ b ∈ fp, FpOk X pins H b ∧ b < s.heap.objs.size) :
    Inv (X.blk s H scope (compEnvC scope (cellsFrom (s.heap.objs.size + 1) scope.names (cloFrom X.env.cells scope.names [])) s.heap.objs.size X.env) fp) [] (wipe σ (own.map (·.2))) H { s with heap := pushCells (s.heap.push { cls := .type "dict", data := .dict #[] }) scope.names } := by
  have hfree : ∀ y ∈ scope.names, y.2 = .free → ∃ c, X.env.cells.lookup y.1 = some c := fun y hy e => by
    rcases ok.free y hy e with k | k
    · exact I.ok.has _ (.inl k)
    · exact I.ok.has _ (.inr k)
  generalize hcenv : compEnvC scope (cellsFrom (s.heap.objs.size + 1) scope.names (cloFrom X.env.cells scope.names [])) s.heap.objs.size X.env = cenv
  have kp : ∀ b o, s.heap.get? b = some o → (pushCells (s.heap.push { cls := .type "dict", data := .dict #[] }) scope.names).get? b = some o := fun b o e => pushCells_keeps _ _ _ _ (Heap.get?_push_of_some _ e)
  have hL : cenv.locals = s.heap.objs.size := by rw [← hcenv]; rfl
  have hcl : cenv.cells = cellsFrom (s.heap.objs.size + 1) scope.names (cloFrom X.env.cells scope.names []) := by rw [← hcenv]; rfl
  have hsc : cenv.scope = relS scope X.env.scope := by rw [← hcenv]; rfl
  rw [← Heap.size_push s.heap { cls := .type "dict", data := .dict #[] }] at hcl
  have cm : ∀ {y c}, (y, c) ∈ cloFrom X.env.cells scope.names [] → X.env.cells.lookup y = some c ∧ c < s.heap.objs.size := fun {y c} hm => by
    rcases cloFrom_mem hm with hm | ⟨h1, rfl⟩
    · cases hm
    · obtain ⟨c, hc⟩ := hfree _ h1 rfl
      rw [hc]
      obtain ⟨w, z⟩ := I.cell _ _ hc
      exact ⟨rfl, z.lt⟩
  have mem : ∀ {y c}, cenv.cells.lookup y = some c → (X.env.cells.lookup y = some c ∧ c < s.heap.objs.size) ∨ (s.heap.objs.size + 1 ≤ c ∧ CellAt (pushCells (s.heap.push { cls := .type "dict", data := .dict #[] }) scope.names) c none) := fun {y c} e => by
    rw [hcl] at e
    rcases cells_mem (PySem.mem_of_lookup e) with hm | ⟨_, h2, h3⟩
    · exact .inl (cm hm)
    · rw [Heap.size_push] at h2; exact .inr ⟨h2, h3⟩
  have look : ∀ {y}, scope.names.lookup y = some .free → ∃ c, cenv.cells.lookup y = some c ∧ X.env.cells.lookup y = some c := fun {y} hl => by
    have hy : (y, NameKind.free) ∈ scope.names := PySem.mem_of_lookup hl
    obtain ⟨c', e'⟩ := mem_lookup (cells_acc (names := scope.names) (n := (s.heap.push { cls := .type "dict", data := .dict #[] }).objs.size) (cloFrom_has (cells := X.env.cells) (acc := []) hy))
    rw [← hcl] at e'
    refine ⟨c', e', ?_⟩
    rw [hcl] at e'
    rcases cells_mem (PySem.mem_of_lookup e') with hm | ⟨h1, _, _⟩
    · exact (cm hm).1
    · have := ok.uniq _ h1
      rw [hl] at this; cases this
  have okB : (X.blk s H scope cenv fp).Ok := by
    refine ⟨I.ok.mod, by show cenv.scope.kind = _; rw [hsc]; exact ok.kind, by show cenv.globals = _; rw [← hcenv]; exact I.ok.glob, by show cenv.builtins = _; rw [← hcenv]; exact I.ok.blt, by show s.heap.objs.size ≤ cenv.locals; rw [hL]; exact Nat.le_refl _,
      fun y z c e1 e2 => ?_, fun y hy => ?_, fun y c z e => ?_, I.ok.hd, I.ok.frames, .inl rfl, fun b hb => ⟨?_, fun y c e z => ?_⟩, I.bs, Nat.le_trans I.ok.bsz I.sz, fun b o e hb => ?_, fun b hb z => ?_, I.stack, I.stkFree⟩
    · have e1 : cenv.cells.lookup y = some c := e1
      have e2 : cenv.cells.lookup z = some c := e2
      rw [hcl] at e1 e2
      refine cells_inj (fun p hp => ?_) (fun y z c a b => I.ok.inj y z c (cm a).1 (cm b).1) (PySem.mem_of_lookup e1) (PySem.mem_of_lookup e2)
      rw [Heap.size_push]
      exact Nat.lt_succ_of_lt (cm (y := p.1) (c := p.2) hp).2
    · show ∃ c, cenv.cells.lookup y = some c
      have key : ∀ k, cenv.kindOf y = some k → (k = .cell ∨ k = .free) → ∃ c, cenv.cells.lookup y = some c := fun k hk hk' => by
        unfold Env.kindOf at hk
        rw [hsc] at hk
        obtain ⟨k', e, r⟩ := lookup_relS hk
        have : k' = .cell ∨ k' = .free := by
          rcases r with rfl | ⟨rfl, _⟩
          · exact hk'
          · exact .inr rfl
        rcases this with rfl | rfl
        · obtain ⟨c, hm⟩ := cells_has (n := (s.heap.push { cls := .type "dict", data := .dict #[] }).objs.size) (acc := cloFrom X.env.cells scope.names []) (PySem.mem_of_lookup e)
          obtain ⟨c', e'⟩ := mem_lookup hm
          exact ⟨c', by rw [hcl]; exact e'⟩
        · obtain ⟨c, h1, _⟩ := look e
          exact ⟨c, h1⟩
      rcases hy with hy | hy
      · exact key _ hy (.inl rfl)
      · exact key _ hy (.inr rfl)
    · have z : (scope.names.lookup y == some NameKind.cell) = true := z
      have z : scope.names.lookup y = some .cell := by simpa using z
      have e : cenv.cells.lookup y = some c := e
      rw [hcl] at e
      rcases cells_mem (PySem.mem_of_lookup e) with hm | ⟨_, h2, _⟩
      · rcases cloFrom_mem hm with hm | ⟨h1, _⟩
        · cases hm
        · have q := ok.uniq _ h1
          rw [z] at q; cases q
      · rw [Heap.size_push] at h2
        exact Nat.le_of_succ_le h2
    · show b ≠ cenv.locals
      rw [hL]; exact Nat.ne_of_lt (hfp b hb).2
    · have e : cenv.cells.lookup y = some c := e
      rcases mem e with ⟨h1, _⟩ | ⟨h1, _⟩
      · exact (hfp b hb).1.2.2.2.2.1 y c h1 z
      · have h2 : s.heap.objs.size + 1 ≤ b := by rw [← z]; exact h1
        exact absurd (Nat.lt_of_lt_of_le (hfp b hb).2 (Nat.le_of_succ_le h2)) (Nat.lt_irrefl _)
    · rcases (hfp b hb).1.2.2.2.1 with z | z
      · exact I.ok.noex b o e z
      · exact absurd (Nat.lt_of_lt_of_le (Heap.lt_size e) (Nat.le_trans I.ok.bsz z)) (Nat.lt_irrefl _)
    · rcases List.mem_cons.mp (I.stkSub b z) with z | z
      · exact (hfp b hb).1.2.1 z
      · exact (hfp b hb).1.2.2.1 z
  refine ⟨okB, rfl, I.bare, Un.kept kp, ⟨fun _ => none, ?_, fun i y av e1 e2 e3 => ?_⟩, fun y c e => ?_, ?_, fun y c e => ?_, fun p hp => ?_, I.hok.kept kp, by rw [wipe_length]; exact I.len⟩
  · show Heap.Ns _ cenv.locals _
    rw [hL]
    exact Heap.Ns.keeps (Heap.Ns.new ..) fun b o e => pushCells_keeps _ _ _ _ e
  · obtain ⟨e2, hne⟩ := wipe_some e2
    have hfr : scope.names.lookup y = some .free ∧ (cenv.kindOf y = some .cell ∨ cenv.kindOf y = some .free) := by
      have key : ∀ k, cenv.scope.names.lookup y = some k → k = .local ∨ k = .cell ∨ k = .free → scope.names.lookup y = some .free ∧ (cenv.kindOf y = some .cell ∨ cenv.kindOf y = some .free) := fun k hk hk' => by
        have hk0 := hk
        rw [hsc] at hk
        obtain ⟨k', e, r⟩ := lookup_relS hk
        have no : ¬ (k' = .local ∨ k' = .cell) := fun hh => by
          rcases ok.own _ (PySem.mem_of_lookup e) hh with e' | e'
          · obtain ⟨p, hp, hpy⟩ := List.mem_map.mp e'
            have e3 := ok.ix p hp
            have : p.1 = y := hpy
            rw [this] at e3
            exact hne (List.mem_map.mpr ⟨p, hp, nodup_ix hN e3 e1⟩)
          · exact e' (List.mem_of_getElem? e1)
        rcases r with rfl | ⟨rfl, rfl⟩
        · rcases hk' with rfl | rfl | rfl
          · exact absurd (.inl rfl) no
          · exact absurd (.inr rfl) no
          · exact ⟨e, .inr hk0⟩
        · exact ⟨e, .inl hk0⟩
      have e3 : Vis cenv.scope y := e3
      rcases e3 with e3 | e3 | e3
      · exact key _ e3 (.inl rfl)
      · exact key _ e3 (.inr (.inl rfl))
      · exact key _ e3 (.inr (.inr rfl))
    obtain ⟨m, hn, hl⟩ := I.loc
    have hvis : Vis X.env.scope y := (ok.free _ (PySem.mem_of_lookup hfr.1) rfl).elim (fun k => .inr (.inl k)) (fun k => .inr (.inr k))
    obtain ⟨w, r, q⟩ := hl i y av e1 e2 hvis
    refine ⟨w, r, .inr ⟨hfr.2, ?_⟩⟩
    obtain ⟨c, h1, h2⟩ := look hfr.1
    rcases q with ⟨k, _⟩ | ⟨_, c', e', z⟩
    · have k : X.env.scope.names.lookup y = some .local := k
      rcases ok.free _ (PySem.mem_of_lookup hfr.1) rfl with k' | k' <;> rw [show X.env.scope.names.lookup y = _ from k'] at k <;> cases k
    · rw [h2] at e'; cases e'
      exact ⟨c, h1, z.keeps kp⟩
  · have e : cenv.cells.lookup y = some c := e
    rcases mem e with ⟨h1, _⟩ | ⟨_, z⟩
    · obtain ⟨w, z⟩ := I.cell y c h1
      exact ⟨w, z.keeps kp⟩
    · exact ⟨_, z⟩
  · show H cenv.locals = none
    rw [hL]; exact I.hok.fresh (Nat.le_refl _)
  · have e : cenv.cells.lookup y = some c := e
    rcases mem e with ⟨h1, _⟩ | ⟨h1, _⟩
    · exact I.freeC y c h1
    · exact I.hok.fresh (Nat.le_of_succ_le h1)
  · exact absurd (show p ∈ ([] : List (Addr × Obj)) ++ [] from hp) (by simp)
theorem app_ok {E : Value → Shared → Prop} {D : Addr} {xs : List V} {y : V} {v : Value} {Q : Value → Shared → Prop} (I : Inv X pins σ H s) (hD : H D = some (.lst xs)) (hz : xs.length < sizeLine) (r : RelV y v)
    (h : ∀ s', Inv X pins σ (upd H D (.lst (xs ++ [y]))) s' → Q .none s') : wpAny (model X.prog X.w) X.A (call (.builtin "list.append") [.ref D, v]) Q E s := by
  obtain ⟨hz', its, n, ri, e⟩ := I.hok D _ hD
  have hl := ri.length
  refine append_at (hsz := by rw [List.size_toArray]; omega) e fun h' sb ho' => ?_
  refine h { s with heap := h' } (I.write (t' := s.toks) (by rw [hD]; trivial) (.inl rfl) (fun b u hb q => (sb.2 b hb).trans q) ⟨_, ho'⟩ ⟨by rw [List.length_append]; exact hz, its ++ [v], n + 1, ri.append (.cons r .nil), ?_⟩)
  rw [ho']
  simp
def PTs (X : Cx) (ifs : List Expr) (t : TT) : Prop :=
  ∀ (pins : List (Addr × Obj)) (s : Shared) (σ : St) (H : Hp) (Q : Bool → Hp → Prop), Inv X pins σ H s → t σ H Q →
    wpAny (model X.prog X.w) X.A (forIn ifs true fun c r => if r = true then do let ok ← isTrue c X.env (eval c X.env); pure (ForInStep.yield ok) else pure (ForInStep.yield r)) (TP X pins σ Q) X.xe s
def tYes : TT := fun _ H Q => Q true H
theorem pts_nil : PTs X [] tYes := fun _ _ _ H _ I h => wpAny_tests_nil ⟨H, I, h⟩
end
theorem thnF {α : Type} {t : Sem α} {Q Q' : α → Shared → Prop} {M : Model} {A : Around} {E : Value → Shared → Prop} {s : Shared} (h : wpAny M A t Q (fun _ _ => False) s) (hQ : ∀ a s, Q a s → Q' a s) : wpAny M A t Q' E s := wpAny_mono h hQ fun _ _ z => False.elim z
theorem compLoop_any {prog : Program} {w : World} {A : Around} {R : Result → Shared → Prop} {s : Shared} {elt target iter : Expr} {ifs : List Expr} {scope : Scope} {pos : Pos} {it acc : Value} {env : Env} (I : Nat → Shared → Prop)
    (turn : ∀ n s, I n s → wpAny (model prog w) A (pyNext it) (fun r s₁ => match r with
      | none => R (.ok .next) s₁
      | some v => wpAny (model prog w) A (letOwnedTupleGo target it v) (fun _ s₁' => wpAny (model prog w) A (assign target env v) (fun _ s₂ =>
          wpAny (model prog w) A (forIn ifs true fun c r => if r = true then do let ok ← isTrue c env (eval c env); pure (ForInStep.yield ok) else pure (ForInStep.yield r)) (fun ok s₃ =>
            if ok = true then wpAny (model prog w) A (eval elt env) (fun x s₄ =>
              wpAny (model prog w) A (call (.builtin "list.append") [acc, x]) (fun _ s₅ => ∃ m, m < n ∧ I m s₅) (notedBy (model prog w) A env fun e s' => R (.error e) s') s₄) (notedBy (model prog w) A env fun e s' => R (.error e) s') s₃
            else ∃ m, m < n ∧ I m s₃) (notedBy (model prog w) A env fun e s' => R (.error e) s') s₂) (notedBy (model prog w) A env fun e s' => R (.error e) s') s₁') (notedBy (model prog w) A env fun e s' => R (.error e) s') s₁) (notedBy (model prog w) A env fun e s' => R (.error e) s') s)
    (n : Nat) (h : I n s) :
    codeAny (model prog w) A (.compLoop (.ListComp elt [⟨target, iter, ifs, 0⟩] scope pos) 0 it acc env) R s := by
  refine codeAny_loop rfl I (fun n s hI => ?_) n h
  show wpAny _ A ((compTurn (.ListComp elt [⟨target, iter, ifs, 0⟩] scope pos) 0 it acc env).onRaise (fun x => do noteFrame x env; theTreesLotGoes x)) _ _ s
  refine wpAny_noted ?_
  rw [compTurn_list]
  refine wpAny_bind (wpAny_standAt (wpAny_bind (wpAny_mono (turn n s hI) (fun r s₁ h₁ => ?_) fun _ _ h' => h')))
  cases r with
  | none => exact wpAny_pure h₁
  | some v =>
    refine wpAny_bind (wpAny_mono h₁ (fun _ s₁' h₁' => ?_) fun _ _ h' => h')
    refine wpAny_bind (wpAny_mono h₁' (fun _ s₂ h₂ => wpAny_bind (wpAny_mono h₂ (fun ok s₃ h₃ => ?_) fun _ _ h' => h')) fun _ _ h' => h')
    cases ok with
    | false => exact wpAny_pure ⟨rfl, h₃⟩
    | true =>
      exact wpAny_bind (wpAny_bind (wpAny_mono h₃ (fun x s₄ h₄ => wpAny_bind (wpAny_mono h₄ (fun _ s₅ h₅ => wpAny_pure (wpAny_pure ⟨rfl, h₅⟩)) fun _ _ h' => h')) fun _ _ h' => h'))
section
variable {X : Cx}
def tLc (wi : TI) (g : TG) (tt : TT) (te : TE) (vs : List Nat) : TE := fun σ H Q => wi σ H fun J H1 => ∀ D, H1 D = none → ∃ W : Nat → Nat → Hp → Prop, (∃ m, W 0 m (upd H1 D (.lst []))) ∧ ∀ i m H, W i m H →
  (J.stop i H ∧ Q (.ref D) H) ∨ (J.go i H ∧ ∃ Nx : Hp → Prop, (∀ H', Nx H' → ∃ m', m' < m ∧ W (i + 1) m' H') ∧ ∀ x H', J.yld i H x H' → g x (wipe σ vs) H' fun σ2 H2 => wipe σ2 vs = wipe σ vs ∧ tt σ2 H2 fun b H3 =>
    if b = true then te σ2 H3 fun y H4 => ∃ acc, H4 D = some (.lst acc) ∧ acc.length < sizeLine ∧ Nx (upd H4 D (.lst (acc ++ [y]))) else Nx H3)
theorem lc_core {pins : List (Addr × Obj)} {s : Shared} {σ : St} {H : Hp} {Q : VK} {elt tg iter : Expr} {ifs : List Expr} {scope : Scope} {own : List (Str × Nat)} {pos pos' : Pos} {wi : TI} {g : TG} {tt : TT} {te : TE} {use : Option (Value → Sem Unit)} {Qf : Value → Shared → Prop}
    (hc : X.calm = true) (hN : X.N.Nodup) (I : Inv X pins σ H s) (hi : PI X tg iter wi) (ok : BlkOk X.N X.env.scope scope own)
    (hg : ∀ (s : Shared) (H : Hp) (C : Addr) (cl : List (Str × Addr)) (fp : List Addr), PG (X.blk s H scope (compEnvC scope cl C X.env) fp) tg g) (ht : ∀ (s : Shared) (H : Hp) (C : Addr) (cl : List (Str × Addr)) (fp : List Addr), PTs (X.blk s H scope (compEnvC scope cl C X.env) fp) ifs tt)
    (he : ∀ (s : Shared) (H : Hp) (C : Addr) (cl : List (Str × Addr)) (fp : List Addr), PE (X.blk s H scope (compEnvC scope cl C X.env) fp) elt te) (hs : ∀ x, foldedSetIterable iter X.env x = pure x)
    (h : tLc wi g tt te (own.map (·.2)) σ H Q)
    (hRR : ∀ D C s' m H', Inv X pins σ H' s' → Q (.ref D) H' → s'.heap.Ns C m → FpOk X pins H' C → compPost (model X.prog X.w) X.A X.xe use Qf (.ref D) C (.ok .next) s') :
    wpAny (model X.prog X.w) X.A (comprehension (.ListComp elt [⟨tg, iter, ifs, 0⟩] scope pos) scope X.env pos' (newList []) false (eval iter X.env) use) Qf X.xe s := by
  have hfree : ∀ y ∈ scope.names, y.2 = .free → ∃ c, X.env.cells.lookup y.1 = some c := fun y hy e => by
    rcases ok.free y hy e with k | k
    · exact I.ok.has _ (.inl k)
    · exact I.ok.has _ (.inr k)
  refine wpAny_comprehension_free (use := use) rfl hs (closure_ok hfree) ok.kind (fun y hy e => by rw [ok.uniq y hy, e])
    (thn (hi pins s σ H _ I h) fun xv s1 hx => thn hx fun itv s2 h2 => ?_)
  obtain ⟨it, fp, tn, J, H2, e, I2, T, st2, f2, q⟩ := h2
  subst e
  refine wpAny_newObj_type (newEnv_comp ?_) (by show 0 ≤ sizeLine; decide)
  generalize hD : s2.heap.objs.size = D
  have hDn : H2 D = none := I2.hok.fresh (Nat.le_of_eq hD)
  obtain ⟨W, ⟨m0, w0⟩, turn⟩ := q D hDn
  -- the new list
  generalize hs3 : ({ s2 with heap := s2.heap.push { cls := .type "list", data := .seq ([] : List Value).toArray } } : Shared) = s3
  have I3 : Inv X pins σ (upd H2 D (.lst [])) s3 := by
    rw [← hs3]
    refine I2.laid (t' := s2.toks) (fun b o e => Heap.get?_push_of_some _ e) (Nat.le_of_eq hD) ⟨Nat.zero_le _, [], 0, .nil, ?_⟩
    rw [← hD]
    exact Heap.get?_push_size _ rfl
  have h3 : s3.heap = s2.heap.push { cls := .type "list", data := .seq ([] : List Value).toArray } := by rw [← hs3]
  have sz : ∀ b ∈ fp, b < s2.heap.objs.size := fun b hb => by
    obtain ⟨o, e, _⟩ := T.obj _ _ st2 b hb
    exact Heap.lt_size e
  have f3 : ∀ b ∈ fp, FpOk X pins (upd H2 D (.lst [])) b ∧ b < s3.heap.objs.size := fun b hb => by
    have hlt := sz b hb
    refine ⟨⟨?_, (f2 b hb).2⟩, by rw [h3, Heap.size_push]; exact Nat.lt_succ_of_lt hlt⟩
    rw [upd_ne (by rw [← hD]; exact Nat.ne_of_lt hlt)]
    exact (f2 b hb).1
  have st3 : tn 0 s3.heap := T.keep _ _ _ st2 fun b _ o e => by rw [h3]; exact Heap.get?_push_of_some _ e
  have I4 := block_start I3 ok hN f3
  have pg := hg s3 (upd H2 D (.lst [])) s3.heap.objs.size (cellsFrom (s3.heap.objs.size + 1) scope.names (cloFrom X.env.cells scope.names [])) fp
  have pt := ht s3 (upd H2 D (.lst [])) s3.heap.objs.size (cellsFrom (s3.heap.objs.size + 1) scope.names (cloFrom X.env.cells scope.names [])) fp
  have pe := he s3 (upd H2 D (.lst [])) s3.heap.objs.size (cellsFrom (s3.heap.objs.size + 1) scope.names (cloFrom X.env.cells scope.names [])) fp
  show codeAny _ _ (.compStart (.ListComp elt [⟨tg, iter, ifs, 0⟩] scope pos) 0 (.ref it) (.ref D) (compEnvC scope (cellsFrom (s3.heap.objs.size + 1) scope.names (cloFrom X.env.cells scope.names [])) s3.heap.objs.size X.env)) (compPost (model X.prog X.w) X.A X.xe use Qf (.ref D) s3.heap.objs.size) { s3 with heap := pushCells (s3.heap.push { cls := .type "dict", data := .dict #[] }) scope.names }
  have nfp : ∀ b ∈ fp, (upd H2 D (.lst [])) b = none := fun b hb => (f3 b hb).1.1
  generalize hce : compEnvC scope (cellsFrom (s3.heap.objs.size + 1) scope.names (cloFrom X.env.cells scope.names [])) s3.heap.objs.size X.env = ce at I4 pg pt pe ⊢
  have cL : ce.locals = s3.heap.objs.size := by subst hce; rfl
  generalize hH3 : upd H2 D (.lst []) = H3 at I3 I4 pg pt pe w0 nfp f3
  generalize hs4 : ({ s3 with heap := pushCells (s3.heap.push { cls := .type "dict", data := .dict #[] }) scope.names } : Shared) = s4 at I4 ⊢
  have st4 : tn 0 s4.heap := T.keep _ _ _ st3 fun b _ o e => by rw [← hs4]; exact pushCells_keeps _ _ _ _ (Heap.get?_push_of_some _ e)
  have stat : ∀ {σ' : St} {H' : Hp} {s' : Shared}, Inv (X.blk s3 H3 scope ce fp) [] σ' H' s' → (∀ b ∈ fp, H' b = none) → ∀ b ∈ fp, FpOk (X.blk s3 H3 scope ce fp) [] H' b := fun {σ' H' s'} I' hn b hb =>
    ⟨hn b hb, (I'.ok.exf b hb).1, I'.ok.exfs b hb, .inl hb, fun x c e => (I'.ok.exf b hb).2 x c e, fun p hp => absurd (show p ∈ ([] : List (Addr × Obj)) ++ [] from hp) (by simp)⟩
  have loop : codeAny (model X.prog X.w) X.A (.compLoop (.ListComp elt [⟨tg, iter, ifs, 0⟩] scope pos) 0 (.ref it) (.ref D) ce) (compPost (model X.prog X.w) X.A X.xe use Qf (.ref D) s3.heap.objs.size) s4 := by
    refine compLoop_any (fun n s' => ∃ i H', Inv (X.blk s3 H3 scope ce fp) [] (wipe σ (own.map (·.2))) H' s' ∧ tn i s'.heap ∧ (∀ b ∈ fp, H' b = none) ∧ W i n H') ?_ m0 ⟨0, H3, I4, st4, nfp, w0⟩
    rintro n s5 ⟨i, H5, I5, st5, n5, w5⟩
    rcases turn i n H5 w5 with ⟨stop, qq⟩ | ⟨go, Nx, hNx, step⟩
    · have td := T.done (X.blk s3 H3 scope ce fp) rfl rfl rfl hc i [] s5 _ H5 (fun _ _ => False) I5 (stat I5 n5) st5 stop
      refine thnF td fun r s6 ⟨hr, I6⟩ => ?_
      subst hr
      -- back in the def's context
      have I7 : Inv X pins σ H5 s6 := I3.call' (ch := fp) I6.os I6.base I6.hok I6.bare fun b hb => ⟨(f3 b hb).1.2.2.2.1, (f3 b hb).1.2.1, (f3 b hb).1.2.2.2.2.1, (f3 b hb).1.2.2.2.2.2⟩
      have nC : H5 s3.heap.objs.size = none := by
        have z : H5 ce.locals = none := I6.free
        rw [cL] at z
        exact z
      obtain ⟨m, hn, _⟩ := I6.loc
      have hn : s6.heap.Ns ce.locals m := hn
      rw [cL] at hn
      exact hRR D s3.heap.objs.size s6 m H5 I7 qq hn (I3.fpOk (Nat.le_refl _) nC)
    · have ti := T.item (X.blk s3 H3 scope ce fp) rfl rfl rfl hc i [] s5 _ H5 (fun _ _ => False) I5 (stat I5 n5) st5 go
      refine thnF ti fun r s6 ⟨u, hr, h6⟩ => ?_
      subst hr
      refine thnF h6 fun _ s7 ⟨x, H7, I7, r7, y7, st7, n7⟩ => ?_
      have I7' := I7.pinned (stat I7 n7) (T.obj _ _ st7)
      refine thnF (pg _ s7 _ H7 x u _ I7' r7 (step x H7 y7)) fun _ s8 ⟨σ8, H8, I8, hw8, q8⟩ => ?_
      refine thnF (pt _ s8 σ8 H8 _ I8 q8) fun b s9 ⟨H9, I9, q9⟩ => ?_
      -- the turn's end
      have fin : ∀ {s' : Shared} {H' : Hp}, Inv (X.blk s3 H3 scope ce fp) ([] ++ pinsAt fp s7.heap) σ8 H' s' → Nx H' → ∃ m, m < n ∧ ∃ i H', Inv (X.blk s3 H3 scope ce fp) [] (wipe σ (own.map (·.2))) H' s' ∧ tn i s'.heap ∧ (∀ b ∈ fp, H' b = none) ∧ W i m H' := fun {s' H'} I' nx => by
        obtain ⟨m', hm, w'⟩ := hNx H' nx
        have pin' : ∀ b ∈ fp, ∀ o, s7.heap.get? b = some o → s'.heap.get? b = some o ∧ H' b = none := fun b hb o e =>
          let z := I'.pin (b, o) (List.mem_append_right _ (List.mem_append_right _ (mem_pinsAt hb e)))
          ⟨z.1, z.2.1⟩
        have hl : (wipe σ (own.map (·.2))).length = σ8.length := by rw [← hw8, wipe_length]
        refine ⟨m', hm, i + 1, H', (I'.unpinned (pins := [])).weak hl (fun j v e => ?_), T.keep _ _ _ st7 fun b hb o e => (pin' b hb o e).1, fun b hb => ?_, w'⟩
        · rw [← hw8] at e
          exact (wipe_some e).1
        · obtain ⟨o, e, _⟩ := T.obj _ _ st7 b hb
          exact (pin' b hb o e).2
      cases b with
      | false =>
        simp only [Bool.false_eq_true, if_false] at q9 ⊢
        exact fin I9 q9
      | true =>
        simp only [if_true] at q9 ⊢
        refine thnF (pe _ s9 σ8 H9 _ I9 q9) fun z s10 ⟨yv, H10, I10, r10, acc, hD10, hz10, nx⟩ => ?_
        exact app_ok (X := X.blk s3 H3 scope ce fp) I10 hD10 hz10 r10 fun s11 I11 => fin I11 nx
  exact codeAny_compStart_list loop (T.self X.A 0 _ _ _ st4 loop)
theorem pe_lc {elt tg iter : Expr} {ifs : List Expr} {scope : Scope} {own : List (Str × Nat)} {pos : Pos} {wi : TI} {g : TG} {tt : TT} {te : TE} (hc : X.calm = true) (hN : X.N.Nodup) (hi : PI X tg iter wi) (ok : BlkOk X.N X.env.scope scope own)
    (hg : ∀ (s : Shared) (H : Hp) (C : Addr) (cl : List (Str × Addr)) (fp : List Addr), PG (X.blk s H scope (compEnvC scope cl C X.env) fp) tg g) (ht : ∀ (s : Shared) (H : Hp) (C : Addr) (cl : List (Str × Addr)) (fp : List Addr), PTs (X.blk s H scope (compEnvC scope cl C X.env) fp) ifs tt)
    (he : ∀ (s : Shared) (H : Hp) (C : Addr) (cl : List (Str × Addr)) (fp : List Addr), PE (X.blk s H scope (compEnvC scope cl C X.env) fp) elt te) (hs : ∀ x, foldedSetIterable iter X.env x = pure x := by intro _; rfl) :
    PE X (.ListComp elt [⟨tg, iter, ifs, 0⟩] scope pos) (tLc wi g tt te (own.map (·.2))) := by
  intro pins s σ H Q I h
  rw [eval_ListComp]
  refine lc_core hc hN I hi ok hg ht he hs h fun D C s' m H' I' q hn f => ⟨m, hn, fun h'' sb => ?_⟩
  obtain ⟨f0, f1, f2, f3, f4, f5⟩ := f
  exact ⟨.ref D, H', I'.turned (t' := s'.toks) (fun b o hb e => (sb.2 b hb).trans e) f0 f1 f3 f4 f5, rfl, q⟩
theorem ps_setLc {i : Nat} {y : Str} {py : Pos} {elt tg iter : Expr} {ifs : List Expr} {scope : Scope} {own : List (Str × Nat)} {pos spos : Pos} {wi : TI} {g : TG} {tt : TT} {te : TE} (hc : X.calm = true) (hN : X.N.Nodup) (hy : X.N[i]? = some y) (hyl : X.env.scope.names.lookup y = some .local)
    (hsw : swapsWith (.ListComp elt [⟨tg, iter, ifs, 0⟩] scope pos) (some (.Name y py)) spos.line X.env = pure true) (hi : PI X tg iter wi) (ok : BlkOk X.N X.env.scope scope own)
    (hg : ∀ (s : Shared) (H : Hp) (C : Addr) (cl : List (Str × Addr)) (fp : List Addr), PG (X.blk s H scope (compEnvC scope cl C X.env) fp) tg g) (ht : ∀ (s : Shared) (H : Hp) (C : Addr) (cl : List (Str × Addr)) (fp : List Addr), PTs (X.blk s H scope (compEnvC scope cl C X.env) fp) ifs tt)
    (he : ∀ (s : Shared) (H : Hp) (C : Addr) (cl : List (Str × Addr)) (fp : List Addr), PE (X.blk s H scope (compEnvC scope cl C X.env) fp) elt te) (hs : ∀ x, foldedSetIterable iter X.env x = pure x := by intro _; rfl) :
    PS X (.Assign [.Name y py] (.ListComp elt [⟨tg, iter, ifs, 0⟩] scope pos) spos) (tAsg (tLc wi g tt te (own.map (·.2))) (gName i)) := by
  intro pins s σ H D I h
  rw [exec_Assign_Name_used _ _ _ _ hsw]
  refine wpAny_bind (wpAny_standAt (wpAny_bind ?_))
  show wpAny _ X.A (do let _ ← comprehension (.ListComp elt [⟨tg, iter, ifs, 0⟩] scope pos) scope X.env (firstIterPos [⟨tg, iter, ifs, 0⟩] pos) (newList []) false (eval iter X.env) (some (assign (.Name y py) X.env))) _ _ s
  have h : tLc wi g tt te (own.map (·.2)) σ H (fun x H1 => gName i x σ H1 D.nx) := h
  refine wpAny_bind (thn (lc_core (Qf := fun _ s' => SP X pins D .next s') hc hN I hi ok hg ht he hs h fun L C s' m H' I' q hn f => ?_) fun _ s' hq => wpAny_pure (wpAny_pure hq))
  show wpAny _ _ (assign (.Name y py) X.env (.ref L)) _ _ _
  refine wpAny_assign_Name (store_ok2 (v := V.ref L) I' hN hy (.inl hyl) rfl (fun s2 I2 ⟨a, sb, ha⟩ => ?_) (.inr hyl))
  obtain ⟨f0, f1, f2, f3, f4, f5⟩ := f
  have haC : C ≠ a := by
    rcases ha with z | z
    · rw [z]; exact f1
    · exact fun e => f4 y a z e.symm
  refine ⟨m, hn.sameBut sb haC, fun h3 sb3 => ?_⟩
  exact ⟨_, H', I2.turned (t' := s2.toks) (fun b o hb e => (sb3.2 b hb).trans e) f0 f1 f3 f4 f5, q⟩
theorem sw_true {elt : Expr} {gs : List Comprehension} {scope : Scope} {pos py : Pos} {y : Str} {l : Nat} {env : Env} (hk : env.scope.kind = .function) (hy : env.scope.names.lookup y = some .local) (hl : (py.line == pos.line) = true)
    (ha : (scope.names.any fun (n, k) => n == y && (k == .local || k == .cell)) = false) : swapsWith (.ListComp elt gs scope pos) (some (.Name y py)) l env = pure true := by
  have ky : env.kindOf y = some .local := hy
  have hb : env.blockKind = .function := by unfold Env.blockKind; rw [hk]; rfl
  unfold swapsWith
  simp only [hb, ky, ha, Expr.pos, hl]
  rfl
end
theorem lc_list {K : PySem.W.Frag} {a : Addr} {xs : List V} {g : TG} {tt : TT} {te : TE} {vs : List Nat} {σ : St} {H1 : Hp} {D : Addr} {Qd : Hp → Prop} (Pv : Nat → Hp → Prop) (h0 : Pv 0 (upd H1 D (.lst []))) (hl : ∀ i H, i ≤ xs.length → Pv i H → SqL K H a xs)
    (hs : ∀ i x H, xs[i]? = some x → Pv i H → g x (wipe σ vs) H fun σ2 H2 => wipe σ2 vs = wipe σ vs ∧ tt σ2 H2 fun b H3 =>
      if b = true then te σ2 H3 fun y H4 => ∃ acc, H4 D = some (.lst acc) ∧ acc.length < sizeLine ∧ Pv (i + 1) (upd H4 D (.lst (acc ++ [y]))) else Pv (i + 1) H3) (hd : ∀ H, Pv xs.length H → Qd H) :
    ∃ W : Nat → Nat → Hp → Prop, (∃ m, W 0 m (upd H1 D (.lst []))) ∧ ∀ i m H, W i m H →
      ((Itl K a).stop i H ∧ Qd H) ∨ ((Itl K a).go i H ∧ ∃ Nx : Hp → Prop, (∀ H', Nx H' → ∃ m', m' < m ∧ W (i + 1) m' H') ∧ ∀ x H', (Itl K a).yld i H x H' → g x (wipe σ vs) H' fun σ2 H2 => wipe σ2 vs = wipe σ vs ∧ tt σ2 H2 fun b H3 =>
        if b = true then te σ2 H3 fun y H4 => ∃ acc, H4 D = some (.lst acc) ∧ acc.length < sizeLine ∧ Nx (upd H4 D (.lst (acc ++ [y]))) else Nx H3) := by
  refine ⟨fun i m H => m = xs.length - i ∧ i ≤ xs.length ∧ Pv i H, ⟨xs.length, by simp, Nat.zero_le _, h0⟩, ?_⟩
  rintro i m H ⟨rfl, hi, p⟩
  have q := hl i H hi p
  by_cases hlt : i < xs.length
  · refine .inr ⟨⟨xs, xs[i], q, by simp [hlt]⟩, Pv (i + 1), fun H' p' => ⟨xs.length - (i + 1), by omega, rfl, hlt, p'⟩, fun x H' y => ?_⟩
    obtain ⟨e, y⟩ := y
    subst e
    exact hs i x _ (y xs q) p
  · have e : i = xs.length := by omega
    subst e
    exact .inl ⟨⟨xs, q, Nat.le_refl _⟩, hd H p⟩
def blkC (N : List Str) (sc scope : Scope) (own : List (Str × Nat)) : Bool :=
  (match scope.kind with | .function => true | _ => false) && (scope.names.all fun y => decide (scope.names.lookup y.1 = some y.2)) && (own.all fun p => decide (N[p.2]? = some p.1)) &&
    (scope.names.all fun y => match y.2 with
      | .free => (match sc.names.lookup y.1 with | some .cell => true | some .free => true | _ => false)
      | .local => decide (y.1 ∈ own.map (·.1)) || decide (y.1 ∉ N)
      | .cell => decide (y.1 ∈ own.map (·.1)) || decide (y.1 ∉ N)
      | _ => true)
theorem blkOk_by {N : List Str} {sc scope : Scope} {own : List (Str × Nat)} (h : blkC N sc scope own = true) : BlkOk N sc scope own := by
  unfold blkC at h
  simp only [Bool.and_eq_true, List.all_eq_true, decide_eq_true_eq] at h
  obtain ⟨⟨⟨h1, h2⟩, h3⟩, h4⟩ := h
  refine ⟨?_, h2, h3, fun y hy e => ?_, fun y hy e => ?_⟩
  · split at h1
    · assumption
    · cases h1
  · have q := h4 y hy
    simp only [e] at q
    split at q <;> first | exact .inl (by assumption) | exact .inr (by assumption) | cases q
  · have q := h4 y hy
    rcases e with e | e <;> (simp only [e, Bool.or_eq_true, decide_eq_true_eq] at q; exact q)
end L2
namespace L2
open PySem PySem.Spec PyProof.Rows
section
variable {prog : Program} {w : World} {A : Around} {R : Result → Shared → Prop} {s : Shared} {elt t0 i0 t1 i1 : Expr} {ifs0 ifs1 : List Expr} {scope : Scope} {pos : Pos} {it acc : Value} {env : Env}
end
section
variable {X : Cx}
end
end L2
namespace L2
open PySem PySem.Spec PyProof.Rows
section
variable {κ : Type} [DecidableEq κ]
def valV (kvs : List (κ × V)) (k : κ) : Option V := (kvs.find? fun kv => decide (kv.1 = k)).map (·.2)
def putK (kvs : List (κ × V)) (k : κ) (v : V) : List (κ × V) :=
  if (kvs.any fun kv => decide (kv.1 = k)) = true then kvs.map (fun kv => if kv.1 = k then (kv.1, v) else kv) else kvs ++ [(k, v)]
def dropK (kvs : List (κ × V)) (k : κ) : List (κ × V) := kvs.filter fun kv => decide (kv.1 ≠ k)
theorem valV_nil {k : κ} : valV ([] : List (κ × V)) k = none := rfl
theorem valV_pos {p : κ × V} {r : List (κ × V)} {k : κ} (e : p.1 = k) : valV (p :: r) k = some p.2 := by simp [valV, List.find?_cons, e]
theorem valV_neg {p : κ × V} {r : List (κ × V)} {k : κ} (e : ¬ p.1 = k) : valV (p :: r) k = valV r k := by simp [valV, List.find?_cons, e]
theorem valV_any (k : κ) : ∀ kvs : List (κ × V), (kvs.any fun kv => decide (kv.1 = k)) = (valV kvs k).isSome
  | [] => rfl
  | p :: r => by
    rw [List.any_cons]
    by_cases e : p.1 = k
    · simp only [valV_pos e, decide_eq_true e, Bool.true_or, Option.isSome_some]
    · rw [valV_neg e, decide_eq_false e, Bool.false_or]; exact valV_any k r
theorem valV_map (k j : κ) (y : V) : ∀ kvs : List (κ × V), valV (kvs.map fun kv => if kv.1 = k then (kv.1, y) else kv) j = (valV kvs j).map fun x => if j = k then y else x
  | [] => rfl
  | p :: r => by
    have ih := valV_map k j y r
    rw [List.map_cons]
    by_cases h : p.1 = k
    · rw [if_pos h]
      by_cases e : p.1 = j
      · rw [valV_pos (p := (p.1, y)) e, valV_pos e, Option.map_some, if_pos (e.symm.trans h)]
      · rw [valV_neg (p := (p.1, y)) e, valV_neg e, ih]
    · rw [if_neg h]
      by_cases e : p.1 = j
      · rw [valV_pos (p := p) e, valV_pos e, Option.map_some, if_neg (fun z => h (e.trans z))]
      · rw [valV_neg (p := p) e, valV_neg e, ih]
theorem valV_snoc (k j : κ) (y : V) : ∀ kvs : List (κ × V), valV kvs k = none → valV (kvs ++ [(k, y)]) j = if j = k then some y else valV kvs j
  | [], _ => by
    by_cases e : k = j
    · rw [if_pos e.symm]; exact valV_pos (p := (k, y)) e
    · rw [if_neg (fun z => e z.symm)]; exact valV_neg (p := (k, y)) e
  | p :: r, hn => by
    rw [List.cons_append]
    have hk : ¬ p.1 = k := fun z => by rw [valV_pos z] at hn; cases hn
    rw [valV_neg hk] at hn
    have ih := valV_snoc k j y r hn
    by_cases e : p.1 = j
    · rw [valV_pos e, valV_pos e, if_neg (fun z => hk (e.trans z))]
    · rw [valV_neg e, valV_neg e, ih]
theorem valV_put (kvs : List (κ × V)) (k j : κ) (y : V) : valV (putK kvs k y) j = if j = k then some y else valV kvs j := by
  unfold putK
  by_cases a : (kvs.any fun kv => decide (kv.1 = k)) = true
  · rw [if_pos a, valV_map]
    rw [valV_any] at a
    by_cases e : j = k
    · obtain ⟨x, hx⟩ := Option.isSome_iff_exists.mp a
      rw [if_pos e, e, hx, Option.map_some, if_pos rfl]
    · rw [if_neg e]
      cases valV kvs j with
      | none => rfl
      | some x => rw [Option.map_some, if_neg e]
  · rw [if_neg a]
    refine valV_snoc k j y kvs ?_
    rw [valV_any] at a
    cases q : valV kvs k with
    | none => rfl
    | some x => rw [q] at a; exact (a rfl).elim
theorem length_putK (kvs : List (κ × V)) (k : κ) (v : V) : (putK kvs k v).length ≤ kvs.length + 1 := by
  unfold putK
  split
  · rw [List.length_map]; omega
  · rw [List.length_append, List.length_cons, List.length_nil]; omega
theorem RelO.isSome_eq {o : Option V} {u : Option Value} (r : RelO o u) : o.isSome = u.isSome := by
  cases o with
  | none => cases u with
    | none => rfl
    | some _ => exact (show False from r).elim
  | some _ => cases u with
    | none => exact (show False from r).elim
    | some _ => rfl
theorem KV.val {kvs : List (κ × V)} {vs : List (κ × Value)} (r : KV kvs vs) (k : κ) : RelO (valV kvs k) (valueAt vs k) := by
  unfold KV at r
  induction r with
  | nil => exact True.intro
  | @cons p q ps qs h t ih =>
    obtain ⟨h1, h2⟩ := h
    by_cases e : p.1 = k
    · have e' : q.1 = k := h1.symm.trans e
      have b : valueAt (q :: qs) k = some q.2 := by simp [valueAt, List.find?_cons, e']
      rw [valV_pos e, b]; exact h2
    · have e' : ¬ q.1 = k := fun z => e (h1.trans z)
      have b : valueAt (q :: qs) k = valueAt qs k := by simp [valueAt, List.find?_cons, e']
      rw [valV_neg e, b]; exact ih
theorem KV.any {kvs : List (κ × V)} {vs : List (κ × Value)} (r : KV kvs vs) (k : κ) : (kvs.any fun kv => decide (kv.1 = k)) = vs.any fun kv => decide (kv.1 = k) := by
  unfold KV at r
  induction r with
  | nil => rfl
  | cons h t ih => rw [List.any_cons, List.any_cons, ih, h.1]
theorem KV.repl {kvs : List (κ × V)} {vs : List (κ × Value)} (r : KV kvs vs) (k : κ) {y : V} {u : Value} (ry : RelV y u) :
    KV (kvs.map fun kv => if kv.1 = k then (kv.1, y) else kv) (vs.map fun kv => if kv.1 = k then (kv.1, u) else kv) := by
  unfold KV at r ⊢
  induction r with
  | nil => exact .nil
  | @cons p q ps qs h t ih =>
    rw [List.map_cons, List.map_cons]
    refine .cons ?_ ih
    obtain ⟨h1, h2⟩ := h
    by_cases e : p.1 = k
    · rw [if_pos e, if_pos (h1.symm.trans e)]; exact ⟨h1, ry⟩
    · rw [if_neg e, if_neg (fun z => e (h1.trans z))]; exact ⟨h1, h2⟩
theorem KV.put {kvs : List (κ × V)} {vs : List (κ × Value)} (r : KV kvs vs) (k : κ) {y : V} {u : Value} (ry : RelV y u) : KV (putK kvs k y) (stored vs k u) := by
  unfold putK stored
  rw [r.any k]
  by_cases e : (vs.any fun kv => decide (kv.1 = k)) = true
  · rw [if_pos e, if_pos e]; exact r.repl k ry
  · rw [if_neg e, if_neg e]; exact Paired.snoc r ⟨rfl, ry⟩
theorem KV.drop {kvs : List (κ × V)} {vs : List (κ × Value)} (r : KV kvs vs) (k : κ) : KV (dropK kvs k) (without vs k) := by
  unfold KV at r ⊢
  unfold dropK without
  induction r with
  | nil => exact .nil
  | @cons p q ps qs h t ih =>
    obtain ⟨h1, h2⟩ := h
    rw [List.filter_cons, List.filter_cons]
    by_cases e : p.1 = k
    · have a : ¬ decide (p.1 ≠ k) = true := by simp [e]
      have b : ¬ decide (q.1 ≠ k) = true := by simp [h1.symm.trans e]
      rw [if_neg a, if_neg b]; exact ih
    · have e' : ¬ q.1 = k := fun z => e (h1.trans z)
      have a : decide (p.1 ≠ k) = true := by simp [e]
      have b : decide (q.1 ≠ k) = true := by simp [e']
      rw [if_pos a, if_pos b]; exact .cons ⟨h1, h2⟩ ih
theorem KV.length {kvs : List (κ × V)} {vs : List (κ × Value)} (r : KV kvs vs) : kvs.length = vs.length := Paired.length r
theorem dropK_le (kvs : List (κ × V)) (k : κ) : (dropK kvs k).length ≤ kvs.length := List.length_filter_le _ _
end
theorem kV_is {P : Program} {w : World} {k : Key} {u : Value} (r : RelV (kV k) u) : (mixKind P w).is k u = true := by
  cases k with
  | inl i => obtain ⟨t, e⟩ := (show ∃ t, u = Value.int i t from r); subst e; exact mixKind_int P w i t
  | inr x => obtain ⟨t, e⟩ := (show ∃ t, u = Value.str x t from r); subst e; exact mixKind_str P w x t
theorem items_are {P : Program} {w : World} : ∀ {ks : List Key} {us : List Value}, Vals (ks.map kV) us → ItemsAre (mixKind P w) ks us
  | [], _, r => by rw [List.map_nil] at r; cases r; exact .nil
  | k :: ks, _, r => by
    rw [List.map_cons] at r
    cases r with
    | cons h t => exact .cons (kV_is h) (items_are t)
abbrev KT (H : Hp) : List (List Key × V) → List (List Key × Addr × Value) → Prop := Paired fun p q => p.1 = q.1 ∧ H q.2.1 = some (.tup (p.1.map kV)) ∧ RelV p.2 q.2.2
theorem KT.val {H : Hp} {kvs : List (List Key × V)} {xs : List (List Key × Addr × Value)} (r : KT H kvs xs) (k : List Key) : RelO (valV kvs k) ((atKey xs k).map (·.2)) := by
  induction r with
  | nil => exact True.intro
  | @cons p q ps qs h t ih =>
    obtain ⟨h1, _, h2⟩ := h
    by_cases e : p.1 = k
    · have e' : q.1 = k := h1.symm.trans e
      have b : atKey (q :: qs) k = some q.2 := by simp [atKey, List.find?_cons, e']
      rw [valV_pos e, b]; exact h2
    · have e' : ¬ q.1 = k := fun z => e (h1.trans z)
      have b : atKey (q :: qs) k = atKey qs k := by simp [atKey, List.find?_cons, e']
      rw [valV_neg e, b]; exact ih
theorem KT.repl {H : Hp} {kvs : List (List Key × V)} {xs : List (List Key × Addr × Value)} (r : KT H kvs xs) (k : List Key) {y : V} {u : Value} (ry : RelV y u) :
    KT H (kvs.map fun kv => if kv.1 = k then (kv.1, y) else kv) (xs.map (putAt k u)) := by
  induction r with
  | nil => exact .nil
  | @cons p q ps qs h t ih =>
    rw [List.map_cons, List.map_cons]
    refine .cons ?_ ih
    obtain ⟨h1, h2, h3⟩ := h
    unfold putAt
    by_cases e : p.1 = k
    · rw [if_pos e, if_pos (h1.symm.trans e)]; exact ⟨h1, h2, ry⟩
    · rw [if_neg e, if_neg (fun z => e (h1.trans z))]; exact ⟨h1, h2, h3⟩
theorem KT.put {H : Hp} {kvs : List (List Key × V)} {xs : List (List Key × Addr × Value)} (r : KT H kvs xs) (k : List Key) {b : Addr} {y : V} {u : Value} (hb : H b = some (.tup (k.map kV))) (ry : RelV y u) :
    KT H (putK kvs k y) (storedH xs k b u) := by
  have e : (kvs.any fun kv => decide (kv.1 = k)) = (atKey xs k).isSome := by
    rw [valV_any, (r.val k).isSome_eq, Option.isSome_map]
  unfold putK storedH
  rw [e]
  by_cases q : (atKey xs k).isSome = true
  · rw [if_pos q, if_pos q]; exact r.repl k ry
  · rw [if_neg q, if_neg q]; exact Paired.snoc r ⟨rfl, hb, ry⟩
theorem KT.keeps {H H' : Hp} {kvs : List (List Key × V)} {xs : List (List Key × Addr × Value)} (r : KT H kvs xs) (ht : ∀ b ys, H b = some (.tup ys) → H' b = some (.tup ys)) : KT H' kvs xs :=
  Paired.mapP r fun _ _ z => ⟨z.1, ht _ _ z.2.1, z.2.2⟩
section
variable {P : Program} {w : World} {H : Hp} {h : Heap} {a : Addr}
theorem rd_of {u : HO} (ok : HOk P w H h) (e : Rd H a u) : ObjOk P w H h a u := e.ok ok
theorem dk_rd {kvs : List (Key × V)} (ok : HOk P w H h) (e : Rd H a (.dK kvs)) : kvs.length ≤ sizeLine ∧ (a == sysModules) = false ∧ ∃ vs, KV kvs vs ∧ h.DictOf (mixKind P w) a vs :=
  show ObjOk P w H h a (.dK kvs) from rd_of ok e
theorem dk_of {kvs : List (Key × V)} (ok : HOk P w H h) (e : H a = some (.dK kvs)) : kvs.length ≤ sizeLine ∧ (a == sysModules) = false ∧ ∃ vs, KV kvs vs ∧ h.DictOf (mixKind P w) a vs := dk_rd ok (.inl e)
theorem key_of {ks : List Key} (ok : HOk P w H h) (e : H a = some (.tup (ks.map kV))) : (tupleKind (mixKind P w)).is h ks a := by
  obtain ⟨_, its, r, o, h1, h2, n, h3⟩ := (show ObjOk P w H h a (.tup (ks.map kV)) from ok a _ e)
  exact ⟨o, its.toArray, n, h1, h2, h3, by simpa using items_are r⟩
theorem dt_rd {kvs : List (List Key × V)} (ok : HOk P w H h) (e : Rd H a (.dT kvs)) : kvs.length ≤ sizeLine ∧ (a == sysModules) = false ∧
    ∃ xs, KT H kvs xs ∧ h.DictOfH (tupleKind (mixKind P w)) a xs := by
  obtain ⟨z, y, xs, r, o, es, ep, h1, h2, h3, h4, h5⟩ := (show ObjOk P w H h a (.dT kvs) from rd_of ok e)
  refine ⟨z, y, xs, r, o, es, ep, h1, h2, h3, h4, fun x hx => ?_, h5⟩
  have all : ∀ {l : List (List Key × V)} {m : List (List Key × Addr × Value)}, KT H l m → ∀ x ∈ m, (tupleKind (mixKind P w)).is h x.1 x.2.1 := by
    intro l m q
    induction q with
    | nil => intro x hx; exact nomatch hx
    | @cons p q ps qs hq t ih =>
      intro x hx
      rcases List.mem_cons.mp hx with e | hx
      · subst e
        exact key_of ok (by rw [← hq.1]; exact hq.2.1)
      · exact ih x hx
  exact all r x hx
theorem dt_of {kvs : List (List Key × V)} (ok : HOk P w H h) (e : H a = some (.dT kvs)) : kvs.length ≤ sizeLine ∧ (a == sysModules) = false ∧
    ∃ xs, KT H kvs xs ∧ h.DictOfH (tupleKind (mixKind P w)) a xs := dt_rd ok (.inl e)
end
def DGet (H : Hp) (a : Addr) (y : V) (r : Option V) : Prop :=
  (∃ kvs k, Rd H a (.dK kvs) ∧ y = kV k ∧ r = valV kvs k) ∨ ∃ kvs k b, Rd H a (.dT kvs) ∧ y = .ref b ∧ H b = some (.tup (k.map kV)) ∧ r = valV kvs k
def DPut (H : Hp) (a : Addr) (y v : V) (H' : Hp) : Prop :=
  (∃ kvs k, H a = some (.dK kvs) ∧ y = kV k ∧ kvs.length < sizeLine ∧ H' = upd H a (.dK (putK kvs k v))) ∨
  ∃ kvs k b, H a = some (.dT kvs) ∧ y = .ref b ∧ H b = some (.tup (k.map kV)) ∧ kvs.length < sizeLine ∧ H' = upd H a (.dT (putK kvs k v))
theorem DGet.k {H : Hp} {a : Addr} {kvs : List (Key × V)} {k : Key} (e : H a = some (.dK kvs)) : DGet H a (kV k) (valV kvs k) := .inl ⟨kvs, k, .inl e, rfl, rfl⟩
theorem DPut.k {H : Hp} {a : Addr} {kvs : List (Key × V)} {k : Key} {v : V} (e : H a = some (.dK kvs)) (hl : kvs.length < sizeLine) : DPut H a (kV k) v (upd H a (.dK (putK kvs k v))) := .inl ⟨kvs, k, e, rfl, hl, rfl⟩
section
variable {X : Cx} {pins : List (Addr × Obj)} {σ : St} {H : Hp} {s : Shared} {a : Addr} {y v : V} {u r : Value} {o : Option V} {A : Around} {E : Value → Shared → Prop}
theorem Inv.big (I : Inv X pins σ H s) : sysModules < s.heap.objs.size := by
  have h : mainGlobals < s.heap.objs.size := (I.mod.glob.keeps I.bk).lt
  exact Nat.lt_trans (by decide) h
theorem d_getItem {Q : Value → Shared → Prop} (hu : A.units + 1 < cLine) (I : Inv X pins σ H s) (g : DGet H a y (some v)) (ry : RelV y u) (h : ∀ w' s', Inv X pins σ H s' → RelV v w' → Q w' s') :
    wpAny (model X.prog X.w) A (getItem (.ref a) u) Q E s := by
  rcases g with ⟨kvs, k, e, ey, l⟩ | ⟨kvs, k, b, e, ey, eb, l⟩
  · subst ey
    obtain ⟨z, hd, vs, rel, dd⟩ := dk_rd I.hok e
    obtain ⟨w', hw, rw'⟩ := RelO.some_of (v := v) (o := valueAt vs k) (by rw [l]; exact rel.val k)
    exact wpAny_getItem_of (kV_is ry) dd.mapOf hw (h w' _ (I.tok _) rw')
  · subst ey
    cases (show u = Value.ref b from ry)
    obtain ⟨z, hd, xs, rel, dd⟩ := dt_rd I.hok e
    obtain ⟨w', hw, rw'⟩ := RelO.some_of (v := v) (o := (atKey xs k).map (·.2)) (by rw [l]; exact rel.val k)
    obtain ⟨p, hp, hp2⟩ := Option.map_eq_some_iff.mp hw
    refine wpAny_getItem_heap (tupleKind_room_in1 hu) (key_of I.hok eb) dd hp ?_
    rw [hp2]
    exact h w' _ (I.tok _) rw'
theorem d_in {Q : Value → Shared → Prop} (hu : A.units + 1 < cLine) (I : Inv X pins σ H s) (g : DGet H a y o) (ry : RelV y u) (h : ∀ s', Inv X pins σ H s' → Q (.bool o.isSome) s') :
    wpAny (model X.prog X.w) A (compareOp .In u (.ref a)) Q E s := by
  rcases g with ⟨kvs, k, e, ey, l⟩ | ⟨kvs, k, b, e, ey, eb, l⟩
  · subst ey
    obtain ⟨z, hd, vs, rel, dd⟩ := dk_rd I.hok e
    refine wpAny_in_of (kV_is ry) hd dd.mapOf ?_
    rw [← (rel.val k).isSome_eq, ← l]
    exact h _ (I.tok _)
  · subst ey
    cases (show u = Value.ref b from ry)
    obtain ⟨z, hd, xs, rel, dd⟩ := dt_rd I.hok e
    refine wpAny_in_heap (tupleKind_room_in1 hu) (key_of I.hok eb) hd dd ?_
    have q := (rel.val k).isSome_eq
    rw [Option.isSome_map] at q
    rw [← q, ← l]
    exact h _ (I.tok _)
theorem d_notIn {Q : Value → Shared → Prop} (hu : A.units + 1 < cLine) (I : Inv X pins σ H s) (g : DGet H a y o) (ry : RelV y u) (h : ∀ s', Inv X pins σ H s' → Q (.bool (!o.isSome)) s') :
    wpAny (model X.prog X.w) A (compareOp .NotIn u (.ref a)) Q E s := by
  rcases g with ⟨kvs, k, e, ey, l⟩ | ⟨kvs, k, b, e, ey, eb, l⟩
  · subst ey
    obtain ⟨z, hd, vs, rel, dd⟩ := dk_rd I.hok e
    refine wpAny_notIn_of (kV_is ry) hd dd.mapOf ?_
    rw [← (rel.val k).isSome_eq, ← l]
    exact h _ (I.tok _)
  · subst ey
    cases (show u = Value.ref b from ry)
    obtain ⟨z, hd, xs, rel, dd⟩ := dt_rd I.hok e
    refine wpAny_notIn_heap (tupleKind_room_in1 hu) (key_of I.hok eb) hd dd ?_
    have q := (rel.val k).isSome_eq
    rw [Option.isSome_map] at q
    rw [← q, ← l]
    exact h _ (I.tok _)
theorem d_write {h' : Heap} {t' : Nat} {ob : HO} (I : Inv X pins σ H s) (mu : Mut (H a)) (hs : Heap.SameBut a s.heap h') (he : ∃ q, h'.get? a = some q) (new : ObjOk X.prog X.w (upd H a ob) h' a ob) :
    Inv X pins σ (upd H a ob) { s with heap := h', toks := t' } :=
  I.write (x := a) (e := a) mu (.inl rfl) (fun b q hb z => (hs.2 b hb).trans z) he new
theorem dk_new {P : Program} {w : World} {H' : Hp} {h' : Heap} {kvs : List (Key × V)} {vs : List (Key × Value)} (z : kvs.length ≤ sizeLine) (hd : (a == sysModules) = false) (rel : KV kvs vs) (dd : h'.DictOf (mixKind P w) a vs) :
    ObjOk P w H' h' a (.dK kvs) := ⟨z, hd, vs, rel, dd⟩
theorem d_setItem {H' : Hp} {Q : Unit → Shared → Prop} (hu : A.units + 1 < cLine) (I : Inv X pins σ H s) (g : DPut H a y v H') (ry : RelV y u) (rv : RelV v r) (h : ∀ s', Inv X pins σ H' s' → Q () s') :
    wpAny (model X.prog X.w) A (setItem (.ref a) u r) Q E s := by
  rcases g with ⟨kvs, k, e, ey, l, eH⟩ | ⟨kvs, k, b, e, ey, eb, l, eH⟩
  · subst ey eH
    obtain ⟨z, hd, vs, rel, dd⟩ := dk_of I.hok e
    have hz : vs.length ≤ sizeLine := by rw [← rel.length]; exact z
    have hl : (putK kvs k v).length ≤ sizeLine := by have := length_putK kvs k v; omega
    refine wpAny_setItem_pairs (hsz := hz) (kV_is ry) dd fun h' dd' hs => h _ ?_
    have he : ∃ q, h'.get? a = some q := let ⟨q, _, _, hq, _⟩ := dd'; ⟨q, hq⟩
    exact d_write I (by rw [e]; exact True.intro) hs he (dk_new hl hd (rel.put k rv) dd')
  · subst ey eH
    cases (show u = Value.ref b from ry)
    obtain ⟨z, hd, xs, rel, dd⟩ := dt_of I.hok e
    have hz : xs.length ≤ sizeLine := by rw [← Paired.length rel]; exact z
    have hl : (putK kvs k v).length ≤ sizeLine := by have := length_putK kvs k v; omega
    refine wpAny_setItem_heap (hsz := hz) (tupleKind_room_in1 hu) (key_of I.hok eb) dd fun h' dd' hs => h _ ?_
    obtain ⟨q, es, ep, hq, h2, h3, h4, _, h5⟩ := dd'
    refine d_write I (by rw [e]; exact True.intro) hs ⟨q, hq⟩ ⟨hl, hd, _, (rel.put k eb rv).keeps fun c ys ec => ?_, q, es, ep, hq, h2, h3, h4, h5⟩
    rw [upd_ne (ne_of ec e (fun z => nomatch z))]
    exact ec
end
section
variable {X : Cx} {pins : List (Addr × Obj)} {σ : St} {H : Hp} {s : Shared} {a : Addr} {kvs : List (Key × V)} {k : Key} {u : Value} {A : Around} {E : Value → Shared → Prop}
theorem d_delItem {Q : Unit → Shared → Prop} (I : Inv X pins σ H s) (e : H a = some (.dK kvs)) (ry : RelV (kV k) u) (l : (valV kvs k).isSome = true) (h : ∀ s', Inv X pins σ (upd H a (.dK (dropK kvs k))) s' → Q () s') :
    wpAny (model X.prog X.w) A (delItem (.ref a) u) Q E s := by
  obtain ⟨z, hd, vs, rel, dd⟩ := dk_of I.hok e
  refine wpAny_delItem_slot dd.typeIs (by decide) PySem.F.slot_dict_delitem
    (call_meetsIn PySem.F.slot_dict_delitem dd.typeIs PySem.F.entry_dict_delitem (PySem.F.args_dict_delitem_2 _ _) (meets_dict_delitem_pairs (mixKind X.prog X.w) a (kV_is ry)) ⟨vs, dd, by rw [← rel.length]; exact z, by rw [← (rel.val k).isSome_eq]; exact l, fun h' dd' hs => h _ ?_⟩)
  have he : ∃ q, h'.get? a = some q := let ⟨q, _, _, hq, _⟩ := dd'; ⟨q, hq⟩
  exact d_write I (by rw [e]; exact True.intro) hs he (dk_new (Nat.le_trans (dropK_le kvs k) z) hd (rel.drop k) dd')
theorem d_pop {v : V} {more : List Value} {Q : Value → Shared → Prop} (I : Inv X pins σ H s) (e : H a = some (.dK kvs)) (ry : RelV (kV k) u) (l : valV kvs k = some v) (hm : more = [] ∨ ∃ x, more = [x])
    (h : ∀ w' s', Inv X pins σ (upd H a (.dK (dropK kvs k))) s' → RelV v w' → Q w' s') : wpAny (model X.prog X.w) A (call (.builtin "dict.pop") (.ref a :: u :: more)) Q E s := by
  obtain ⟨z, hd, vs, rel, dd⟩ := dk_of I.hok e
  obtain ⟨w', hw, rw'⟩ := RelO.some_of (v := v) (o := valueAt vs k) (by rw [← l]; exact rel.val k)
  have hp : (keyPart u).isSome = true := by
    cases k with
    | inl i => obtain ⟨t, q⟩ := (show ∃ t, u = Value.int i t from ry); subst q; rfl
    | inr x => obtain ⟨t, q⟩ := (show ∃ t, u = Value.str x t from ry); subst q; rfl
  have ha : argsOk "dict.pop" ⟨.ref a :: u :: more, []⟩ := by
    rcases hm with q | ⟨x, q⟩
    · subst q; exact PySem.F.args_dict_pop_2 _ _
    · subst q; exact PySem.F.args_dict_pop_3 _ _ _
  refine call_meetsIn PySem.F.slot_dict_pop dd.typeIs PySem.F.entry_dict_pop ha (meets_dict_pop_there (mixKind X.prog X.w) a (kV_is ry) more hm hp)
    ⟨vs, w', dd, by rw [← rel.length]; exact z, hw, fun h' dd' hs => h w' _ ?_ rw'⟩
  have he : ∃ q, h'.get? a = some q := let ⟨q, _, _, hq, _⟩ := dd'; ⟨q, hq⟩
  exact d_write I (by rw [e]; exact True.intro) hs he (dk_new (Nat.le_trans (dropK_le kvs k) z) hd (rel.drop k) dd')
theorem d_popD {r : Value} {Q : Value → Shared → Prop} (I : Inv X pins σ H s) (e : H a = some (.dK kvs)) (ry : RelV (kV k) u) (l : valV kvs k = none) (h : ∀ s', Inv X pins σ H s' → Q r s') :
    wpAny (model X.prog X.w) A (call (.builtin "dict.pop") [.ref a, u, r]) Q E s := by
  obtain ⟨z, hd, vs, rel, dd⟩ := dk_of I.hok e
  have hn : valueAt vs k = none := RelO.none_of (by rw [← l]; exact rel.val k)
  have hp : (keyPart u).isSome = true := by
    cases k with
    | inl i => obtain ⟨t, q⟩ := (show ∃ t, u = Value.int i t from ry); subst q; rfl
    | inr x => obtain ⟨t, q⟩ := (show ∃ t, u = Value.str x t from ry); subst q; rfl
  exact call_meetsIn PySem.F.slot_dict_pop dd.typeIs PySem.F.entry_dict_pop (PySem.F.args_dict_pop_3 _ _ _) (meets_dict_pop_default (mixKind X.prog X.w) a (kV_is ry) hd hp r) ⟨vs, dd, hn, h _ (I.tok _)⟩
theorem d_len {Q : Value → Shared → Prop} (I : Inv X pins σ H s) (e : Rd H a (.dK kvs)) (h : ∀ t s', Inv X pins σ H s' → Q (.int kvs.length t) s') : wpAny (model X.prog X.w) A (call (.builtin "len") [.ref a]) Q E s := by
  obtain ⟨z, hd, vs, rel, dd⟩ := dk_rd I.hok e
  refine call_len_dict hd dd (by rw [← rel.length]; rw [sizeLine_eq] at z; omega) ?_
  rw [← rel.length]
  exact h _ _ (I.tok _)
end
def NoSl (i : Expr) : Prop := ∀ ov iv, subscripted i false ov iv = operate [ov, iv] (getItem ov iv)
theorem subD_of {prog : Program} {w : World} {A : Around} {E : Value → Shared → Prop} {s : Shared} {env : Env} {value slice : Expr} {pos : Pos} {T id : String} {Q : Value → Shared → Prop}
    (hl : typeLookup (.type T) "__getitem__" = pure (some (.builtin id))) (hs : NoSl slice)
    (h : wpAny (model prog w) A (eval value env) (fun o s₁ => wpAny (model prog w) A (eval slice env) (fun i s₂ => s₂.TypeIs o T ∧ wpAny (model prog w) A (getItem o i) Q E s₂) E s₁) E s) :
    wpAny (model prog w) A (eval (.Subscript value slice pos) env) Q E s := by
  refine Subscript_ (wpAny_mono h (fun o s₁ h₁ => wpAny_mono h₁ (fun i s₂ h₂ => ?_) fun _ _ x => x) fun _ _ x => x)
  obtain ⟨hT, h₂⟩ := h₂
  unfold subscriptTail
  refine wpAny_bind ?_
  rw [getitemInPython_of_ne hT.not_modules]
  refine wpAny_bind (wpAny_specialOf hT hl ?_)
  have fin : wpAny (model prog w) A (subscripted slice false o i) (fun r s₃ => wpAny (model prog w) A (letTemporaryGo value o r >>= fun _ => pure r) Q E s₃) E s₂ := by
    rw [hs o i]
    exact wpAny_operating (wpAny_mono h₂ (fun r s₃ h₃ => wpAny_bind (wpAny_letTemporaryGo (wpAny_pure h₃))) fun _ _ x => x)
  first
    | exact wpAny_pure (wpAny_bind fin)
    | exact wpAny_bind (wpAny_pure (wpAny_bind fin))
    | exact wpAny_bind fin
theorem dict_typeIs {X : Cx} {pins : List (Addr × Obj)} {σ : St} {H : Hp} {s : Shared} {a : Addr} {y : V} {o : Option V} (I : Inv X pins σ H s) (g : DGet H a y o) : s.TypeIs (.ref a) "dict" := by
  rcases g with ⟨kvs, k, e, _, _⟩ | ⟨kvs, k, b, e, _, _, _⟩
  · obtain ⟨_, _, vs, _, dd⟩ := dk_rd I.hok e
    exact dd.typeIs
  · obtain ⟨_, _, xs, _, dd⟩ := dt_rd I.hok e
    exact dd.typeIs
def tDGet (td ty : TE) : TE := fun σ H Q => td σ H fun x H1 => ty σ H1 fun y H2 => ∃ a v, x = .ref a ∧ DGet H2 a y (some v) ∧ Q v H2
def tDIn (ty td : TE) : TE := fun σ H Q => ty σ H fun y H1 => td σ H1 fun x H2 => ∃ a o, x = .ref a ∧ DGet H2 a y o ∧ Q (.bl o.isSome) H2
def tDNotIn (ty td : TE) : TE := fun σ H Q => ty σ H fun y H1 => td σ H1 fun x H2 => ∃ a o, x = .ref a ∧ DGet H2 a y o ∧ Q (.bl (!o.isSome)) H2
def sDPut (td ty tv : TE) : TS := fun D σ H => tv σ H fun v H1 => td σ H1 fun x H2 => ty σ H2 fun y H3 => ∃ a H4, x = .ref a ∧ DPut H3 a y v H4 ∧ D.nx σ H4
section
variable {X : Cx} {o i e value : Expr} {pos pos' tpos : Pos} {td ty tv : TE}
theorem pe_dget (hu : X.A.units + 1 < cLine) (ho : PE X o td) (hi : PE X i ty) (hs : NoSl i) : PE X (.Subscript o i pos) (tDGet td ty) := by
  intro pins s σ H Q I h
  refine subD_of PySem.F.slot_dict_getitem.lookup hs (thn (ho pins s σ H _ I h) fun u s1 ⟨x, H1, I1, rx, q1⟩ => thn (hi pins s1 σ H1 _ I1 q1) fun iv s2 ⟨y, H2, I2, ry, a, v, ex, g, q2⟩ => ?_)
  subst ex
  obtain rfl : u = Value.ref a := rx
  exact ⟨dict_typeIs I2 g, d_getItem hu I2 g ry fun w' s3 I3 rw' => ⟨v, H2, I3, rw', q2⟩⟩
theorem pc_din (hu : X.A.units + 1 < cLine) (hi : PE X i ty) (ho : PE X o td) : PC X .In i o (tDIn ty td) := by
  intro pins s σ H Q I h
  refine thn (hi pins s σ H _ I h) fun iv s1 ⟨y, H1, I1, ry, q1⟩ => thn (ho pins s1 σ H1 _ I1 q1) fun u s2 ⟨x, H2, I2, rx, a, ov, ex, g, q2⟩ => ?_
  subst ex
  obtain rfl : u = Value.ref a := rx
  exact d_in hu I2 g ry fun s3 I3 => ⟨.bl ov.isSome, H2, I3, rfl, q2⟩
theorem pc_dnotin (hu : X.A.units + 1 < cLine) (hi : PE X i ty) (ho : PE X o td) : PC X .NotIn i o (tDNotIn ty td) := by
  intro pins s σ H Q I h
  refine thn (hi pins s σ H _ I h) fun iv s1 ⟨y, H1, I1, ry, q1⟩ => thn (ho pins s1 σ H1 _ I1 q1) fun u s2 ⟨x, H2, I2, rx, a, ov, ex, g, q2⟩ => ?_
  subst ex
  obtain rfl : u = Value.ref a := rx
  exact d_notIn hu I2 g ry fun s3 I3 => ⟨.bl (!ov.isSome), H2, I3, rfl, q2⟩
theorem ps_dput (hu : X.A.units + 1 < cLine) (ho : PE X o td) (hi : PE X i ty) (hv : PE X value tv) (hs : swapsWith value (some (.Subscript o i pos')) pos.line X.env = pure false) :
    PS X (.Assign [.Subscript o i pos'] value pos) (sDPut td ty tv) := by
  intro pins s σ H D I h
  refine wpAny_Assign_Subscript (thn (hv pins s σ H _ I h) fun r s1 ⟨v, H1, I1, rv, q1⟩ => thn (ho pins s1 σ H1 _ I1 q1) fun u s2 ⟨x, H2, I2, rx, q2⟩ => thn (hi pins s2 σ H2 _ I2 q2) fun iv s3 ⟨y, H3, I3, ry, a, H4, ex, g, q3⟩ => ?_) hs
  subst ex
  obtain rfl : u = Value.ref a := rx
  exact d_setItem hu I3 g ry rv fun s4 I4 => ⟨σ, H4, I4, q3⟩
end
theorem dk_empty {P : Program} {w : World} {H : Hp} (h : Heap) (hb : sysModules < h.objs.size) : ObjOk P w H (h.push { cls := .type "dict", data := .dict #[] }) h.objs.size (.dK []) :=
  ⟨Nat.zero_le _, beq_eq_false_iff_ne.mpr (Ne.symm (Nat.ne_of_lt hb)), [], .nil, Heap.DictOf.new h⟩
def tDNewK : TE := fun _ H Q => ∀ p, H p = none → Q (.ref p) (upd H p (.dK []))
section
variable {X : Cx} {pos : Pos}
theorem pe_dnewK : PE X (.Dict [] [] pos) tDNewK := fun pins s σ H Q I h =>
  wpAny_Dict_empty ⟨.ref s.heap.objs.size, _, I.laid (a := s.heap.objs.size) (o := .dK []) (t' := s.toks) (fun _ _ q => Heap.get?_push_of_some _ q) (Nat.le_refl _) (dk_empty s.heap I.big), rfl, h _ (I.hok.fresh (Nat.le_refl _))⟩
end
def tPairs : List (TE × TE) → St → Hp → (List (V × V) → Hp → Prop) → Prop
  | [], _, H, Q => Q [] H
  | (tk, tv) :: r, σ, H, Q => tk σ H fun x H1 => tv σ H1 fun y H2 => tPairs r σ H2 fun ps H3 => Q ((x, y) :: ps) H3
abbrev VV : List (V × V) → List (Value × Value) → Prop := Paired fun p q => RelV p.1 q.1 ∧ RelV p.2 q.2
def PPs (X : Cx) (pos : Pos) (keys : List (Option Expr)) (values : List Expr) (trs : List (TE × TE)) : Prop :=
  ∀ (pins : List (Addr × Obj)) (s : Shared) (σ : St) (H : Hp) (Q : List (V × V) → Hp → Prop), Inv X pins σ H s → tPairs trs σ H Q →
    wpAny (model X.prog X.w) X.A (evalPairs (pairTrees keys values X.env pos)) (fun vs s' => ∃ ps H', Inv X pins σ H' s' ∧ VV ps vs ∧ Q ps H') X.xe s
theorem pps_nil {X : Cx} {pos : Pos} : PPs X pos [] [] [] := fun pins s σ H Q I h => pairTrees_nil_walk ⟨[], H, I, .nil, h⟩
theorem pps_cons {X : Cx} {pos : Pos} {k v : Expr} {ks : List (Option Expr)} {vs : List Expr} {tk tv : TE} {trs : List (TE × TE)} (hk : PE X k tk) (hv : PE X v tv) (hr : PPs X pos ks vs trs) :
    PPs X pos (some k :: ks) (v :: vs) ((tk, tv) :: trs) := fun pins s σ H Q I h =>
  pairTrees_cons_walk (thn (hk pins s σ H _ I h) fun u s1 ⟨x, H1, I1, rx, q1⟩ => thn (hv pins s1 σ H1 _ I1 q1) fun w2 s2 ⟨y, H2, I2, ry, q2⟩ =>
    thn (hr pins s2 σ H2 _ I2 q2) fun ws s3 ⟨ps, H3, I3, rel, q3⟩ => ⟨(x, y) :: ps, H3, I3, .cons ⟨rx, ry⟩ rel, q3⟩)
def mergeK (kvs more : List (Key × V)) : List (Key × V) := more.foldl (fun acc kv => putK acc kv.1 kv.2) kvs
theorem KV.merge : ∀ {more : List (Key × V)} {rs : List (Key × Value)} {kvs : List (Key × V)} {vs : List (Key × Value)}, KV more rs → KV kvs vs → KV (mergeK kvs more) (merged vs rs) := by
  intro more rs kvs vs r
  unfold KV at r
  induction r generalizing kvs vs with
  | nil => intro q; exact q
  | @cons p q ps qs h t ih =>
    intro r0
    have e : KV (putK kvs p.1 p.2) (stored vs q.1 q.2) := by
      have := r0.put p.1 h.2
      rw [← h.1]; exact this
    exact ih e
theorem length_mergeK : ∀ (more kvs : List (Key × V)), (mergeK kvs more).length ≤ kvs.length + more.length
  | [], kvs => by show kvs.length ≤ kvs.length + 0; omega
  | p :: r, kvs => by
    have h1 := length_mergeK r (putK kvs p.1 p.2)
    have h2 := length_putK kvs p.1 p.2
    show (mergeK (putK kvs p.1 p.2) r).length ≤ _
    rw [List.length_cons]; omega
theorem carries_of {P : Program} {w : World} : ∀ {kvs : List (Key × V)} {ws : List (Value × Value)}, VV (kvs.map fun kv => (kV kv.1, kv.2)) ws → ∃ rs, Carries (mixKind P w) ws rs ∧ KV kvs rs
  | [], _, r => by rw [List.map_nil] at r; cases r; exact ⟨[], True.intro, .nil⟩
  | p :: kvs, _, r => by
    rw [List.map_cons] at r
    cases r with
    | @cons a b as bs h t =>
      obtain ⟨rs, c, q⟩ := carries_of (P := P) (w := w) t
      obtain ⟨b1, b2⟩ := b
      exact ⟨(p.1, b2) :: rs, ⟨kV_is h.1, rfl, c⟩, .cons ⟨rfl, h.2⟩ q⟩
def tDisp (trs : List (TE × TE)) : TE := fun σ H Q => ∀ p, H p = none → tPairs trs σ (upd H p (.dK [])) fun ps H2 => H2 p = some (.dK []) ∧ ∃ kvs : List (Key × V), ps = kvs.map (fun kv => (kV kv.1, kv.2)) ∧ kvs.length ≤ 15 ∧ Q (.ref p) (upd H2 p (.dK (mergeK [] kvs)))
theorem pe_disp {X : Cx} {pos : Pos} {keys : List (Option Expr)} {values : List Expr} {trs : List (TE × TE)} (h : PPs X pos keys values trs) (hall : keys.all (·.isSome) = true) (hl : keys.length = values.length) (h0 : keys ≠ [])
    (h15 : keys.length ≤ 15) : PE X (.Dict keys values pos) (tDisp trs) := by
  intro pins s σ H Q I q
  have hn := I.hok.fresh (Nat.le_refl s.heap.objs.size)
  have I1 := I.laid (a := s.heap.objs.size) (o := .dK []) (h' := s.heap.push { cls := .type "dict", data := .dict #[] }) (t' := s.toks) (fun _ _ q => Heap.get?_push_of_some _ q) (Nat.le_refl _) (dk_empty s.heap I.big)
  refine wpAny_Dict_walk (knd := mixKind X.prog X.w) hall hl h0 h15 (thn (h pins _ σ _ _ I1 (q _ hn)) fun ws s2 ⟨ps, H2, I2, rel, e, kvs, ep, lk, q2⟩ => ?_)
  subst ep
  obtain ⟨rs, c, rk⟩ := carries_of (P := X.prog) (w := X.w) rel
  obtain ⟨z, hd, vs0, r0, dd⟩ := dk_of I2.hok e
  cases r0
  refine ⟨rs, c, dd, fun h' dd' hs => ⟨.ref s.heap.objs.size, _, ?_, rfl, q2⟩⟩
  have hz : (mergeK [] kvs).length ≤ sizeLine := by
    have h1 := length_mergeK kvs []
    rw [List.length_nil] at h1
    rw [sizeLine_eq]; omega
  have he : ∃ q, h'.get? s.heap.objs.size = some q := let ⟨q, _, _, hq, _⟩ := dd'; ⟨q, hq⟩
  exact d_write I2 (by rw [e]; exact True.intro) hs he (dk_new hz hd (rk.merge .nil) dd')
structure M1 (X : Cx) (o : Expr) (m : Str) (apos : Pos) (e : Expr) (cpos : Pos) : Prop where
  base : attributeBase o m X.env (eval o X.env) = eval o X.env
  few : ((backTo cpos (starEach [e] X.env)).all (fun x => !x.1) && (backToKw cpos (keywordEach [] X.env)).all (fun x => x.1.isSome)
    && decide (([e] : List Expr).length + ([] : List Keyword).length + (if ([] : List Keyword).isEmpty then 0 else 1) < 30)) = true
  line : (apos.endLine == cpos.line) = true
  trees : backTo cpos (starEach [e] X.env) = [(false, eval e X.env)]
structure M2 (X : Cx) (o : Expr) (m : Str) (apos : Pos) (e f : Expr) (cpos : Pos) : Prop where
  base : attributeBase o m X.env (eval o X.env) = eval o X.env
  few : ((backTo cpos (starEach [e, f] X.env)).all (fun x => !x.1) && (backToKw cpos (keywordEach [] X.env)).all (fun x => x.1.isSome)
    && decide (([e, f] : List Expr).length + ([] : List Keyword).length + (if ([] : List Keyword).isEmpty then 0 else 1) < 30)) = true
  line : (apos.endLine == cpos.line) = true
  trees : backTo cpos (starEach [e, f] X.env) = [(false, eval e X.env), (false, eval f X.env)]
def IsD (H : Hp) (a : Addr) : Prop := (∃ kvs, Rd H a (.dK kvs)) ∨ ∃ kvs, Rd H a (.dT kvs)
theorem isD_at {X : Cx} {pins : List (Addr × Obj)} {σ : St} {H : Hp} {s : Shared} {a : Addr} (I : Inv X pins σ H s) (d : IsD H a) :
    s.TypeIs (.ref a) "dict" ∧ (∀ b, Value.ref a = .ref b → ∃ ob, s.heap.get? b = some ob ∧ ob.dict = none) ∧ (a == sysModules) = false := by
  rcases d with ⟨kvs, e⟩ | ⟨kvs, e⟩
  · obtain ⟨_, hd, vs, _, dd⟩ := dk_rd I.hok e
    refine ⟨dd.typeIs, fun b q => ?_, hd⟩
    cases q
    obtain ⟨ob, _, _, h1, h2, _⟩ := dd
    exact ⟨ob, h1, h2.2.1⟩
  · obtain ⟨_, hd, xs, _, dd⟩ := dt_rd I.hok e
    refine ⟨dd.typeIs, fun b q => ?_, hd⟩
    cases q
    obtain ⟨ob, _, _, h1, h2, _⟩ := dd
    exact ⟨ob, h1, h2.2.1⟩
section
variable {X : Cx} {pins : List (Addr × Obj)} {σ : St} {H : Hp} {s : Shared} {a : Addr} {y d : V} {u r : Value} {o : Option V} {A : Around} {E : Value → Shared → Prop}
end
def tDPop1 (td ty : TE) : TE := fun σ H Q => td σ H fun x H1 => ∃ a, x = .ref a ∧ IsD H1 a ∧ ty σ H1 fun y H2 => ∃ kvs k v, H2 a = some (.dK kvs) ∧ y = kV k ∧ valV kvs k = some v ∧ Q v (upd H2 a (.dK (dropK kvs k)))
def tDPop2 (td ty tx : TE) : TE := fun σ H Q => td σ H fun x H1 => ∃ a, x = .ref a ∧ IsD H1 a ∧ ty σ H1 fun y H2 => tx σ H2 fun z H3 => ∃ kvs k, H3 a = some (.dK kvs) ∧ y = kV k ∧
  (∀ v, valV kvs k = some v → Q v (upd H3 a (.dK (dropK kvs k)))) ∧ (valV kvs k = none → Q z H3)
section
variable {X : Cx} {o e f : Expr} {apos cpos : Pos} {td ty tx : TE}
theorem pe_dpop1 (ho : PE X o td) (he : PE X e ty) (m : M1 X o "pop" apos e cpos) : PE X (.Call (.Attribute o "pop" apos) [e] [] cpos) (tDPop1 td ty) := by
  intro pins s σ H Q I h
  refine wpAny_Call_method m.base m.few m.line PySem.F.plainAttrs_dict PySem.F.slot_dict_pop PySem.F.type_dict_pop (thn (ho pins s σ H _ I h) fun u s1 ⟨x, H1, I1, rx, a, ex, d, q1⟩ => ?_)
  subst ex
  obtain rfl : u = Value.ref a := rx
  obtain ⟨t1, t2, _⟩ := isD_at I1 d
  refine ⟨t1, t2, ?_⟩
  rw [m.trees]
  refine Calls.callWith_builtin rfl (Calls.evalArgs_plain (Calls.spliced_cons (thn (he pins s1 σ H1 _ I1 q1) fun iv s2 ⟨y, H2, I2, ry, kvs, k, v, ea, ey, l, q2⟩ => Calls.spliced_nil ?_)))
  subst ey
  exact d_pop I2 ea ry l (.inl rfl) fun w' s3 I3 rw' => ⟨v, _, I3, rw', q2⟩
theorem pe_dpop2 (ho : PE X o td) (he : PE X e ty) (hf : PE X f tx) (m : M2 X o "pop" apos e f cpos) : PE X (.Call (.Attribute o "pop" apos) [e, f] [] cpos) (tDPop2 td ty tx) := by
  intro pins s σ H Q I h
  refine wpAny_Call_method m.base m.few m.line PySem.F.plainAttrs_dict PySem.F.slot_dict_pop PySem.F.type_dict_pop (thn (ho pins s σ H _ I h) fun u s1 ⟨x, H1, I1, rx, a, ex, d, q1⟩ => ?_)
  subst ex
  obtain rfl : u = Value.ref a := rx
  obtain ⟨t1, t2, _⟩ := isD_at I1 d
  refine ⟨t1, t2, ?_⟩
  rw [m.trees]
  refine Calls.callWith_builtin rfl (Calls.evalArgs_plain (Calls.spliced_cons (thn (he pins s1 σ H1 _ I1 q1) fun iv s2 ⟨y, H2, I2, ry, q2⟩ =>
    Calls.spliced_cons (thn (hf pins s2 σ H2 _ I2 q2) fun fv s3 ⟨z, H3, I3, rz, kvs, k, ea, ey, q3, q4⟩ => Calls.spliced_nil ?_))))
  subst ey
  cases l : valV kvs k with
  | some v => exact d_pop I3 ea ry l (.inr ⟨fv, rfl⟩) fun w' s4 I4 rw' => ⟨v, _, I4, rw', q3 v l⟩
  | none => exact d_popD I3 ea ry l fun s4 I4 => ⟨z, H3, I4, rz, q4 l⟩
end
section
variable {X : Cx} {pins : List (Addr × Obj)} {σ : St} {H : Hp} {s : Shared} {a : Addr} {kvs : List (Key × V)} {A : Around} {E : Value → Shared → Prop}
end
section
variable {X : Cx} {pins : List (Addr × Obj)} {σ : St} {H : Hp} {s : Shared} {a : Addr} {y : V} {u : Value} {A : Around} {E : Value → Shared → Prop}
end
end L2
namespace L2
open PySem PySem.Spec PyProof.Rows
section
variable {prog : Program} {w : World} {A : Around} {E : Value → Shared → Prop}
end
section
variable {X : Cx}
end
end L2
namespace L2
open PySem PySem.Spec PyProof.Rows
theorem boot_reversed5 : bootBuiltins "reversed" = some (.type "reversed") := by decide +kernel
section
variable {X : Cx} {pins : List (Addr × Obj)} {σ : St} {H : Hp} {s : Shared} {h' : Heap}
theorem Inv.turnedL {t' : Nat} {ch : List Addr} (I : Inv X pins σ H s) (k : ∀ b o, b ∉ ch → s.heap.get? b = some o → h'.get? b = some o) (hf : ∀ b ∈ ch, FpOk X pins H b) : Inv X pins σ H { s with heap := h', toks := t' } := by
  have nit : ∀ b u, H b = some u → b ∉ ch := fun b u e z => by
    have q := (hf b z).1
    rw [q] at e; cases e
  refine I.step (g' := s.gens) (d' := s.drawn) (ch := ch) (fun b hb => ⟨(hf b hb).2.2.2.1, (hf b hb).2.1, (hf b hb).2.2.2.2.1, (hf b hb).2.2.2.2.2⟩) (fun b o _ _ hc e _ => k b o hc e) (fun b o _ _ hc e _ => ⟨o.slots, k b o hc e⟩)
    (fun _ _ _ _ n => n) (fun b o hc e => ⟨o, k b o hc e⟩) (fun _ _ e => e) (fun _ _ _ e => e) (fun b ps e => ⟨#[], by rw [e]; simp⟩) (fun m hm => ?_) (fun b u e => ?_) I.bare
  · obtain ⟨o, es, ep, ho, r⟩ := hm
    exact ⟨o, es, ep, k _ o (fun z => (hf _ z).2.1 rfl) ho, r⟩
  · refine (I.hok b u e).stay (fun c v hc q => k c v ?_ q) (fun _ q => q) fun _ _ q => q
    rcases hc with z | z
    · rw [z]; exact nit b u e
    · exact nit c _ z
theorem Inv.turnedNew {t' : Nat} {ch : List Addr} {T : Addr} {ob : HO} (I : Inv X pins σ H s) (k : ∀ b o, b ∉ ch → s.heap.get? b = some o → h'.get? b = some o) (hf : ∀ b ∈ ch, FpOk X pins H b) (hT : s.heap.objs.size ≤ T)
    (new : ObjOk X.prog X.w (upd H T ob) h' T ob) : Inv X pins σ (upd H T ob) { s with heap := h', toks := t' } := by
  have hn : H T = none := I.hok.fresh hT
  have nit : ∀ b u, H b = some u → b ∉ ch := fun b u e z => by
    have q := (hf b z).1
    rw [q] at e; cases e
  refine I.step (g' := s.gens) (d' := s.drawn) (ch := ch) (fun b hb => ⟨(hf b hb).2.2.2.1, (hf b hb).2.1, (hf b hb).2.2.2.2.1, (hf b hb).2.2.2.2.2⟩) (fun b o _ _ hc e _ => k b o hc e) (fun b o _ _ hc e _ => ⟨o.slots, k b o hc e⟩)
    (fun b o _ e n => ?_) (fun b o hc e => ⟨o, k b o hc e⟩) (fun b xs e => ?_) (fun b o u e => ?_) (fun b ps e => ⟨#[], ?_⟩) (fun m hm => ?_) (fun b u e => ?_) I.bare
  · rw [upd_ne (Nat.ne_of_lt (Nat.lt_of_lt_of_le (Heap.lt_size e) hT))]; exact n
  · rw [upd_ne (ne_of_none e hn)]; exact e
  · rw [upd_ne (ne_of_none e hn)]; exact e
  · rw [upd_ne (ne_of_none e hn), e]; simp
  · obtain ⟨o, es, ep, ho, r⟩ := hm
    exact ⟨o, es, ep, k _ o (fun z => (hf _ z).2.1 rfl) ho, r⟩
  · by_cases hb : b = T
    · subst hb
      rw [upd_same] at e
      cases e
      exact new
    · rw [upd_ne hb] at e
      refine (I.hok b u e).stay (fun c v hc q => k c v ?_ q) (fun c q => by rw [upd_ne (ne_of_none q hn)]; exact q) fun c xs q => by rw [upd_ne (ne_of_none q hn)]; exact q
      rcases hc with z | z
      · rw [z]; exact nit b u e
      · exact nit c _ z
end
section
variable {X : Cx}
theorem pi_one {tg : Expr} {pins : List (Addr × Obj)} {σ : St} {H : Hp} {s : Shared} {R : It → Hp → Prop} {J : It} {tn : Nat → Heap → Prop} {tk : Nat} (I : Inv X pins σ H s) (o : Obj)
    (T : Turn X.prog X.w X.K tg J [s.heap.objs.size] s.heap.objs.size tn) (st : tn 0 (s.heap.push o)) (q : R J H) : PIE X pins σ tg R (.ref s.heap.objs.size) { s with heap := s.heap.push o, toks := tk } := by
  refine ⟨s.heap.objs.size, [s.heap.objs.size], tn, J, H, rfl, I.kept fun b ob e => Heap.get?_push_of_some _ e, T, st, fun b hb => ?_, q⟩
  have e : b = s.heap.objs.size := by simpa using hb
  subst e
  exact I.fpOk (Nat.le_refl _) (I.hok.fresh (Nat.le_refl _))
end
section
variable {X : Cx} {tg : Expr}
end
def Itv (K : PySem.W.Frag) (a : Addr) (n : Nat) : It :=
  ⟨fun i H => i < n ∧ ∃ (xs : List V) (x : V), SqL K H a xs ∧ xs[n - 1 - i]? = some x, fun i H x H' => H' = H ∧ ∀ xs, SqL K H a xs → xs[n - 1 - i]? = some x, fun i _ => n ≤ i⟩
theorem turn_rev {P : Program} {w : World} {K : PySem.W.Frag} {tg : Expr} (a it : Addr) (n : Nat) : Turn P w K tg (Itv K a n) [it] it (fun i h => i ≤ n ∧ h.IsRevIter it a ((n : Int) - 1 - (i : Nat))) where
  mem := by simp
  obj := fun i h st b hb => by
    have e : b = it := by simpa using hb
    subst e
    obtain ⟨_, o, e, c, d⟩ := st
    exact ⟨o, e, fun v z => by rw [d] at z; cases z⟩
  keep := fun i h h' st k => ⟨st.1, st.2.at fun o e => k it (by simp) o e⟩
  item := by
    intro X hP hw hK hc i pins s σ H E I hf st hg
    subst hP hw hK
    obtain ⟨hin, xs, x, hq, hx⟩ := hg
    obtain ⟨its, rv, p, hz⟩ := I.list hq
    obtain ⟨u, hu, ru⟩ := rv.get hx
    obtain ⟨f0, f1, f2, f3, f4, f5⟩ := hf it (by simp)
    obtain ⟨_, hit⟩ := st
    have e1 : (n : Int) - 1 - ((i : Nat) : Int) = ((n - 1 - i : Nat) : Int) := by omega
    rw [e1] at hit
    refine wpAny_pyNext_rev_item hit p.isList (x := u) (by simpa using hu) fun h' st' sb => ?_
    have e2 : ((n - 1 - i : Nat) : Int) - 1 = (n : Int) - 1 - ((i + 1 : Nat) : Int) := by omega
    rw [e2] at st'
    have I1 : Inv X pins σ H { s with heap := h' } := I.turned (t' := s.toks) (fun b o hb e => (sb.2 b hb).trans e) f0 f1 f3 f4 f5
    obtain ⟨o, e, c, d⟩ := id st'
    exact ⟨u, rfl, go_of (s := { s with heap := h' }) e c d (by decide) ⟨x, H, I1, ru, ⟨rfl, fun ys hy => by rw [I.list_inj hy hq]; exact hx⟩, ⟨hin, st'⟩, fun b hb => (hf b hb).1⟩⟩
  done := by
    intro X hP hw hK hc i pins s σ H E I hf st hg
    subst hP hw hK
    obtain ⟨f0, f1, f2, f3, f4, f5⟩ := hf it (by simp)
    obtain ⟨hin, hit⟩ := st
    have hge : n ≤ i := hg
    have e1 : (n : Int) - 1 - ((i : Nat) : Int) = -1 := by omega
    rw [e1] at hit
    exact wpAny_pyNext_rev_end (I.ok.hd hc) hit fun h' eb => ⟨rfl, I.turned (t' := s.toks) (fun b o hb e => eb b o hb e) f0 f1 f3 f4 f5⟩
  self := fun A i s Q E st h => wpAny_pyIter_revIter st.2 h
def iRev (K : PySem.W.Frag) (ta : TA) : TI := fun σ H R => ta σ H fun vs H1 => ∃ (a : Addr) (xs : List V), vs = [.ref a] ∧ SqL K H1 a xs ∧ R (Itv K a xs.length) H1
section
variable {X : Cx} {tg : Expr}
theorem pi_reversed {e : Expr} {ta : TA} {p pos : Pos} (hg : Gl X "reversed") (hm : X.mg "reversed" = none) (ha : PA X [e] ta) (hs : starEach [e] X.env = [(false, eval e X.env)] := by rfl) : PI X tg (.Call (.Name "reversed" p) [e] [] pos) (iRev X.K ta) := by
  intro pins s σ H R I h
  refine Call_ (ld_blt I hg hm boot_reversed5 (PyProof.Rows.callWith_type1 (thn (ha pos pins s σ H _ I h) fun us s1 ⟨vs, H1, I1, r1, q1⟩ => ?_) hs rfl))
  obtain ⟨a, xs, e, hq, q⟩ := q1
  subst e
  cases r1 with
  | cons r rr =>
    cases rr
    cases r
    obtain ⟨its, rv, p', hz⟩ := I1.list hq
    have hl := rv.length
    have e1 : ((its.toArray.size : Nat) : Int) - 1 = (xs.length : Int) - 1 - ((0 : Nat) : Int) := by simp only [List.size_toArray]; omega
    refine call_reversed_list p'.isList (wpAny_pyIter_revIter (l := a) (i := ((its.toArray.size : Nat) : Int) - 1) ⟨_, Heap.get?_push_size _ rfl, rfl, rfl⟩ ?_)
    refine pi_one (tk := s1.toks) I1 _ (turn_rev a _ xs.length) ⟨Nat.zero_le _, ?_⟩ q
    rw [← e1]
    exact ⟨_, Heap.get?_push_size _ rfl, rfl, rfl⟩
end
section
variable {prog : Program} {w : World} {A : Around} {E : Value → Shared → Prop} {s : Shared}
end
section
variable {X : Cx} {pins : List (Addr × Obj)} {σ : St} {H : Hp} {s : Shared} {d : Addr} {o : Obj}
end
section
variable {P : Program} {w : World} {K : PySem.W.Frag} {tg : Expr} {d : Addr} {o : Obj} {es : Array DictEntry} {ep : Nat}
end
section
variable {X : Cx} {tg e : Expr} {td : TE} {apos cpos : Pos}
end
theorem boot_zip5 : bootBuiltins "zip" = some (.type "zip") := by decide +kernel
def Itz (K : PySem.W.Frag) (a b : Addr) : It :=
  ⟨fun i H => ∃ (xs ys : List V) (x y : V), SqL K H a xs ∧ SqL K H b ys ∧ xs[i]? = some x ∧ ys[i]? = some y,
    fun i H v H' => ∃ T x y, v = .ref T ∧ H T = none ∧ H' = upd H T (.tup [x, y]) ∧ (∀ xs, SqL K H a xs → xs[i]? = some x) ∧ ∀ ys, SqL K H b ys → ys[i]? = some y,
    fun i H => ∃ xs ys : List V, SqL K H a xs ∧ SqL K H b ys ∧ (xs.length ≤ i ∨ ys.length ≤ i)⟩
theorem turn_zip {P : Program} {w : World} {K : PySem.W.Frag} {elts : List Expr} {kk : Nat} {tpos : Pos} {a b z TI TO i1 i2 : Addr} (D : ZipApart z TI TO i1 i2 a b) :
    Turn P w K (.Tuple elts kk tpos) (Itz K a b) [z, TI, TO, i1, i2] z (fun i h => IsZip h z TI TO .none ∧ IsPair h TI (.ref i1) (.ref i2) ∧ (∃ x y, IsPair h TO x y) ∧ h.IsListIter i1 a i ∧ h.IsListIter i2 b i) where
  mem := by simp
  obj := fun i h st c hc => by
    obtain ⟨hz, hTI, ⟨x, y, hTO⟩, ⟨o1, e1, _, d1⟩, ⟨o2, e2, _, d2⟩⟩ := st
    have e' : c = z ∨ c = TI ∨ c = TO ∨ c = i1 ∨ c = i2 := by simpa using hc
    rcases e' with q | q | q | q | q
    · rw [q]; exact ⟨_, hz, fun v q => nomatch q⟩
    · rw [q]; exact ⟨_, hTI, fun v q => nomatch q⟩
    · rw [q]; exact ⟨_, hTO, fun v q => nomatch q⟩
    · rw [q]; exact ⟨o1, e1, fun v q => by rw [d1] at q; cases q⟩
    · rw [q]; exact ⟨o2, e2, fun v q => by rw [d2] at q; cases q⟩
  keep := fun i h h' st k => by
    obtain ⟨hz, hTI, ⟨x, y, hTO⟩, h1, h2⟩ := st
    exact ⟨k z (by simp) _ hz, k TI (by simp) _ hTI, ⟨x, y, k TO (by simp) _ hTO⟩, h1.at fun o q => k i1 (by simp) o q, h2.at fun o q => k i2 (by simp) o q⟩
  item := by
    intro X hP hw hK hc i pins s σ H E I hf st hg
    subst hP hw hK
    obtain ⟨hz, hTI, ⟨x0, y0, hTO⟩, h1, h2⟩ := st
    obtain ⟨xs, ys, x, y, hqx, hqy, hx, hy⟩ := hg
    obtain ⟨its, rv, p, _⟩ := I.list hqx
    obtain ⟨its2, rv2, p2, _⟩ := I.list hqy
    obtain ⟨u, hu, ru⟩ := rv.get hx
    obtain ⟨u2, hu2, ru2⟩ := rv2.get hy
    have hzl : z < s.heap.objs.size := Heap.lt_size hz
    refine wpAny_pyNext_zip_item D hz hTI hTO h1 h2 p.isList p2.isList (x := u) (y := u2) (by simpa using hu) (by simpa using hu2) fun h' z' TO' h1' h2' hT hsz hk => ?_
    refine ⟨_, rfl, wpAny_letOwnedTupleGo_zip (s := { s with heap := h' }) z' fun h'' z'' sb => ?_⟩
    have hT2 : h''.get? s.heap.objs.size = some { cls := .type "tuple", data := .seq #[u, u2] } := (sb.2 _ (Nat.ne_of_gt hzl)).trans hT
    have new : ObjOk X.prog X.w (upd H s.heap.objs.size (.tup [x, y])) h'' s.heap.objs.size (.tup [x, y]) :=
      ⟨by show 2 ≤ sizeLine; decide, [u, u2], .cons ru (.cons ru2 .nil), ⟨_, hT2, rfl, _, rfl⟩⟩
    have I1 : Inv X pins σ (upd H s.heap.objs.size (.tup [x, y])) { s with heap := h'' } :=
      I.turnedNew (t' := s.toks) (ch := [z, TI, TO, i1, i2]) (fun c o hb q => (sb.2 c (fun q' => hb (by simp [q']))).trans (hk c o (fun q' => hb (by simp [q'])) (fun q' => hb (by simp [q'])) (fun q' => hb (by simp [q'])) (fun q' => hb (by simp [q'])) q)) hf (Nat.le_refl _) new
    refine ⟨.ref s.heap.objs.size, _, I1, rfl, ⟨_, x, y, rfl, I.hok.fresh (Nat.le_refl _), rfl, fun l hl => by rw [I.list_inj hl hqx]; exact hx, fun l hl => by rw [I.list_inj hl hqy]; exact hy⟩, ⟨z'', ?_, ⟨u, u2, ?_⟩, ?_, ?_⟩, fun c hcm => ?_⟩
    · exact (sb.2 _ D.TIz).trans (hk _ _ D.TIz D.TITO D.TIi1 D.TIi2 hTI)
    · exact (sb.2 _ D.TOz).trans TO'
    · exact h1'.at fun o q => (sb.2 _ D.i1z).trans q
    · exact h2'.at fun o q => (sb.2 _ D.i2z).trans q
    · have hlt : c < s.heap.objs.size := by
        have e' : c = z ∨ c = TI ∨ c = TO ∨ c = i1 ∨ c = i2 := by simpa using hcm
        rcases e' with q | q | q | q | q
        · rw [q]; exact hzl
        · rw [q]; exact Heap.lt_size hTI
        · rw [q]; exact Heap.lt_size hTO
        · rw [q]; obtain ⟨_, e1, _⟩ := h1; exact Heap.lt_size e1
        · rw [q]; obtain ⟨_, e2, _⟩ := h2; exact Heap.lt_size e2
      rw [upd_ne (Nat.ne_of_lt hlt)]
      exact (hf c hcm).1
  done := by
    intro X hP hw hK hc i pins s σ H E I hf st hg
    subst hP hw hK
    obtain ⟨hz, hTI, ⟨x0, y0, hTO⟩, h1, h2⟩ := st
    obtain ⟨xs, ys, hqx, hqy, hend⟩ := hg
    obtain ⟨its, rv, p, _⟩ := I.list hqx
    obtain ⟨its2, rv2, p2, _⟩ := I.list hqy
    have l1 := rv.length
    have l2 := rv2.length
    have he : its.toArray[i]? = none ∨ its2.toArray[i]? = none := by
      rcases hend with q | q
      · exact .inl (by simp; omega)
      · exact .inr (by simp; omega)
    exact wpAny_pyNext_zip_end (I.ok.hd hc) D hz hTI hTO h1 h2 p.isList p2.isList he fun h' hk => ⟨rfl, I.turnedL (t' := s.toks) (ch := [z, TI, TO, i1, i2]) (fun c o hb q =>
      hk c o (fun q' => hb (by simp [q'])) (fun q' => hb (by simp [q'])) (fun q' => hb (by simp [q'])) (fun q' => hb (by simp [q'])) q) hf⟩
  self := fun A i s Q E st h => wpAny_pyIter_zip st.1 h
def iZip (K : PySem.W.Frag) (ta : TA) : TI := fun σ H R => ta σ H fun vs H1 => ∃ a b xs ys, vs = [.ref a, .ref b] ∧ SqL K H1 a xs ∧ SqL K H1 b ys ∧ R (Itz K a b) H1
theorem pi_zip {X : Cx} {e e2 : Expr} {ta : TA} {p pos tpos : Pos} {elts : List Expr} {kk : Nat} (hg : Gl X "zip") (hm : X.mg "zip" = none) (ha : PA X [e, e2] ta)
    (hs : starEach [e, e2] X.env = (false, eval e X.env) :: starEach [e2] X.env := by rfl) (hpl : (backTo pos (starEach [e2] X.env)).any (·.1) = false := by rfl) :
    PI X (.Tuple elts kk tpos) (.Call (.Name "zip" p) [e, e2] [] pos) (iZip X.K ta) := by
  intro pins s σ H R I h
  refine Call_ (ld_blt I hg hm boot_zip5 (PyProof.Rows.callWith_type1 (thn (ha pos pins s σ H _ I h) fun us s1 ⟨vs, H1, I1, r1, q1⟩ => ?_) hs hpl))
  obtain ⟨a, b, xs, ys, ex, hqx, hqy, q⟩ := q1
  subst ex
  cases r1 with
  | cons r rr =>
    cases rr with
    | cons r' rr =>
      cases rr
      cases r
      cases r'
      obtain ⟨its, rv, p1, _⟩ := I1.list hqx
      obtain ⟨its2, rv2, p2, _⟩ := I1.list hqy
      have la : a < s1.heap.objs.size := p1.lt
      have lb : b < s1.heap.objs.size := p2.lt
      refine call_zip_2 p1.isList p2.isList fun h' hz hTI hTO h1 h2 hsz hk => wpAny_pyIter_zip hz ?_
      have I2 : Inv X pins σ H1 { s1 with heap := h' } := I1.kept (t' := s1.toks) hk
      refine ⟨s1.heap.objs.size + 4, [s1.heap.objs.size + 4, s1.heap.objs.size + 2, s1.heap.objs.size + 3, s1.heap.objs.size, s1.heap.objs.size + 1], _, _, H1, rfl, I2, turn_zip (PySem.W.ktu_apart s1.heap.objs.size a b la lb), ⟨hz, hTI, ⟨_, _, hTO⟩, h1, h2⟩, fun c hcm => ?_, q⟩
      have e' : c = s1.heap.objs.size + 4 ∨ c = s1.heap.objs.size + 2 ∨ c = s1.heap.objs.size + 3 ∨ c = s1.heap.objs.size ∨ c = s1.heap.objs.size + 1 := by simpa using hcm
      have hle : s1.heap.objs.size ≤ c := by
        rcases e' with z | z | z | z | z
        · rw [z]; exact Nat.le_add_right _ _
        · rw [z]; exact Nat.le_add_right _ _
        · rw [z]; exact Nat.le_add_right _ _
        · rw [z]; exact Nat.le_refl _
        · rw [z]; exact Nat.le_add_right _ _
      exact I1.fpOk hle (I1.hok.fresh hle)
end L2
section 
namespace Bits
open PySem PyProof.Rows
end Bits
end 
section 
namespace TL
open PySem PySem.Builtin PySem.Builtin.Str PySem.StrLaws
end TL
end 
namespace L2
open PySem PySem.Spec PyProof.Rows
section
variable {X : Cx} {pins : List (Addr × Obj)} {σ : St} {H : Hp} {s : Shared} {Q : VK}
end
section
variable {X : Cx}
end
section
variable {X : Cx} {o e : Expr} {to te : TE}
end
end L2
namespace L2
open PySem PySem.Spec PyProof.Rows
section
variable {X : Cx}
end
end L2
namespace Att
open PySem PySem.W PySem.Calls PyProof.Rows
theorem ints_of_wellAll {P : Params} {h : Heap} : ∀ (ns : List Int) (vs : List Value), WellAll P h vs (ns.map WData.int) → IntsAre vs ns := by
  intro ns
  induction ns with
  | nil =>
    intro vs w
    rw [List.map_nil] at w
    cases w
    exact .nil
  | cons n ns ih =>
    intro vs w
    rw [List.map_cons] at w
    cases w with
    | cons a b =>
      cases a
      exact .cons _ _ (ih _ b)
section
variable {prog : Program} {w : World} {A : Around} {E : Value → Shared → Prop} {s : Shared} {K : Frag}
end
end Att
namespace L2
open PySem PySem.Spec PyProof.Rows
theorem vals_ints : ∀ {vs : List Value} {ns : List Int}, IntsAre vs ns → Vals (ns.map V.int) vs
  | _, _, .nil => .nil
  | _, _, .cons n t h => .cons ⟨t, rfl⟩ (vals_ints h)
def Only (H : Hp) : Prop := ∀ b, H b = none ∨ ∃ o xs, H b = some (.frz o (.lst xs))
end L2
namespace L2
open PySem PySem.Spec PyProof.Rows
end L2
namespace L2
open PySem PySem.Spec PyProof.Rows
def inClass (s : Stmt) (j : Nat) : Stmt := match s with
  | .ClassDef _ _ _ body _ _ _ _ _ _ _ => body.getD j (.Pass ⟨0, 0, 0, 0⟩)
  | _ => .Pass ⟨0, 0, 0, 0⟩
def defArgs (s : Stmt) : Arguments := match s with
  | .FunctionDef _ a _ _ _ _ _ _ _ _ => a
  | _ => { posonlyargs := [], args := [], vararg := none, kwonlyargs := [], kw_defaults := [], kwarg := none, defaults := [] }
def defBody (s : Stmt) : List Stmt := match s with
  | .FunctionDef _ _ b _ _ _ _ _ _ _ => b
  | _ => []
def defScope (s : Stmt) : Scope := match s with
  | .FunctionDef _ _ _ _ _ _ sc _ _ _ => sc
  | _ => { kind := .function, names := [], isGenerator := false, isCoroutine := false }
abbrev CX0 : CXT := fun _ _ _ _ _ _ => False
abbrev E0 : XK := fun _ _ _ => False
theorem pass0 {X : Cx} : Passes CX0 X E0 := fun _ _ _ _ _ _ _ h => h.elim
structure Fun (K : PySem.W.Frag) (x qual : Str) (st : Stmt) (f : Addr) (fd : FuncData) : Prop where
  ex : ∃ (oc : Value) (od : Option Addr) (kV doc pm : Value) (an : Option Addr) (cdv ct : Value) (osl : Array (Option Value)),
    fd = PySem.W.fnOf x qual (defArgs st) (defBody st) (defScope st) .none kV doc pm an cdv ct ∧ K.lookup f = some ⟨oc, od, .func fd, osl⟩ ∧ PySem.W.codeIn K cdv qual = true
  kp : PySem.W.keepIn K (.ref f) = true
section
variable {P : Program} {w : World} {K : PySem.W.Frag} {mg : Str → Option Value} {base : Heap}
theorem Fun.ok {x qual : Str} {st : Stmt} {f : Addr} {fd : FuncData} {N ps : List Str} {k : Nat} {sp : Sp} (F : Fun K x qual st f fd) (S : FnScope N ps (defScope st)) (len : ∀ vs H Q E, sp vs H Q E → vs.length = ps.length)
    (hbody : ∀ (cdv : Value) (A : Around) (outer : List Env) (s : Shared) (H : Hp) (vs : List V) (Q : VK) (E : XK), Room k (A.deeper (envOfC qual (defScope st) s.heap.objs.size f cdv)) → sp vs H Q E →
      ∃ t, PSs (cxOf CX0 P w K mg base N qual (defScope st) f cdv A outer s H E).nox (defBody st) t ∧ t { nx := fun _ H' => Q .non H', rt := Q } (start N vs) H) : FnOk P w K mg base CX0 (k + 1) f fd ps sp := by
  obtain ⟨oc, od, kV, doc, pm, an, cdv, ct, osl, rfl, lk, hcd⟩ := F.ex
  refine fn_of lk hcd S len fun A outer s H vs Q E hr hsp => ?_
  obtain ⟨t, h, q⟩ := hbody cdv A outer s H vs Q E hr hsp
  exact ⟨t, h.nox, q⟩
theorem Fun.binds {x qual : Str} {st : Stmt} {f : Addr} {fd : FuncData} {ps : List Str} (F : Fun K x qual st f fd)
    (h : ∀ (kV doc pm : Value) (an : Option Addr) (cdv ct : Value) (us : List Value), us.length = ps.length → bindArgs (PySem.W.fnOf x qual (defArgs st) (defBody st) (defScope st) .none kV doc pm an cdv ct) ⟨us, []⟩ = pure (ps.zip us)) : Binds K fd ps [] := by
  obtain ⟨oc, od, kV, doc, pm, an, cdv, ct, osl, rfl, lk, hcd⟩ := F.ex
  exact .all (h kV doc pm an cdv ct)
theorem fun_mk {x qual : Str} {st : Stmt} {f : Addr} {oc : Value} {od an : Option Addr} {osl : Array (Option Value)} {kV doc pm cdv ct : Value} (l : K.lookup f = some ⟨oc, od, .func (PySem.W.fnOf x qual (defArgs st) (defBody st) (defScope st) .none kV doc pm an cdv ct), osl⟩)
    (c : PySem.W.codeIn K cdv qual = true) (k : PySem.W.keepIn K (.ref f) = true) : Fun K x qual st f (PySem.W.fnOf x qual (defArgs st) (defBody st) (defScope st) .none kV doc pm an cdv ct) := ⟨⟨oc, od, kV, doc, pm, an, cdv, ct, osl, rfl, l, c⟩, k⟩
end
theorem hu_of {A : Around} {k : Nat} (hr : Room k A) : A.units + 1 < cLine := Nat.lt_of_le_of_lt (Nat.add_le_add_left (by decide : 1 ≤ 64) _) hr.units
section
variable {X : Cx}
theorem pv (i : Nat) {x : Str} {pos : Pos} (hN : X.N[i]? = some x := by rfl) (hv : Vis X.env.scope x := by first | exact Or.inl rfl | exact Or.inr (Or.inl rfl) | exact Or.inr (Or.inr rfl)) (hd : (x == ("__debug__" : Str)) = false := by decide)
    (hcd : (x == ("__classdict__" : Str)) = false := by decide) : PE X (.Name x pos) (tVar i) := pe_var hN hv hd hcd
theorem call_lenD : CallR X (.builtin "len") (fun xs H Q => ∃ a kvs, xs = [V.ref a] ∧ H a = some (.dK kvs) ∧ Q (.int kvs.length) H) := by
  intro pins s σ H xs us Q I r h
  obtain ⟨a, kvs, rfl, ha, q⟩ := h
  obtain ⟨u, rfl, ru⟩ := vals1 r
  cases ru
  exact d_len I (.inl ha) fun t s' I' => ⟨.int kvs.length, H, I', ⟨t, rfl⟩, q⟩
end
theorem iteF {A B : Prop} (h : B) : if false = true then A else B := by
  rw [if_neg Bool.false_ne_true]
  exact h
theorem iteT {A B : Prop} (h : A) : if true = true then A else B := by
  rw [if_pos rfl]
  exact h
theorem ite2 {c A B : Prop} [Decidable c] (h1 : c → A) (h2 : ¬ c → B) : if c then A else B := by
  by_cases h : c
  · rw [if_pos h]
    exact h1 h
  · rw [if_neg h]
    exact h2 h
def Same (H H' : Hp) : Prop := ∀ b o, H b = some o → H' b = some o
theorem Same.refl (H : Hp) : Same H H := fun _ _ h => h
theorem Same.trans {H H1 H2 : Hp} (a : Same H H1) (b : Same H1 H2) : Same H H2 := fun c o h => b c o (a c o h)
theorem Same.free {H H' : Hp} (e : Same H H') {l : Addr} (h : H' l = Option.none) : H l = Option.none := by
  cases q : H l with
  | none => rfl
  | some o =>
    rw [e l o q] at h
    cases h
theorem Same.seq {K : PySem.W.Frag} {H H' : Hp} {a : Addr} {xs : List V} (e : Same H H') (h : SqL K H a xs) : SqL K H' a xs := by
  rcases h with (h | ⟨o, h⟩) | h
  · exact .inl (.inl (e _ _ h))
  · exact .inl (.inr ⟨o, e _ _ h⟩)
  · exact .inr h
section
variable {κ : Type} [DecidableEq κ]
theorem valV_not {kvs : List (κ × V)} {k : κ} (h : valV kvs k = none) : ¬ k ∈ kvs.map (·.1) := by
  intro m
  obtain ⟨p, hp, e⟩ := List.mem_map.mp m
  have q : (kvs.any fun kv => decide (kv.1 = k)) = true := List.any_eq_true.mpr ⟨p, hp, decide_eq_true e⟩
  rw [valV_any, h] at q
  exact absurd q (by simp)
theorem valV_in {kvs : List (κ × V)} {k : κ} {v : V} (h : valV kvs k = some v) : k ∈ kvs.map (·.1) := by
  have q : (kvs.any fun kv => decide (kv.1 = k)) = true := by
    rw [valV_any, h]
    all_goals rfl
  obtain ⟨p, hp, e⟩ := List.any_eq_true.mp q
  exact List.mem_map.mpr ⟨p, hp, of_decide_eq_true e⟩
theorem nd_snoc : ∀ {l : List κ} {k : κ}, l.Nodup → ¬ k ∈ l → (l ++ [k]).Nodup
  | [], k, _, _ => by simp
  | a :: r, k, h, hk => by
    obtain ⟨h1, h2⟩ := List.nodup_cons.mp h
    show (a :: (r ++ [k])).Nodup
    refine List.nodup_cons.mpr ⟨fun m => ?_, nd_snoc h2 fun m => hk (List.mem_cons.mpr (Or.inr m))⟩
    rcases List.mem_append.mp m with q | q
    · exact h1 q
    · exact hk (List.mem_cons.mpr (Or.inl (List.mem_singleton.mp q).symm))
theorem dropK_pos {p : κ × V} {r : List (κ × V)} {k : κ} (e : p.1 = k) : dropK (p :: r) k = dropK r k := by
  unfold dropK
  rw [List.filter_cons, if_neg (by simp [e])]
theorem dropK_neg {p : κ × V} {r : List (κ × V)} {k : κ} (e : ¬ p.1 = k) : dropK (p :: r) k = p :: dropK r k := by
  unfold dropK
  rw [List.filter_cons, if_pos (by simp [e])]
theorem dropK_no : ∀ {kvs : List (κ × V)} {k : κ}, ¬ k ∈ kvs.map (·.1) → dropK kvs k = kvs
  | [], _, _ => rfl
  | p :: r, k, h => by
    have h' : ¬ k ∈ r.map (·.1) := fun m => by
      obtain ⟨q, hq, e⟩ := List.mem_map.mp m
      exact h (List.mem_map.mpr ⟨q, List.mem_cons.mpr (Or.inr hq), e⟩)
    rw [dropK_neg fun e => h (List.mem_map.mpr ⟨p, List.mem_cons.mpr (Or.inl rfl), e⟩), dropK_no h']
theorem dropK_mem {kvs : List (κ × V)} {k : κ} {p : κ × V} (h : p ∈ dropK kvs k) : p ∈ kvs := (List.mem_filter.mp h).1
theorem nd_dropK : ∀ {kvs : List (κ × V)} {k : κ}, (kvs.map (·.1)).Nodup → ((dropK kvs k).map (·.1)).Nodup
  | [], _, _ => List.nodup_nil
  | p :: r, k, h => by
    have h : (p.1 :: r.map (·.1)).Nodup := h
    obtain ⟨h1, h2⟩ := List.nodup_cons.mp h
    by_cases e : p.1 = k
    · rw [dropK_pos e]
      exact nd_dropK h2
    · rw [dropK_neg e]
      show (p.1 :: (dropK r k).map (·.1)).Nodup
      refine List.nodup_cons.mpr ⟨fun m => h1 ?_, nd_dropK h2⟩
      obtain ⟨q, hq, eq⟩ := List.mem_map.mp m
      exact List.mem_map.mpr ⟨q, dropK_mem hq, eq⟩
end
theorem at_of {xs : List V} {z : Int} {j : Nat} {v : V} (e : z = (j : Int)) (h : xs[j]? = some v) : atI xs z = some v := by
  rw [e]
  exact atI_nat h
end L2
namespace WT
open Kh308 (Put Drawing moved)

inductive Rose where
  | node (v : Nat) (cs : List Rose)

theorem Rose.ind {P : Rose → Prop} (h : ∀ v cs, (∀ c ∈ cs, P c) → P (.node v cs)) (r : Rose) : P r :=
  Rose.rec (motive_1 := P) (motive_2 := fun cs => ∀ c ∈ cs, P c) (fun v cs ih => h v cs ih) (fun _ hc => nomatch hc)
    (fun c cs hc hcs x hx => by
      cases hx with
      | head => exact hc
      | tail _ hx => exact hcs x hx) r

mutual
def Rose.size : Rose → Nat
  | .node _ cs => 1 + Rose.sizes cs
def Rose.sizes : List Rose → Nat
  | [] => 0
  | c :: cs => c.size + Rose.sizes cs
end
mutual
def Rose.flat : Rose → List Nat
  | .node v cs => v :: Rose.flats cs
def Rose.flats : List Rose → List Nat
  | [] => []
  | c :: cs => c.flat ++ Rose.flats cs
end
mutual
def Rose.height : Rose → Nat
  | .node _ cs => Rose.heights cs
/-- one more than the greatest -/
def Rose.heights : List Rose → Nat
  | [] => 0
  | c :: cs => max (c.height + 1) (Rose.heights cs)
end
def Rose.label : Rose → Nat
  | .node v _ => v
def Rose.kids : Rose → List Rose
  | .node _ cs => cs
mutual
/-- parents by their places in the order; the node itself has place i, its parent p -/
def pars (i p : Nat) : Rose → List Nat
  | .node _ cs => p :: parss (i + 1) i cs
def parss (j i : Nat) : List Rose → List Nat
  | [] => []
  | c :: cs => pars j i c ++ parss (j + c.size) i cs
end
mutual
def drawR (i : Nat) : Rose → Drawing
  | .node _ cs =>
    let r := Kh308.beside [] (drawRs (i + 1) cs) []
    let mid := (r.2.headD 0 + r.2.getLast?.getD 0) / 2
    ⟨i, 0, 0⟩ :: (moved (-mid) r.1).map fun p => { p with deep := p.deep + 1 }
def drawRs (i : Nat) : List Rose → List Drawing
  | [] => []
  | c :: cs => drawR i c :: drawRs (i + c.size) cs
end
/-- the places of children in the order -/
def idxs : Nat → List Rose → List Nat
  | _, [] => []
  | j, c :: cs => j :: idxs (j + c.size) cs

theorem size_pos (r : Rose) : 0 < r.size := by
  cases r with | node v cs => simp [Rose.size]; omega

theorem flat_length (r : Rose) : r.flat.length = r.size := by
  induction r using Rose.ind with
  | h v cs ih =>
    rw [Rose.flat, Rose.size, List.length_cons]
    suffices h : (Rose.flats cs).length = Rose.sizes cs by omega
    induction cs with
    | nil => rfl
    | cons c cs ihc =>
      rw [Rose.flats, Rose.sizes, List.length_append, ih c (by simp), ihc fun x hx => ih x (by simp [hx])]

theorem pars_length (r : Rose) : ∀ i p, (pars i p r).length = r.size := by
  induction r using Rose.ind with
  | h v cs ih =>
    intro i p
    rw [pars, Rose.size, List.length_cons]
    suffices h : ∀ j, (parss j i cs).length = Rose.sizes cs by rw [h]; omega
    induction cs with
    | nil => intro j; rfl
    | cons c cs ihc =>
      intro j
      rw [parss, Rose.sizes, List.length_append, ih c (by simp), ihc fun x hx => ih x (by simp [hx])]

theorem parss_length (cs : List Rose) : ∀ j i, (parss j i cs).length = Rose.sizes cs := by
  induction cs with
  | nil => intro j i; rfl
  | cons c cs ihc => intro j i; rw [parss, Rose.sizes, List.length_append, pars_length, ihc]

theorem pars_vals (r : Rose) : ∀ i p x, x ∈ pars i p r → x = p ∨ (i ≤ x ∧ x < i + r.size) := by
  induction r using Rose.ind with
  | h v cs ih =>
    intro i p x hx
    rw [pars, List.mem_cons] at hx
    rcases hx with h | h
    · exact .inl h
    · right
      suffices h : ∀ j, i + 1 ≤ j → x ∈ parss j i cs → x = i ∨ (j ≤ x ∧ x < j + Rose.sizes cs) by
        have := h (i + 1) (Nat.le_refl _) ‹_›
        rw [Rose.size]; omega
      clear h
      induction cs with
      | nil => intro j _ h; cases h
      | cons c cs ihc =>
        intro j hj h
        rw [parss, List.mem_append] at h
        rw [Rose.sizes]
        have hs := size_pos c
        rcases h with h | h
        · have := ih c (by simp) j i x h
          omega
        · have := ihc (fun x hx => ih x (by simp [hx])) (j + c.size) (by omega) h
          omega

theorem parss_vals (cs : List Rose) : ∀ j i x, x ∈ parss j i cs → x = i ∨ (j ≤ x ∧ x < j + Rose.sizes cs) := by
  induction cs with
  | nil => intro j i x h; cases h
  | cons c cs ihc =>
    intro j i x h
    rw [parss, List.mem_append] at h
    rw [Rose.sizes]
    have hs := size_pos c
    rcases h with h | h
    · have := pars_vals c j i x h; omega
    · have := ihc (j + c.size) i x h; omega

/-- the places at which v stands -/
def poss (v : Nat) : Nat → List Nat → List Nat
  | _, [] => []
  | o, x :: l => if x = v then o :: poss v (o + 1) l else poss v (o + 1) l

theorem poss_append (v : Nat) : ∀ (a b : List Nat) (o : Nat), poss v o (a ++ b) = poss v o a ++ poss v (o + a.length) b
  | [], b, o => by simp [poss]
  | x :: a, b, o => by
    simp only [List.cons_append, poss]
    rw [poss_append v a b (o + 1)]
    have : o + 1 + a.length = o + (a.length + 1) := by omega
    split <;> simp [this]

theorem poss_none (v : Nat) : ∀ (a : List Nat) (o : Nat), v ∉ a → poss v o a = []
  | [], _, _ => rfl
  | x :: a, o, h => by
    rw [poss, if_neg (fun e => h (by simp [e])), poss_none v a _ fun e => h (by simp [e])]

theorem filter_poss (v : Nat) (t : List Nat) : (List.range t.length).filter (fun k => t.getD k 255 == v) = poss v 0 t := by
  have key : ∀ n, n ≤ t.length → (List.range n).filter (fun k => t.getD k 255 == v) = poss v 0 (t.take n) := by
    intro n
    induction n with
    | zero => intro _; rfl
    | succ n ih =>
      intro hn
      have hlt : n < t.length := by omega
      rw [List.range_succ, List.filter_append, ih (by omega), List.take_succ_eq_append_getElem hlt, poss_append]
      congr 1
      have : t.getD n 255 = t[n] := by simp [hlt]
      have hlen : 0 + (t.take n).length = n := by simp; omega
      rw [hlen]
      by_cases h : t[n] = v
      · simp [poss, hlt, h]
      · simp [poss, hlt, h]
  have := key t.length (Nat.le_refl _)
  rwa [List.take_length] at this

theorem children_poss {t : List Nat} {v : Nat} (h0 : t.getD 0 255 ≠ v) : Kh308.children t v = poss v 0 t := by
  rw [← filter_poss, Kh308.children]
  apply List.filter_congr
  intro k _
  by_cases hk : k = 0
  · subst hk
    have hb : (t.getD 0 255 == v) = false := by simpa using h0
    rw [hb]
    rfl
  · have : (k != 0) = true := by simp [hk]
    rw [this, Bool.true_and]

theorem poss_parss (cs : List Rose) : ∀ j i, i < j → poss i j (parss j i cs) = idxs j cs := by
  induction cs with
  | nil => intro j i _; rfl
  | cons c cs ih =>
    intro j i hj
    rw [parss, poss_append, pars_length, ih _ _ (by omega), idxs]
    have : poss i j (pars j i c) = [j] := by
      cases c with
      | node v ds =>
        rw [pars, poss, if_pos rfl, poss_none]
        intro h
        have := parss_vals _ _ _ _ h
        omega
    rw [this]
    rfl

/-- r stands in t at place i -/
structure Occ (t : List Nat) (i : Nat) (r : Rose) : Prop where
  ex : ∃ pre p post, t = pre ++ pars i p r ++ post ∧ pre.length = i ∧ (∀ x, x ∈ pre ++ [p] ++ post → ¬ (i ≤ x ∧ x < i + r.size))
  hd : t.getD 0 255 = 255
  sm : i + r.size ≤ 255

theorem Occ.children {t : List Nat} {i : Nat} {v : Nat} {cs : List Rose} (h : Occ t i (.node v cs)) : Kh308.children t i = idxs (i + 1) cs := by
  obtain ⟨⟨pre, p, post, e, hl, hn⟩, hd, sm⟩ := h
  have hi : i ≠ 255 := by have := size_pos (.node v cs); omega
  rw [children_poss (by rw [hd]; exact hi.symm), e]
  rw [pars, poss_append, poss_append, poss_none i pre, poss_none i post]
  · rw [poss, if_neg, hl, Nat.zero_add, poss_parss _ _ _ (Nat.lt_succ_self _)]
    · simp
    · intro e'
      exact hn p (by simp) (by rw [e', Rose.size]; omega)
  · intro e'
    exact hn i (by simp [e']) (by rw [Rose.size]; omega)
  · intro e'
    exact hn i (by simp [e']) (by rw [Rose.size]; omega)

theorem Occ.kids {t : List Nat} {i : Nat} {v : Nat} {cs : List Rose} (h : Occ t i (.node v cs)) :
    ∀ (as bs : List Rose) (c : Rose), cs = as ++ c :: bs → Occ t (i + 1 + Rose.sizes as) c := by
  obtain ⟨⟨pre, p, post, e, hl, hn⟩, hd, sm⟩ := h
  intro as bs c ecs
  have hsz : Rose.sizes cs = Rose.sizes as + c.size + Rose.sizes bs := by
    subst ecs
    clear e hn sm
    induction as with
    | nil => simp [Rose.sizes]
    | cons a as ih => simp [Rose.sizes, ih]; omega
  have hp : ∀ j, parss j i cs = parss j i as ++ pars (j + Rose.sizes as) i c ++ parss (j + Rose.sizes as + c.size) i bs := by
    subst ecs
    clear e hn sm hsz
    induction as with
    | nil => intro j; simp [parss, Rose.sizes]
    | cons a as ih => intro j; simp [parss, Rose.sizes, ih, Nat.add_assoc]
  rw [Rose.size] at sm hn
  have hsc := size_pos c
  refine ⟨⟨pre ++ p :: parss (i + 1) i as, i, parss (i + 1 + Rose.sizes as + c.size) i bs ++ post, ?_, ?_, ?_⟩, hd, by omega⟩
  · rw [e, pars, hp]
    simp
  · rw [List.length_append, List.length_cons, parss_length]
    omega
  · intro x hx
    simp only [List.mem_append, List.mem_cons, List.not_mem_nil, or_false] at hx
    have h1 := parss_vals as (i + 1) i x
    have h2 := parss_vals bs (i + 1 + Rose.sizes as + c.size) i x
    have h3 : x ∈ pre ∨ x = p ∨ x ∈ post → ¬ (i ≤ x ∧ x < i + (1 + Rose.sizes cs)) := by
      intro h
      apply hn
      simp only [List.mem_append, List.mem_cons, List.not_mem_nil, or_false]
      rcases h with h | h | h
      · exact .inl (.inl h)
      · exact .inl (.inr h)
      · exact .inr h
    rcases hx with ((h | h | h) | h) | h | h
    · have := h3 (.inl h); omega
    · have := h3 (.inr (.inl h)); omega
    · have := h1 h; omega
    · omega
    · have := h2 h; omega
    · have := h3 (.inr (.inr h)); omega

theorem draw_occ {t : List Nat} (r : Rose) : ∀ (f i : Nat), r.height ≤ f → Occ t i r → Kh308.draw t f i = drawR i r := by
  induction r using Rose.ind with
  | h v cs ih =>
    intro f i hf ho
    rw [Rose.height] at hf
    cases f with
    | zero =>
      have : cs = [] := by
        cases cs with
        | nil => rfl
        | cons c cs => rw [Rose.heights] at hf; omega
      subst this
      rfl
    | succ f =>
      rw [Kh308.draw, drawR, ho.children]
      have key : ∀ (as bs : List Rose), cs = as ++ bs → (idxs (i + 1 + Rose.sizes as) bs).map (Kh308.draw t f) = drawRs (i + 1 + Rose.sizes as) bs := by
        intro as bs
        induction bs generalizing as with
        | nil => intro _; rfl
        | cons c bs ihb =>
          intro ecs
          rw [idxs, drawRs, List.map_cons]
          have hsz : Rose.sizes (as ++ [c]) = Rose.sizes as + c.size := by
            clear ecs ihb
            induction as with
            | nil => simp [Rose.sizes]
            | cons a as ih => simp [Rose.sizes, ih]; omega
          have hh : c.height + 1 ≤ Rose.heights cs := by
            subst ecs
            clear hf ih ho ihb hsz
            induction as with
            | nil => simp [Rose.heights]; omega
            | cons a as ih => simp only [List.cons_append, Rose.heights]; omega
          have h1 := ih c (by simp [ecs]) f _ (by omega) (ho.kids as bs c ecs)
          rw [h1]
          have h2 := ihb (as ++ [c]) (by simp [ecs])
          rw [hsz, ← Nat.add_assoc] at h2
          rw [h2]
      have := key [] cs rfl
      simp only [Rose.sizes, Nat.add_zero] at this
      rw [this]

theorem height_lt (r : Rose) : r.height < r.size := by
  induction r using Rose.ind with
  | h v cs ih =>
    rw [Rose.height, Rose.size]
    suffices h : Rose.heights cs ≤ Rose.sizes cs by omega
    induction cs with
    | nil => simp [Rose.heights]
    | cons c cs ihc =>
      rw [Rose.heights, Rose.sizes]
      have := ih c (by simp)
      have := ihc fun x hx => ih x (by simp [hx])
      omega

/-- a whole tree of at most 128 nodes, written by its parents, is drawn by its shape -/
theorem below_pars {r : Rose} (h : r.size ≤ 128) : Kh308.below (pars 0 255 r) 0 = drawR 0 r := by
  rw [Kh308.below, pars_length]
  apply draw_occ r _ _ (by have := height_lt r; omega)
  refine ⟨⟨[], 255, [], by simp, rfl, ?_⟩, ?_, by omega⟩
  · intro x hx
    simp at hx
    omega
  · cases r with | node v cs => rw [pars]; rfl
end WT
namespace WT
open Kh308 (Put Drawing moved)

theorem pigeon : ∀ (n : Nat) (l : List Nat), l.Nodup → (∀ x ∈ l, x < n) → l.length ≤ n
  | 0, l, _, h => by
    cases l with
    | nil => simp
    | cons x l => exact absurd (h x (by simp)) (by omega)
  | n + 1, l, hn, h => by
    have h1 := pigeon n (l.erase n) (hn.erase n) (by
      intro x hx
      have := h x (List.mem_of_mem_erase hx)
      have : x ≠ n := fun e => by
        subst e
        exact (List.Nodup.not_mem_erase hn) hx
      omega)
    by_cases hm : n ∈ l
    · rw [List.length_erase_of_mem hm] at h1
      omega
    · rw [List.erase_of_not_mem hm] at h1
      omega

/-- the children of each node -/
abbrev Kids := Nat → List Nat
structure Forest (kids : Kids) : Prop where
  nd : ∀ p, (kids p).Nodup
  lt : ∀ p c, c ∈ kids p → c < 128
  uniq : ∀ p q c, c ∈ kids p → c ∈ kids q → p = q
  deep : ∃ d : Nat → Nat, ∀ p c, c ∈ kids p → d p < d c

def grose (kids : Kids) : Nat → Nat → Rose
  | 0, v => .node v []
  | f + 1, v => .node v ((kids v).map (grose kids f))
/-- as deep as there can be nodes -/
def full (kids : Kids) (v : Nat) : Rose := grose kids 128 v

inductive Desc (kids : Kids) (v : Nat) : Nat → Prop
  | refl : Desc kids v v
  | step {p c : Nat} : Desc kids v p → c ∈ kids p → Desc kids v c

theorem Desc.trans {kids : Kids} {u v x : Nat} (h : Desc kids u v) (k : Desc kids v x) : Desc kids u x := by
  induction k with
  | refl => exact h
  | step _ hc ih => exact .step ih hc

theorem Desc.head {kids : Kids} {p c x : Nat} (hc : c ∈ kids p) (h : Desc kids c x) : Desc kids p x := Desc.trans (.step .refl hc) h

theorem Desc.cases_head {kids : Kids} {p x : Nat} (h : Desc kids p x) : x = p ∨ ∃ c, c ∈ kids p ∧ Desc kids c x := by
  induction h with
  | refl => exact .inl rfl
  | step h hc ih =>
    rcases ih with e | ⟨c, h1, h2⟩
    · subst e
      exact .inr ⟨_, hc, .refl⟩
    · exact .inr ⟨c, h1, .step h2 hc⟩

theorem flats_mem (cs : List Rose) (x : Nat) : x ∈ Rose.flats cs ↔ ∃ c ∈ cs, x ∈ c.flat := by
  induction cs with
  | nil => simp [Rose.flats]
  | cons c cs ih => simp [Rose.flats, ih]

theorem flats_map (g : Nat → Rose) (l : List Nat) : Rose.flats (l.map g) = l.flatMap fun v => (g v).flat := by
  induction l with
  | nil => rfl
  | cons c cs ih => simp [Rose.flats, ih]

section
variable {kids : Kids} (F : Forest kids)
include F

theorem Forest.chain {u w x : Nat} (h : Desc kids u x) : Desc kids w x → Desc kids u w ∨ Desc kids w u := by
  induction h with
  | refl => intro k; exact .inr k
  | step h hc ih =>
    intro k
    cases k with
    | refl => exact .inl (.step h hc)
    | step k hc' =>
      have := F.uniq _ _ _ hc hc'
      subst this
      exact ih k

theorem Forest.anti {d : Nat → Nat} (hd : ∀ p c, c ∈ kids p → d p < d c) {v x : Nat} (h : Desc kids v x) : v = x ∨ d v < d x := by
  induction h with
  | refl => exact .inl rfl
  | step h hc ih =>
    have := hd _ _ hc
    rcases ih with e | e
    · subst e; exact .inr this
    · exact .inr (by omega)

theorem Forest.mem_desc : ∀ (f v x : Nat), x ∈ (grose kids f v).flat → Desc kids v x
  | 0, v, x, h => by
    simp [grose, Rose.flat, Rose.flats] at h
    subst h
    exact .refl
  | f + 1, v, x, h => by
    rw [grose, Rose.flat, List.mem_cons, flats_map, List.mem_flatMap] at h
    rcases h with h | ⟨c, hc, h⟩
    · subst h; exact .refl
    · exact Desc.head hc (Forest.mem_desc f c x h)

theorem Forest.sib {p c c' x : Nat} (hc : c ∈ kids p) (hc' : c' ∈ kids p) (h : Desc kids c x) (h' : Desc kids c' x) : c = c' := by
  obtain ⟨d, hd⟩ := F.deep
  have key : ∀ {c c' : Nat}, c ∈ kids p → c' ∈ kids p → Desc kids c c' → c = c' := by
    intro c c' hc hc' k
    cases k with
    | refl => rfl
    | step k hq =>
      have := F.uniq _ _ _ hc' hq
      subst this
      have h2 := hd _ _ hc
      rcases F.anti hd k with e | e
      · subst e; omega
      · omega
  rcases F.chain h h' with k | k
  · exact key hc hc' k
  · exact (key hc' hc k).symm

theorem Forest.flat_nodup : ∀ (f v : Nat), (grose kids f v).flat.Nodup
  | 0, v => by simp [grose, Rose.flat, Rose.flats]
  | f + 1, v => by
    obtain ⟨d, hd⟩ := F.deep
    rw [grose, Rose.flat, flats_map, List.nodup_cons]
    refine ⟨fun h => ?_, ?_⟩
    · obtain ⟨c, hc, h⟩ := List.mem_flatMap.mp h
      have h2 := hd _ _ hc
      rcases F.anti hd (F.mem_desc _ _ _ h) with e | e
      · subst e; omega
      · omega
    · refine List.pairwise_flatMap.mpr ⟨fun c _ => Forest.flat_nodup f c, ?_⟩
      refine List.Pairwise.imp_of_mem ?_ (F.nd v)
      intro a b ha hb hab x hx y hy e
      subst e
      exact hab (F.sib ha hb (F.mem_desc _ _ _ hx) (F.mem_desc _ _ _ hy))

theorem Forest.flat_lt {v : Nat} (hv : v < 128) {f x : Nat} (h : x ∈ (grose kids f v).flat) : x < 128 := by
  have := F.mem_desc _ _ _ h
  cases this with
  | refl => exact hv
  | step _ hc => exact F.lt _ _ hc

theorem Forest.size_le {v : Nat} (hv : v < 128) (f : Nat) : (grose kids f v).size ≤ 128 := by
  rw [← flat_length]
  exact pigeon 128 _ (F.flat_nodup f v) fun x hx => F.flat_lt hv hx

omit F in
theorem heights_mem (cs : List Rose) {c : Rose} (hc : c ∈ cs) : c.height + 1 ≤ Rose.heights cs := by
  induction cs with
  | nil => cases hc
  | cons x cs ih =>
    rw [Rose.heights]
    cases hc with
    | head => omega
    | tail _ h => have := ih h; omega

omit F in
theorem grose_stable : ∀ (f v : Nat), (grose kids f v).height < f → grose kids (f + 1) v = grose kids f v
  | 0, v, h => absurd h (by omega)
  | f + 1, v, h => by
    rw [grose, grose]
    congr 1
    apply List.map_congr_left
    intro c hc
    rw [grose, Rose.height] at h
    have := heights_mem _ (List.mem_map_of_mem (f := grose kids f) hc)
    exact grose_stable f c (by omega)

theorem Forest.full_eq {v : Nat} (hv : v < 128) : full kids v = .node v ((kids v).map (full kids)) := by
  have h : (grose kids 128 v).height < 128 := by
    have := height_lt (grose kids 128 v)
    have := F.size_le hv 128
    omega
  have := grose_stable 128 v h
  rw [full, ← this, grose]
  rfl

theorem Forest.desc_full {v x : Nat} (hv : v < 128) (h : Desc kids v x) : x ∈ (full kids v).flat := by
  obtain ⟨d, hd⟩ := F.deep
  -- along the way from v
  have key : ∀ u, Desc kids v u → ∀ y, y ∈ (full kids u).flat → y ∈ (full kids v).flat := by
    intro u hu
    induction hu with
    | refl => intro y hy; exact hy
    | step hp hc ih =>
      rename_i p c
      intro y hy
      apply ih
      have hp' : p < 128 := by
        cases hp with
        | refl => exact hv
        | step _ hc => exact F.lt _ _ hc
      rw [F.full_eq hp', Rose.flat, flats_map]
      exact List.mem_cons_of_mem _ (List.mem_flatMap.mpr ⟨c, hc, hy⟩)
  have hx : x < 128 := by
    cases h with
    | refl => exact hv
    | step _ hc => exact F.lt _ _ hc
  exact key x h x (by rw [F.full_eq hx, Rose.flat]; simp)

theorem Forest.mem_full {v x : Nat} (hv : v < 128) : x ∈ (full kids v).flat ↔ Desc kids v x :=
  ⟨F.mem_desc _ _ _, F.desc_full hv⟩
end

/-! what T's tree is of what's shown -/
def skids (a : Kh309.Abs) : Kids := fun v => if a.isShut v then [] else a.children v
structure WF (a : Kh309.Abs) : Prop where
  len : a.rows.length = 128
  root : a.there 0 = true
  kid : ∀ p c, c ∈ a.children p → a.there c = true ∧ c ≠ 0
  nd : ∀ p, (a.children p).Nodup
  uniq : ∀ p q c, c ∈ a.children p → c ∈ a.children q → p = q
  par : ∀ c, a.there c = true → c ≠ 0 → ∃ p, c ∈ a.children p
  shut : ∀ v, a.isShut v = true → a.there v = true
  stands : a.there a.stands = true
  deep : ∃ d : Nat → Nat, ∀ p c, c ∈ a.children p → d p < d c

theorem WF.lt {a : Kh309.Abs} (h : WF a) {v : Nat} (hv : a.there v = true) : v < 128 := by
  rw [Kh309.Abs.there, Kh309.Abs.row] at hv
  rcases Nat.lt_or_ge v a.rows.length with q | q
  · rw [h.len] at q; exact q
  · rw [List.getD_eq_getElem?_getD, List.getElem?_eq_none q] at hv
    cases hv
theorem WF.pthere {a : Kh309.Abs} {p c : Nat} (hc : c ∈ a.children p) : a.there p = true := by
  rw [Kh309.Abs.children] at hc
  rw [Kh309.Abs.there]
  cases e : a.row p with
  | none => rw [e] at hc; cases hc
  | some r => rfl
theorem WF.forest {a : Kh309.Abs} (h : WF a) : Forest a.children where
  nd := h.nd
  lt := fun p c hc => h.lt (h.kid p c hc).1
  uniq := h.uniq
  deep := h.deep
theorem skids_sub {a : Kh309.Abs} {p c : Nat} (hc : c ∈ skids a p) : c ∈ a.children p := by
  rw [skids] at hc
  split at hc
  · cases hc
  · exact hc
theorem WF.sforest {a : Kh309.Abs} (h : WF a) : Forest (skids a) where
  nd := fun p => by
    rw [skids]
    split
    · simp
    · exact h.nd p
  lt := fun p c hc => h.lt (h.kid p c (skids_sub hc)).1
  uniq := fun p q c hc hc' => h.uniq p q c (skids_sub hc) (skids_sub hc')
  deep := by
    obtain ⟨d, hd⟩ := h.deep
    exact ⟨d, fun p c hc => hd p c (skids_sub hc)⟩
theorem WF.parent_of {a : Kh309.Abs} (h : WF a) {p c : Nat} (hc : c ∈ a.children p) : a.parent c = some p := by
  have hp := h.lt (WF.pthere hc)
  rw [Kh309.Abs.parent]
  cases e : (List.range Kh309.MANY).find? fun p => (a.children p).contains c with
  | none =>
    rw [List.find?_eq_none] at e
    exact absurd (by simpa using hc) (e p (List.mem_range.mpr hp))
  | some q =>
    have := List.find?_some e
    rw [h.uniq q p c (by simpa using this) hc]
theorem WF.parent_some {a : Kh309.Abs} {p c : Nat} (e : a.parent c = some p) : c ∈ a.children p := by
  rw [Kh309.Abs.parent] at e
  have := List.find?_some e
  simpa using this
theorem WF.parent_none {a : Kh309.Abs} (h : WF a) {c : Nat} (e : a.parent c = none) (hc : a.there c = true) : c = 0 := by
  rcases Nat.eq_zero_or_pos c with q | q
  · exact q
  · obtain ⟨p, hp⟩ := h.par c hc (by omega)
    rw [h.parent_of hp] at e
    cases e
theorem WF.parent_root {a : Kh309.Abs} (h : WF a) : a.parent 0 = none := by
  cases e : a.parent 0 with
  | none => rfl
  | some p => exact absurd rfl (h.kid p 0 (WF.parent_some e)).2

theorem belowF_eq (a : Kh309.Abs) : ∀ f v, a.belowF f v = (grose a.children f v).flat
  | 0, v => rfl
  | f + 1, v => by
    rw [Kh309.Abs.belowF, grose, Rose.flat, flats_map]
    congr 1
    have : a.belowF f = fun v => (grose a.children f v).flat := funext (belowF_eq a f)
    rw [this]
theorem shownF_eq (a : Kh309.Abs) : ∀ f v, a.shownF f v = (grose (skids a) f v).flat
  | 0, v => rfl
  | f + 1, v => by
    rw [Kh309.Abs.shownF, grose, Rose.flat, flats_map]
    congr 1
    have : a.shownF f = fun v => (grose (skids a) f v).flat := funext (shownF_eq a f)
    rw [this, skids]
    split <;> rfl
theorem below_eq (a : Kh309.Abs) (v : Nat) : a.below v = (full a.children v).flat := belowF_eq a 128 v
/-- what's shown, as a tree -/
def sh (a : Kh309.Abs) : Rose := full (skids a) 0
theorem shown_eq (a : Kh309.Abs) : a.shown = (sh a).flat := shownF_eq a 128 0

theorem idxOf_at {l pre post : List Nat} {v : Nat} (hn : l.Nodup) (e : l = pre ++ v :: post) : l.idxOf? v = some pre.length := by
  subst e
  have hp : v ∉ pre := fun h => by
    rw [List.nodup_append] at hn
    exact hn.2.2 v h v (by simp) rfl
  clear hn
  induction pre with
  | nil => simp [List.idxOf?, List.findIdx?_cons]
  | cons x pre ih =>
    have hx : ¬ x = v := fun q => hp (by simp [q])
    have := ih fun q => hp (by simp [q])
    rw [List.idxOf?] at this ⊢
    rw [List.cons_append, List.findIdx?_cons, if_neg (by simpa using hx), this]
    simp

theorem tree_pars {a : Kh309.Abs} (h : WF a) : a.tree = pars 0 255 (sh a) := by
  let g : Nat → Nat := fun v => match a.parent v with
    | some p => (a.shown.idxOf? p).getD 255
    | none => 255
  have hnd : a.shown.Nodup := by
    rw [shown_eq]
    exact h.sforest.flat_nodup 128 0
  have key : ∀ (f v : Nat) (pre post : List Nat), a.shown = pre ++ (grose (skids a) f v).flat ++ post → (grose (skids a) f v).flat.map g = pars pre.length (g v) (grose (skids a) f v) := by
    intro f
    induction f with
    | zero => intro v pre post e; rfl
    | succ f ih =>
      intro v pre post e
      rw [grose] at e ⊢
      rw [Rose.flat, pars, List.map_cons]
      congr 1
      rw [Rose.flat] at e
      have hv : a.shown.idxOf? v = some pre.length := idxOf_at hnd (by rw [e, List.append_assoc]; rfl)
      have sub : ∀ (l : List Nat) (pre' : List Nat), (∀ c ∈ l, c ∈ skids a v) → a.shown = pre' ++ Rose.flats (l.map (grose (skids a) f)) ++ post →
          (Rose.flats (l.map (grose (skids a) f))).map g = parss pre'.length pre.length (l.map (grose (skids a) f)) := by
        intro l
        induction l with
        | nil => intro pre' _ _; rfl
        | cons c l ihl =>
          intro pre' hl e'
          rw [List.map_cons, Rose.flats] at e' ⊢
          rw [parss, List.map_append]
          have hg : g c = pre.length := by
            show (match a.parent c with | some p => (a.shown.idxOf? p).getD 255 | none => 255) = _
            rw [h.parent_of (skids_sub (hl c (by simp)))]
            show (a.shown.idxOf? v).getD 255 = _
            rw [hv]; rfl
          have h1 := ih c pre' (Rose.flats (l.map (grose (skids a) f)) ++ post) (by rw [e']; simp)
          rw [h1, hg]
          congr 1
          have h2 := ihl (pre' ++ (grose (skids a) f c).flat) (fun x hx => hl x (by simp [hx])) (by rw [e']; simp)
          rw [h2, List.length_append, flat_length]
      have := sub (skids a v) (pre ++ [v]) (fun _ hc => hc) (by rw [e]; simp)
      rw [this, List.length_append]
      rfl
  have := key 128 0 [] [] (by rw [shown_eq, sh, full]; simp)
  have hg : g 0 = 255 := by
    show (match a.parent 0 with | some p => (a.shown.idxOf? p).getD 255 | none => 255) = _
    rw [h.parent_root]
  rw [hg] at this
  show a.shown.map g = _
  have e : a.shown = (grose (skids a) 128 0).flat := shown_eq a
  calc a.shown.map g = (grose (skids a) 128 0).flat.map g := congrArg (List.map g) e
    _ = _ := this
end WT
namespace WT
open Kh308 (Put Drawing moved left right atLeast evenUp beside)

/-- layer by layer the leftmost and the rightmost -/
abbrev Con := List (Int × Int)
def shiftC (s : Int) (C : Con) : Con := C.map fun x => (x.1 + s, x.2 + s)
def gap (C E : Con) : Int := (C.zip E).foldl (fun m x => max m (x.1.2 + 2 - x.2.1)) (-1000)
def join (s : Int) : Con → Con → Con
  | [], E => shiftC s E
  | x :: C, [] => x :: C
  | x :: C, y :: E => (min x.1 (y.1 + s), max x.2 (y.2 + s)) :: join s C E
def rootsC : Con → List Con → List Int
  | _, [] => []
  | C, E :: l => evenUp (gap C E) :: rootsC (join (evenUp (gap C E)) C E) l
def allC : Con → List Con → Con
  | C, [] => C
  | C, E :: l => allC (join (evenUp (gap C E)) C E) l
def roots : List Con → List Int
  | [] => []
  | E :: l => 0 :: rootsC E l
def whole : List Con → Con
  | [] => []
  | E :: l => allC E l
def midOf (ss : List Int) : Int := (ss.headD 0 + ss.getLast?.getD 0) / 2
mutual
def con : Rose → Con
  | .node _ cs => (0, 0) :: shiftC (-(midOf (roots (cons cs)))) (whole (cons cs))
def cons : List Rose → List Con
  | [] => []
  | c :: cs => con c :: cons cs
end
def offs (cs : List Rose) : List Int := (roots (cons cs)).map fun s => s - midOf (roots (cons cs))
mutual
def puts (i d : Nat) (x : Int) : Rose → Drawing
  | .node _ cs => ⟨i, d, x⟩ :: putss (i + 1) (d + 1) ((offs cs).map (x + ·)) cs
def putss (i d : Nat) (xs : List Int) : List Rose → Drawing
  | [] => []
  | c :: cs => puts i d (xs.headD 0) c ++ putss (i + c.size) d (xs.drop 1) cs
end
mutual
def shows (d : Nat) (x : Int) : Rose → List Kh309.Shown
  | .node v cs => ⟨v, d, x⟩ :: showss (d + 1) ((offs cs).map (x + ·)) cs
def showss (d : Nat) (xs : List Int) : List Rose → List Kh309.Shown
  | [] => []
  | c :: cs => shows d (xs.headD 0) c ++ showss d (xs.drop 1) cs
end
mutual
def placed (x : Int) : Rose → List Int
  | .node _ cs => x :: placeds ((offs cs).map (x + ·)) cs
def placeds (xs : List Int) : List Rose → List Int
  | [] => []
  | c :: cs => placed (xs.headD 0) c ++ placeds (xs.drop 1) cs
end

/-! left and right of a layer -/
def omin : Option Int → Option Int → Option Int
  | none, y => y
  | some x, none => some x
  | some x, some y => some (min x y)
def omax : Option Int → Option Int → Option Int
  | none, y => y
  | some x, none => some x
  | some x, some z => some (max x z)
def lstep (m : Option Int) (p : Put) : Option Int := match m with
  | none => some p.place
  | some x => some (min x p.place)
def rstep (m : Option Int) (p : Put) : Option Int := match m with
  | none => some p.place
  | some x => some (max x p.place)
theorem left_def (l : Drawing) (k : Nat) : left l k = (l.filter fun p => p.deep == k).foldl lstep none := rfl
theorem right_def (l : Drawing) (k : Nat) : right l k = (l.filter fun p => p.deep == k).foldl rstep none := rfl
theorem lfold (l : Drawing) : ∀ m, l.foldl lstep m = omin m (l.foldl lstep none) := by
  induction l with
  | nil => intro m; cases m <;> rfl
  | cons p l ih =>
    intro m
    rw [List.foldl_cons, List.foldl_cons, ih, ih (lstep none p)]
    cases m with
    | none => rfl
    | some x =>
      cases l.foldl lstep none with
      | none => rfl
      | some y => simp only [lstep, omin, Option.some.injEq]; omega
theorem rfold (l : Drawing) : ∀ m, l.foldl rstep m = omax m (l.foldl rstep none) := by
  induction l with
  | nil => intro m; cases m <;> rfl
  | cons p l ih =>
    intro m
    rw [List.foldl_cons, List.foldl_cons, ih, ih (rstep none p)]
    cases m with
    | none => rfl
    | some x =>
      cases l.foldl rstep none with
      | none => rfl
      | some y => simp only [rstep, omax, Option.some.injEq]; omega
theorem left_append (a b : Drawing) (k : Nat) : left (a ++ b) k = omin (left a k) (left b k) := by
  rw [left_def, List.filter_append, List.foldl_append, lfold]; rfl
theorem right_append (a b : Drawing) (k : Nat) : right (a ++ b) k = omax (right a k) (right b k) := by
  rw [right_def, List.filter_append, List.foldl_append, rfold]; rfl
theorem left_cons (p : Put) (b : Drawing) (k : Nat) : left (p :: b) k = if p.deep = k then omin (some p.place) (left b k) else left b k := by
  rw [left_def, List.filter_cons]
  by_cases h : p.deep = k
  · rw [if_pos (by simpa using h), if_pos h, List.foldl_cons, lfold]; rfl
  · rw [if_neg (by simpa using h), if_neg h]; rfl
theorem right_cons (p : Put) (b : Drawing) (k : Nat) : right (p :: b) k = if p.deep = k then omax (some p.place) (right b k) else right b k := by
  rw [right_def, List.filter_cons]
  by_cases h : p.deep = k
  · rw [if_pos (by simpa using h), if_pos h, List.foldl_cons, rfold]; rfl
  · rw [if_neg (by simpa using h), if_neg h]; rfl
theorem left_moved (s : Int) (l : Drawing) (k : Nat) : left (moved s l) k = (left l k).map (· + s) := by
  induction l with
  | nil => rfl
  | cons p l ih =>
    show left ({ p with place := p.place + s } :: moved s l) k = _
    rw [left_cons, left_cons, ih]
    dsimp only
    split
    · cases left l k with
      | none => rfl
      | some y => simp only [omin, Option.map, Option.some.injEq]; omega
    · rfl
theorem right_moved (s : Int) (l : Drawing) (k : Nat) : right (moved s l) k = (right l k).map (· + s) := by
  induction l with
  | nil => rfl
  | cons p l ih =>
    show right ({ p with place := p.place + s } :: moved s l) k = _
    rw [right_cons, right_cons, ih]
    dsimp only
    split
    · cases right l k with
      | none => rfl
      | some y => simp only [omax, Option.map, Option.some.injEq]; omega
    · rfl
def deeper (l : Drawing) : Drawing := l.map fun p => { p with deep := p.deep + 1 }
theorem left_deeper (l : Drawing) (k : Nat) : left (deeper l) (k + 1) = left l k := by
  induction l with
  | nil => rfl
  | cons p l ih =>
    show left ({ p with deep := p.deep + 1 } :: deeper l) (k + 1) = _
    rw [left_cons, left_cons, ih]
    dsimp only
    by_cases h : p.deep = k
    · rw [if_pos (by omega), if_pos h]
    · rw [if_neg (by omega), if_neg h]
theorem right_deeper (l : Drawing) (k : Nat) : right (deeper l) (k + 1) = right l k := by
  induction l with
  | nil => rfl
  | cons p l ih =>
    show right ({ p with deep := p.deep + 1 } :: deeper l) (k + 1) = _
    rw [right_cons, right_cons, ih]
    dsimp only
    by_cases h : p.deep = k
    · rw [if_pos (by omega), if_pos h]
    · rw [if_neg (by omega), if_neg h]
theorem left_deeper0 (l : Drawing) : left (deeper l) 0 = none := by
  induction l with
  | nil => rfl
  | cons p l ih =>
    show left ({ p with deep := p.deep + 1 } :: deeper l) 0 = _
    rw [left_cons, ih, if_neg (by simp)]
theorem right_deeper0 (l : Drawing) : right (deeper l) 0 = none := by
  induction l with
  | nil => rfl
  | cons p l ih =>
    show right ({ p with deep := p.deep + 1 } :: deeper l) 0 = _
    rw [right_cons, ih, if_neg (by simp)]

/-- a drawing's layers are C -/
structure Rep (l : Drawing) (C : Con) : Prop where
  lf : ∀ k, left l k = C[k]?.map (·.1)
  rt : ∀ k, right l k = C[k]?.map (·.2)

theorem shiftC_get (s : Int) (C : Con) (k : Nat) : (shiftC s C)[k]? = C[k]?.map fun x => (x.1 + s, x.2 + s) := by
  rw [shiftC, List.getElem?_map]
theorem Rep.moved {l : Drawing} {C : Con} (h : Rep l C) (s : Int) : Rep (Kh308.moved s l) (shiftC s C) := by
  refine ⟨fun k => ?_, fun k => ?_⟩
  · rw [left_moved, h.lf, shiftC_get]; cases C[k]? <;> rfl
  · rw [right_moved, h.rt, shiftC_get]; cases C[k]? <;> rfl
theorem join_get (s : Int) : ∀ (C E : Con) (k : Nat), (join s C E)[k]?.map (·.1) = omin (C[k]?.map (·.1)) (E[k]?.map (·.1 + s)) ∧
    (join s C E)[k]?.map (·.2) = omax (C[k]?.map (·.2)) (E[k]?.map (·.2 + s))
  | [], E, k => by
    rw [join, shiftC_get]
    cases E[k]? <;> exact ⟨rfl, rfl⟩
  | x :: C, [], k => by
    rw [join]
    cases h : (x :: C)[k]? <;> exact ⟨rfl, rfl⟩
  | x :: C, y :: E, 0 => ⟨rfl, rfl⟩
  | x :: C, y :: E, k + 1 => by
    rw [join]
    simpa only [List.getElem?_cons_succ] using join_get s C E k
theorem Rep.join {l d : Drawing} {C E : Con} (h : Rep l C) (h' : Rep d E) (s : Int) : Rep (l ++ Kh308.moved s d) (WT.join s C E) := by
  refine ⟨fun k => ?_, fun k => ?_⟩
  · rw [left_append, h.lf, left_moved, h'.lf, (join_get s C E k).1]; cases E[k]? <;> rfl
  · rw [right_append, h.rt, right_moved, h'.rt, (join_get s C E k).2]; cases E[k]? <;> rfl

theorem range_fold {α : Type} (w : α → Int) : ∀ (Z : List α) (n : Nat) (h : Nat → Option Int) (b : Int), Z.length ≤ n → (∀ k, h k = Z[k]?.map w) →
    (List.range n).foldl (fun m k => match h k with | some x => max m x | none => m) b = Z.foldl (fun m z => max m (w z)) b
  | [], n, h, b, _, hh => by
    have : ∀ (l : List Nat), l.foldl (fun m k => match h k with | some x => max m x | none => m) b = b := by
      intro l
      induction l with
      | nil => rfl
      | cons x l ih => rw [List.foldl_cons, hh x]; exact ih
    exact this _
  | z :: Z, 0, h, b, hl, _ => by simp at hl
  | z :: Z, n + 1, h, b, hl, hh => by
    rw [List.range_succ_eq_map, List.foldl_cons, List.foldl_map, List.foldl_cons]
    have h0 : h 0 = some (w z) := hh 0
    rw [h0]
    exact range_fold w Z n (fun k => h (k + 1)) _ (by simpa using hl) (fun k => by rw [hh (k + 1)]; rfl)

theorem Rep.gap {l d : Drawing} {C E : Con} (h : Rep l C) (h' : Rep d E) (hE : E.length ≤ 128) : atLeast l d = WT.gap C E := by
  rw [WT.gap, ← range_fold (fun x : (Int × Int) × (Int × Int) => x.1.2 + 2 - x.2.1) (C.zip E) 128 (fun k => ((C.zip E)[k]?).map fun x => x.1.2 + 2 - x.2.1) (-1000) (by rw [List.length_zip]; omega) fun _ => rfl]
  rw [atLeast]
  congr 1
  funext m k
  rw [h.rt, h'.lf]
  have e : (C.zip E)[k]? = match C[k]?, E[k]? with
    | some x, some y => some (x, y)
    | _, _ => none := by
    rw [List.zip, List.getElem?_zipWith]
    cases C[k]? <;> cases E[k]? <;> rfl
  rw [e]
  cases C[k]? <;> cases E[k]? <;> rfl

def catM : List Int → List Drawing → Drawing
  | s :: ss, d :: ds => moved s d ++ catM ss ds
  | _, _ => []
/-- drawings and their layers, one by one -/
inductive Reps : List Drawing → List Con → Prop
  | nil : Reps [] []
  | cons {d E ds Es} : Rep d E → E.length ≤ 128 → Reps ds Es → Reps (d :: ds) (E :: Es)
theorem beside_eq {ds : List Drawing} {Es : List Con} (h : Reps ds Es) : ∀ (so : Drawing) (C : Con) (rs : List Int), Rep so C → rs ≠ [] →
    beside so ds rs = (so ++ catM (rootsC C Es) ds, rs ++ rootsC C Es) ∧ Rep (so ++ catM (rootsC C Es) ds) (allC C Es) := by
  induction h with
  | nil =>
    intro so C rs r _
    simp only [beside, catM, rootsC, List.append_nil, allC]
    exact ⟨trivial, r⟩
  | cons hd hl _ ih =>
    intro so C rs r hr
    rw [beside, rootsC, allC]
    rw [if_neg hr, r.gap hd hl]
    obtain ⟨h1, h2⟩ := ih _ _ (rs ++ [evenUp (gap C _)]) (r.join hd (evenUp (gap C _))) (by simp)
    rw [h1]
    simp only [catM, List.append_assoc] at h2 ⊢
    exact ⟨rfl, h2⟩
theorem moved0 (d : Drawing) : moved 0 d = d := by
  rw [moved]
  conv => rhs; rw [← List.map_id d]
  apply List.map_congr_left
  intro p _
  cases p
  simp
theorem beside_roots {ds : List Drawing} {Es : List Con} (h : Reps ds Es) :
    beside [] ds [] = (catM (roots Es) ds, roots Es) ∧ Rep (catM (roots Es) ds) (whole Es) := by
  cases h with
  | nil => exact ⟨rfl, ⟨fun _ => rfl, fun _ => rfl⟩⟩
  | cons hd hl h =>
    rw [beside, if_pos rfl]
    rw [moved0, List.nil_append, List.nil_append]
    obtain ⟨h1, h2⟩ := beside_eq h _ _ [0] hd (by simp)
    rw [h1, roots, whole, catM, moved0]
    exact ⟨rfl, h2⟩

theorem moved_append (s : Int) (a b : Drawing) : moved s (a ++ b) = moved s a ++ moved s b := List.map_append ..
theorem moved_moved (s u : Int) (a : Drawing) : moved s (moved u a) = moved (u + s) a := by
  rw [moved, moved, List.map_map]
  apply List.map_congr_left
  intro p _
  simp only [Function.comp_apply, Int.add_assoc]
theorem deeper_append (a b : Drawing) : deeper (a ++ b) = deeper a ++ deeper b := List.map_append ..
theorem rootsC_length : ∀ (l : List Con) (C : Con), (rootsC C l).length = l.length
  | [], _ => rfl
  | E :: l, C => by rw [rootsC, List.length_cons, rootsC_length l, List.length_cons]
theorem roots_length (l : List Con) : (roots l).length = l.length := by
  cases l with
  | nil => rfl
  | cons E l => rw [roots, List.length_cons, rootsC_length, List.length_cons]
theorem cons_length (cs : List Rose) : (cons cs).length = cs.length := by
  induction cs with
  | nil => rfl
  | cons c cs ih => rw [cons, List.length_cons, ih, List.length_cons]
theorem offs_length (cs : List Rose) : (offs cs).length = cs.length := by rw [offs, List.length_map, roots_length, cons_length]

theorem puts_moved (s : Int) (r : Rose) : ∀ i d x, moved s (puts i d x r) = puts i d (x + s) r := by
  induction r using Rose.ind with
  | h v cs ih =>
    intro i d x
    rw [puts, puts]
    show _ :: moved s _ = _
    congr 1
    have key : ∀ (i : Nat) (xs : List Int), xs.length = cs.length → moved s (putss i (d + 1) xs cs) = putss i (d + 1) (xs.map (· + s)) cs := by
      clear x
      induction cs with
      | nil => intro i xs _; rfl
      | cons c cs ihc =>
        intro i xs hx
        cases xs with
        | nil => simp at hx
        | cons x xs =>
          rw [putss, putss, moved_append, ih c (by simp)]
          simp only [List.headD_cons, List.drop_succ_cons, List.drop_zero, List.map_cons]
          rw [ihc (fun c hc => ih c (by simp [hc])) _ xs (by simpa using hx)]
    rw [key _ _ (by rw [List.length_map, offs_length]), List.map_map]
    congr 1
    apply List.map_congr_left
    intro o _
    simp only [Function.comp_apply]
    omega
theorem puts_deeper (r : Rose) : ∀ i d x, deeper (puts i d x r) = puts i (d + 1) x r := by
  induction r using Rose.ind with
  | h v cs ih =>
    intro i d x
    rw [puts, puts]
    show _ :: deeper _ = _
    congr 1
    generalize (offs cs).map (x + ·) = xs
    generalize i + 1 = j
    induction cs generalizing j xs with
    | nil => rfl
    | cons c cs ihc =>
      rw [putss, putss, deeper_append, ih c (by simp), ihc (fun c hc => ih c (by simp [hc]))]

theorem shiftC_length (s : Int) (C : Con) : (shiftC s C).length = C.length := List.length_map ..
theorem join_length (s : Int) : ∀ C E : Con, (join s C E).length = max C.length E.length
  | [], E => by rw [join, shiftC_length]; simp
  | x :: C, [] => by rw [join]; simp
  | x :: C, y :: E => by rw [join, List.length_cons, join_length s C E]; simp only [List.length_cons]; omega
def most : List Con → Nat
  | [] => 0
  | E :: l => max E.length (most l)
theorem allC_length : ∀ (l : List Con) (C : Con), (allC C l).length = max C.length (most l)
  | [], C => by simp [allC, most]
  | E :: l, C => by rw [allC, allC_length l, join_length, most]; omega
theorem whole_length (l : List Con) : (whole l).length = most l := by
  cases l with
  | nil => rfl
  | cons E l => rw [whole, allC_length, most]
theorem con_length (r : Rose) : (con r).length = r.height + 1 := by
  induction r using Rose.ind with
  | h v cs ih =>
    rw [con, Rose.height, List.length_cons, shiftC_length, whole_length]
    congr 1
    induction cs with
    | nil => rfl
    | cons c cs ihc => rw [cons, most, Rose.heights, ih c (by simp), ihc fun c hc => ih c (by simp [hc])]

theorem sizes_mem (cs : List Rose) {c : Rose} (hc : c ∈ cs) : c.size ≤ Rose.sizes cs := by
  induction cs with
  | nil => cases hc
  | cons x cs ih =>
    rw [Rose.sizes]
    cases hc with
    | head => omega
    | tail _ h => have := ih h; omega

theorem putss_moved (s : Int) (cs : List Rose) : ∀ (i d : Nat) (xs : List Int), xs.length = cs.length → moved s (putss i d xs cs) = putss i d (xs.map (· + s)) cs := by
  induction cs with
  | nil => intro i d xs _; rfl
  | cons c cs ihc =>
    intro i d xs hx
    cases xs with
    | nil => simp at hx
    | cons x xs =>
      rw [putss, putss, moved_append, puts_moved]
      simp only [List.headD_cons, List.drop_succ_cons, List.drop_zero, List.map_cons]
      rw [ihc _ _ xs (by simpa using hx)]
theorem putss_deeper (cs : List Rose) : ∀ (i d : Nat) (xs : List Int), deeper (putss i d xs cs) = putss i (d + 1) xs cs := by
  induction cs with
  | nil => intro i d xs; rfl
  | cons c cs ihc => intro i d xs; rw [putss, putss, deeper_append, puts_deeper, ihc]

/-- a tree of at most 128 nodes is drawn by its layers alone -/
theorem drawR_puts (r : Rose) : r.size ≤ 128 → ∀ i, drawR i r = puts i 0 0 r ∧ Rep (drawR i r) (con r) := by
  induction r using Rose.ind with
  | h v cs ih =>
    intro hs i
    rw [Rose.size] at hs
    have hall : ∀ j, Reps (drawRs j cs) (cons cs) := by
      clear i
      induction cs with
      | nil => intro j; exact .nil
      | cons c cs ihc =>
        intro j
        rw [Rose.sizes] at hs
        have hc := ih c (by simp) (by omega) j
        refine .cons hc.2 ?_ (ihc (fun c hc => ih c (by simp [hc])) (by omega) _)
        rw [con_length]
        have := height_lt c
        omega
    have hput : ∀ j (ss : List Int), ss.length = cs.length → catM ss (drawRs j cs) = putss j 0 ss cs := by
      clear i hall
      induction cs with
      | nil => intro j ss _; cases ss <;> rfl
      | cons c cs ihc =>
        intro j ss hl
        cases ss with
        | nil => simp at hl
        | cons s ss =>
          rw [Rose.sizes] at hs
          rw [drawRs, catM, putss, (ih c (by simp) (by omega) j).1, puts_moved]
          simp only [List.headD_cons, List.drop_succ_cons, List.drop_zero, Int.zero_add]
          rw [ihc (fun c hc => ih c (by simp [hc])) (by omega) _ ss (by simpa using hl)]
    obtain ⟨h1, h2⟩ := beside_roots (hall (i + 1))
    have e : drawR i (.node v cs) = ⟨i, 0, 0⟩ :: deeper (moved (-(midOf (roots (cons cs)))) (catM (roots (cons cs)) (drawRs (i + 1) cs))) := by
      rw [drawR, h1]; rfl
    have hl : (roots (cons cs)).length = cs.length := by rw [roots_length, cons_length]
    refine ⟨?_, ?_⟩
    · rw [e, puts, hput _ _ hl, putss_moved _ _ _ _ _ hl, putss_deeper, offs, List.map_map]
      congr 2
      apply List.map_congr_left
      intro o _
      simp only [Function.comp_apply]
      omega
    · rw [e, con]
      have h3 := h2.moved (-(midOf (roots (cons cs))))
      refine ⟨fun k => ?_, fun k => ?_⟩
      · rw [left_cons]
        cases k with
        | zero => rw [if_pos rfl, left_deeper0]; rfl
        | succ k => rw [if_neg (by simp), left_deeper, h3.lf]; rfl
      · rw [right_cons]
        cases k with
        | zero => rw [if_pos rfl, right_deeper0]; rfl
        | succ k => rw [if_neg (by simp), right_deeper, h3.rt]; rfl

theorem puts_nodes (r : Rose) : ∀ i d x, (puts i d x r).map (·.node) = List.range' i r.size := by
  induction r using Rose.ind with
  | h v cs ih =>
    intro i d x
    rw [puts, Rose.size, List.map_cons, Nat.add_comm 1, List.range'_succ]
    congr 1
    generalize (offs cs).map (x + ·) = xs
    generalize i + 1 = j
    induction cs generalizing j xs with
    | nil => rfl
    | cons c cs ihc =>
      rw [putss, List.map_append, ih c (by simp), ihc (fun c hc => ih c (by simp [hc])), Rose.sizes, List.range'_append_1]
theorem puts_places (r : Rose) : ∀ i d x, (puts i d x r).map (·.place) = placed x r := by
  induction r using Rose.ind with
  | h v cs ih =>
    intro i d x
    rw [puts, placed, List.map_cons]
    congr 1
    generalize (offs cs).map (x + ·) = xs
    generalize i + 1 = j
    induction cs generalizing j xs with
    | nil => rfl
    | cons c cs ihc =>
      rw [putss, List.map_append, ih c (by simp), ihc (fun c hc => ih c (by simp [hc])), placeds]
theorem shows_puts (r : Rose) : ∀ i d x, List.zipWith (fun v (p : Put) => (⟨v, p.deep, p.place⟩ : Kh309.Shown)) r.flat (puts i d x r) = shows d x r := by
  induction r using Rose.ind with
  | h v cs ih =>
    intro i d x
    rw [puts, Rose.flat, shows, List.zipWith_cons_cons]
    congr 1
    generalize (offs cs).map (x + ·) = xs
    generalize i + 1 = j
    induction cs generalizing j xs with
    | nil => rfl
    | cons c cs ihc =>
      rw [putss, Rose.flats, showss, List.zipWith_append, ih c (by simp), ihc (fun c hc => ih c (by simp [hc]))]
      rw [flat_length, ← List.length_map (f := (·.node)), puts_nodes, List.length_range']

theorem find_range (l : Drawing) : ∀ (s : Nat), l.map (·.node) = List.range' s l.length → ∀ i, l.find? (fun p => p.node == s + i) = l[i]? := by
  induction l with
  | nil => intro s _ i; simp
  | cons p l ih =>
    intro s h i
    rw [List.map_cons, List.length_cons, List.range'_succ, List.cons.injEq] at h
    rw [List.find?_cons]
    cases i with
    | zero =>
      have : (p.node == s + 0) = true := by simp [h.1]
      rw [this]; rfl
    | succ i =>
      have : (p.node == s + (i + 1)) = false := by simp [h.1]
      rw [this]
      have := ih (s + 1) h.2 i
      rw [List.getElem?_cons_succ, ← this]
      have e : s + (i + 1) = s + 1 + i := by omega
      rw [e]

/-- how far the whole is moved -/
def edge (r : Rose) : Int := -((placed 0 r).foldl min 0)
theorem show_eq {a : Kh309.Abs} (h : WF a) : a.show_ = shows 0 (edge (sh a)) (sh a) := by
  have hs : (sh a).size ≤ 128 := h.sforest.size_le (by omega) 128
  have hd : Kh308.drawn a.tree = puts 0 0 (edge (sh a)) (sh a) := by
    rw [Kh308.drawn, tree_pars h, below_pars hs, (drawR_puts _ hs 0).1, puts_moved, Int.zero_add, edge, ← puts_places (sh a) 0 0 0, List.foldl_map]
  rw [Kh309.Abs.show_, hd, ← shows_puts _ 0, shown_eq]
  have hn := puts_nodes (sh a) 0 0 (edge (sh a))
  have hl : (puts 0 0 (edge (sh a)) (sh a)).length = (sh a).size := by
    rw [← List.length_map (f := (·.node)), hn, List.length_range']
  have hf := find_range _ 0 (by rw [hl]; exact hn)
  apply List.ext_getElem?
  intro i
  rw [List.getElem?_map, List.getElem?_zipWith]
  rcases Nat.lt_or_ge i (sh a).size with q | q
  · have e1 : (List.range (sh a).flat.length)[i]? = some i := by
      rw [List.getElem?_range (by rw [flat_length]; exact q)]
    have e2 := hf i
    rw [Nat.zero_add] at e2
    have h3 : i < (puts 0 0 (edge (sh a)) (sh a)).length := by omega
    have h4 : i < (sh a).flat.length := by rw [flat_length]; omega
    rw [e1, Option.map_some, e2, List.getElem?_eq_getElem h3, List.getElem?_eq_getElem h4]
    simp [h4]
  · rw [List.getElem?_eq_none (by rw [List.length_range, flat_length]; exact q), List.getElem?_eq_none (l := (sh a).flat) (by rw [flat_length]; exact q)]
    rfl
end WT
namespace WT
open Kh309 (Abs)

theorem row_lt {a : Abs} (hl : a.rows.length = 128) {v : Nat} (hv : v < 128) : a.row v = a.rows[v]'(by omega) := by
  rw [Abs.row, List.getD_eq_getElem?_getD, List.getElem?_eq_getElem (by omega)]
  rfl
theorem row_ge {a : Abs} (hl : a.rows.length = 128) {v : Nat} (hv : 128 ≤ v) : a.row v = none := by
  rw [Abs.row, List.getD_eq_getElem?_getD, List.getElem?_eq_none (by omega)]
  rfl
theorem not_there {a : Abs} {v : Nat} (h : a.there v = false) : a.row v = none := by
  rw [Abs.there] at h
  cases e : a.row v with
  | none => rfl
  | some r => rw [e] at h; cases h
theorem there_row {a : Abs} {v : Nat} (h : a.there v = true) : a.row v = some (a.children v) := by
  rw [Abs.there] at h
  rw [Abs.children]
  cases e : a.row v with
  | none => rw [e] at h; cases h
  | some r => rfl
theorem kids_none {a : Abs} {v : Nat} (h : a.there v = false) : a.children v = [] := by rw [Abs.children, not_there h]; rfl

/-! rows laid anew -/
structure RowsAre (a : Abs) (f : Nat → Option (List Nat)) : Prop where
  len : a.rows.length = 128
  row : ∀ v, a.row v = f v

theorem begun_wf : WF Kh309.begun := by
  have hr : ∀ v, Kh309.begun.row v = if v = 0 then some [] else none := by
    intro v
    rw [Abs.row, Kh309.begun]
    cases v with
    | zero => rfl
    | succ v =>
      rw [List.getD_cons_succ, if_neg (by omega), List.getD_eq_getElem?_getD, List.getElem?_replicate]
      split <;> rfl
  have hc : ∀ v, Kh309.begun.children v = [] := by
    intro v
    rw [Abs.children, hr]
    split <;> rfl
  have ht : ∀ v, Kh309.begun.there v = decide (v = 0) := by
    intro v
    rw [Abs.there, hr]
    by_cases h : v = 0 <;> simp [h]
  refine ⟨by simp [Kh309.begun], by rw [ht]; rfl, ?_, ?_, ?_, ?_, ?_, by rw [ht]; rfl, ⟨fun _ => 0, ?_⟩⟩
  · intro p c h; rw [hc] at h; cases h
  · intro p; rw [hc]; exact List.nodup_nil
  · intro p q c h; rw [hc] at h; cases h
  · intro c h hn
    rw [ht] at h
    exact absurd (of_decide_eq_true h) hn
  · intro v h; cases h
  · intro p c h; rw [hc] at h; cases h

/-! add -/
def added (a : Abs) (p v : Nat) : Abs := { a with rows := (a.rows.set p (some (a.children p ++ [v]))).set v (some []) }
theorem added_row {a : Abs} (h : WF a) {p v : Nat} (hp : a.there p = true) (hv : v < 128) (hn : a.there v = false) (x : Nat) :
    (added a p v).row x = if x = v then some [] else if x = p then some (a.children p ++ [v]) else a.row x := by
  have hp' := h.lt hp
  have hpv : p ≠ v := fun e => by rw [e, hn] at hp; cases hp
  rw [Abs.row, added, List.getD_eq_getElem?_getD]
  dsimp only
  rw [List.getElem?_set]
  by_cases h1 : x = v
  · subst h1
    rw [if_pos rfl, if_pos (by rw [List.length_set, h.len]; exact hv), if_pos rfl]
    rfl
  · rw [if_neg (fun e => h1 e.symm), if_neg h1, List.getElem?_set]
    by_cases h2 : x = p
    · subst h2
      rw [if_pos rfl, if_pos (by rw [h.len]; exact hp'), if_pos rfl]
      rfl
    · rw [if_neg (fun e => h2 e.symm), if_neg h2, Abs.row, List.getD_eq_getElem?_getD]
theorem added_there {a : Abs} (h : WF a) {p v : Nat} (hp : a.there p = true) (hv : v < 128) (hn : a.there v = false) (x : Nat) :
    (added a p v).there x = if x = v then true else a.there x := by
  rw [Abs.there, added_row h hp hv hn]
  by_cases h1 : x = v
  · rw [if_pos h1, if_pos h1]; rfl
  · rw [if_neg h1, if_neg h1]
    by_cases h2 : x = p
    · subst h2; rw [if_pos rfl, hp]; rfl
    · rw [if_neg h2]; rfl
theorem added_kids {a : Abs} (h : WF a) {p v : Nat} (hp : a.there p = true) (hv : v < 128) (hn : a.there v = false) (x : Nat) :
    (added a p v).children x = if x = v then [] else if x = p then a.children p ++ [v] else a.children x := by
  rw [Abs.children, added_row h hp hv hn]
  by_cases h1 : x = v
  · rw [if_pos h1, if_pos h1]; rfl
  · rw [if_neg h1, if_neg h1]
    by_cases h2 : x = p
    · rw [if_pos h2, if_pos h2]; rfl
    · rw [if_neg h2, if_neg h2]; rfl
theorem added_wf {a : Abs} (h : WF a) {p v : Nat} (hp : a.there p = true) (hv : v < 128) (hn : a.there v = false) : WF (added a p v) := by
  have ht := added_there h hp hv hn
  have hk := added_kids h hp hv hn
  have hpv : p ≠ v := fun e => by rw [e, hn] at hp; cases hp
  have h0 : v ≠ 0 := fun e => by rw [e, h.root] at hn; cases hn
  have hvk : ∀ q, v ∉ a.children q := fun q hq => by
    have := (h.kid q v hq).1
    rw [hn] at this; cases this
  have hin : ∀ x c, c ∈ (added a p v).children x → (c = v ∧ x = p) ∨ (c ≠ v ∧ c ∈ a.children x) := by
    intro x c hc
    rw [hk] at hc
    by_cases h1 : x = v
    · rw [if_pos h1] at hc; cases hc
    · rw [if_neg h1] at hc
      by_cases h2 : x = p
      · rw [if_pos h2, List.mem_append] at hc
        rcases hc with hc | hc
        · exact .inr ⟨fun e => hvk p (e ▸ hc), h2 ▸ hc⟩
        · exact .inl ⟨by simpa using hc, h2⟩
      · rw [if_neg h2] at hc
        exact .inr ⟨fun e => hvk x (e ▸ hc), hc⟩
  refine ⟨?_, ?_, ?_, ?_, ?_, ?_, ?_, ?_, ?_⟩
  · show ((a.rows.set p _).set v _).length = 128
    rw [List.length_set, List.length_set, h.len]
  · rw [ht, if_neg h0.symm]; exact h.root
  · intro x c hc
    rw [ht]
    rcases hin x c hc with ⟨e, _⟩ | ⟨e, q⟩
    · rw [if_pos e]; exact ⟨rfl, e ▸ h0⟩
    · rw [if_neg e]; exact h.kid x c q
  · intro x
    rw [hk]
    split
    · exact List.nodup_nil
    · split
      · rw [List.nodup_append]
        refine ⟨h.nd p, by simp, ?_⟩
        intro c hc b hb e
        have : b = v := by simpa using hb
        exact hvk p (by rw [← this, ← e]; exact hc)
      · exact h.nd x
  · intro x y c hx hy
    rcases hin x c hx with ⟨e, q⟩ | ⟨e, q⟩ <;> rcases hin y c hy with ⟨e', q'⟩ | ⟨e', q'⟩
    · rw [q, q']
    · exact absurd e e'
    · exact absurd e' e
    · exact h.uniq x y c q q'
  · intro c hc hc0
    rw [ht] at hc
    by_cases h1 : c = v
    · exact ⟨p, by rw [hk, if_neg hpv, if_pos rfl, h1]; simp⟩
    · rw [if_neg h1] at hc
      obtain ⟨q, hq⟩ := h.par c hc hc0
      refine ⟨q, ?_⟩
      have hqv : q ≠ v := fun e => by rw [e, kids_none hn] at hq; cases hq
      rw [hk, if_neg hqv]
      by_cases h2 : q = p
      · rw [if_pos h2, List.mem_append]; exact .inl (h2 ▸ hq)
      · rw [if_neg h2]; exact hq
  · intro x hx
    have := h.shut x hx
    rw [ht]
    split
    · rfl
    · exact this
  · rw [ht]
    split
    · rfl
    · exact h.stands
  · obtain ⟨d, hd⟩ := h.deep
    refine ⟨fun x => if x = v then d p + 1 else d x, ?_⟩
    intro x c hc
    rcases hin x c hc with ⟨e, q⟩ | ⟨e, q⟩
    · dsimp only
      rw [q, if_neg hpv, if_pos e]; omega
    · have hxv : x ≠ v := fun e => by rw [e, kids_none hn] at q; cases q
      dsimp only
      rw [if_neg hxv, if_neg e]
      exact hd x c q

/-! drop -/
def dropped (a : Abs) (v p : Nat) : Abs :=
  { rows := (a.rows.set p (some ((a.children p).filter (· != v)))).zipIdx.map fun x => if (a.below v).contains x.2 then none else x.1
    shut := a.shut.filter fun u => !(a.below v).contains u
    stands := if (a.below v).contains a.stands then p else a.stands }
theorem WF.below_iff {a : Abs} (h : WF a) {v x : Nat} (hv : v < 128) : (a.below v).contains x = true ↔ Desc a.children v x := by
  rw [List.contains_iff_mem, below_eq, h.forest.mem_full hv]
theorem dropped_row {a : Abs} (h : WF a) {v p : Nat} (hp : a.there p = true) (x : Nat) :
    (dropped a v p).row x = if (a.below v).contains x = true then none else if x = p then some ((a.children p).filter (· != v)) else a.row x := by
  have hp' := h.lt hp
  rw [Abs.row, dropped, List.getD_eq_getElem?_getD]
  dsimp only
  rw [List.getElem?_map, List.getElem?_zipIdx, List.getElem?_set]
  rcases Nat.lt_or_ge x 128 with q | q
  · have hx : x < a.rows.length := by rw [h.len]; exact q
    by_cases h2 : x = p
    · subst h2
      rw [if_pos rfl, if_pos (by rw [h.len]; exact hp'), if_pos rfl]
      simp only [Option.map_some, Nat.zero_add, Option.getD_some]
    · rw [if_neg (fun e => h2 e.symm), if_neg h2, List.getElem?_eq_getElem hx, row_lt h.len q]
      simp only [Option.map_some, Nat.zero_add, Option.getD_some]
  · have h2 : x ≠ p := by omega
    rw [if_neg (fun e => h2 e.symm), if_neg h2, List.getElem?_eq_none (by rw [h.len]; exact q), row_ge h.len q]
    simp
theorem dropped_wf {a : Abs} (h : WF a) {v p : Nat} (hvp : v ∈ a.children p) : WF (dropped a v p) := by
  have hp := WF.pthere hvp
  obtain ⟨hvt, hv0⟩ := h.kid p v hvp
  have hv := h.lt hvt
  have hb : ∀ x, (a.below v).contains x = true ↔ Desc a.children v x := fun x => h.below_iff hv
  obtain ⟨d, hd⟩ := h.deep
  have hpg : ¬ Desc a.children v p := fun q => by
    have := hd _ _ hvp
    rcases h.forest.anti hd q with e | e
    · rw [e] at this; omega
    · omega
  have h0g : ¬ Desc a.children v 0 := fun q => by
    cases q with
    | refl => exact hv0 rfl
    | step _ hc => exact (h.kid _ _ hc).2 rfl
  have hk : ∀ x, (dropped a v p).children x = if (a.below v).contains x = true then [] else if x = p then (a.children p).filter (· != v) else a.children x := by
    intro x
    rw [Abs.children, dropped_row h hp]
    split
    · rfl
    · split <;> rfl
  have ht : ∀ x, (dropped a v p).there x = if (a.below v).contains x = true then false else a.there x := by
    intro x
    rw [Abs.there, dropped_row h hp]
    split
    · rfl
    · split
      · rename_i q; rw [q, hp]; rfl
      · rfl
  have hin : ∀ x c, c ∈ (dropped a v p).children x → ¬ Desc a.children v x ∧ c ∈ a.children x ∧ c ≠ v ∧ ¬ Desc a.children v c := by
    intro x c hc
    rw [hk] at hc
    split at hc
    · cases hc
    · rename_i hx
      rw [hb] at hx
      have hcx : c ∈ a.children x ∧ c ≠ v := by
        split at hc
        · rename_i e
          rw [List.mem_filter] at hc
          exact ⟨e ▸ hc.1, by simpa using hc.2⟩
        · rename_i e
          exact ⟨hc, fun e' => e (h.uniq x p c hc (e' ▸ hvp))⟩
      refine ⟨hx, hcx.1, hcx.2, fun q => ?_⟩
      cases q with
      | refl => exact hcx.2 rfl
      | step q hq =>
        have := h.uniq _ _ _ hq hcx.1
        exact hx (this ▸ q)
  refine ⟨?_, ?_, ?_, ?_, ?_, ?_, ?_, ?_, ?_⟩
  · show ((a.rows.set p _).zipIdx.map _).length = 128
    rw [List.length_map, List.length_zipIdx, List.length_set, h.len]
  · rw [ht, if_neg (fun q => h0g ((hb 0).mp q))]; exact h.root
  · intro x c hc
    obtain ⟨_, h1, _, h2⟩ := hin x c hc
    rw [ht, if_neg (fun q => h2 ((hb c).mp q))]
    exact h.kid x c h1
  · intro x
    rw [hk]
    split
    · exact List.nodup_nil
    · split
      · exact (h.nd p).filter _
      · exact h.nd x
  · intro x y c hx hy
    exact h.uniq x y c (hin x c hx).2.1 (hin y c hy).2.1
  · intro c hc hc0
    rw [ht] at hc
    split at hc
    · cases hc
    · rename_i hg
      rw [hb] at hg
      obtain ⟨q, hq⟩ := h.par c hc hc0
      refine ⟨q, ?_⟩
      have hqg : ¬ Desc a.children v q := fun z => hg (.step z hq)
      have hcv : c ≠ v := fun e => hg (e ▸ .refl)
      rw [hk, if_neg (fun z => hqg ((hb q).mp z))]
      split
      · rename_i e
        rw [List.mem_filter]
        exact ⟨e ▸ hq, by simpa using hcv⟩
      · exact hq
  · intro x hx
    rw [Abs.isShut, dropped] at hx
    dsimp only at hx
    rw [List.contains_iff_mem, List.mem_filter] at hx
    have hg : ¬ (a.below v).contains x = true := by simpa using hx.2
    rw [ht, if_neg hg]
    exact h.shut x (by rw [Abs.isShut, List.contains_iff_mem]; exact hx.1)
  · rw [ht]
    by_cases q : (a.below v).contains a.stands = true
    · have e : (dropped a v p).stands = p := if_pos q
      rw [e, if_neg (fun z => hpg ((hb p).mp z))]
      exact hp
    · have e : (dropped a v p).stands = a.stands := if_neg q
      rw [e, if_neg q]
      exact h.stands
  · exact ⟨d, fun x c hc => hd x c (hin x c hc).2.1⟩
theorem dropped_there {a : Abs} (h : WF a) {v p : Nat} (hp : a.there p = true) (x : Nat) : (dropped a v p).there x = if (a.below v).contains x = true then false else a.there x := by
  rw [Abs.there, dropped_row h hp]
  split
  · rfl
  · split
    · rename_i q; rw [q, hp]; rfl
    · rfl
theorem dropped_kids {a : Abs} (h : WF a) {v p : Nat} (hp : a.there p = true) (x : Nat) :
    (dropped a v p).children x = if (a.below v).contains x = true then [] else if x = p then (a.children p).filter (· != v) else a.children x := by
  rw [Abs.children, dropped_row h hp]
  split
  · rfl
  · split <;> rfl

/-! rows as they were -/
theorem WF.rest {a b : Abs} (h : WF a) (e : b.rows = a.rows) (hs : ∀ v, b.isShut v = true → a.there v = true) (hst : a.there b.stands = true) : WF b := by
  have hr : ∀ v, b.row v = a.row v := fun v => by rw [Abs.row, Abs.row, e]
  have hk : ∀ v, b.children v = a.children v := fun v => by rw [Abs.children, Abs.children, hr]
  have ht : ∀ v, b.there v = a.there v := fun v => by rw [Abs.there, Abs.there, hr]
  refine ⟨by rw [e, h.len], by rw [ht, h.root], ?_, ?_, ?_, ?_, ?_, ?_, ?_⟩
  · intro p c hc; rw [ht]; rw [hk] at hc; exact h.kid p c hc
  · intro p; rw [hk]; exact h.nd p
  · intro p q c; rw [hk, hk]; exact h.uniq p q c
  · intro c; rw [ht]; intro hc h0; obtain ⟨p, hp⟩ := h.par c hc h0; exact ⟨p, by rw [hk]; exact hp⟩
  · intro v hv; rw [ht]; exact hs v hv
  · rw [ht]; exact hst
  · obtain ⟨d, hd⟩ := h.deep; exact ⟨d, fun p c hc => hd p c (hk p ▸ hc)⟩

theorem desc_there {a : Abs} (h : WF a) {v x : Nat} (hv : a.there v = true) (hd : Desc a.children v x) : a.there x = true := by
  cases hd with
  | refl => exact hv
  | step _ hc => exact (h.kid _ _ hc).1
theorem sdesc {a : Abs} {v x : Nat} (hd : Desc (skids a) v x) : Desc a.children v x := by
  induction hd with
  | refl => exact .refl
  | step _ hc ih => exact .step ih (skids_sub hc)
theorem shown_there {a : Abs} (h : WF a) {x : Nat} (hx : x ∈ a.shown) : a.there x = true := by
  rw [shown_eq] at hx
  exact desc_there h h.root (sdesc (h.sforest.mem_desc _ _ _ hx))
theorem shows_nodes (r : Rose) : ∀ d x, (shows d x r).map (·.node) = r.flat := by
  induction r using Rose.ind with
  | h v cs ih =>
    intro d x
    rw [shows, Rose.flat, List.map_cons]
    congr 1
    generalize (offs cs).map (x + ·) = xs
    induction cs generalizing xs with
    | nil => rfl
    | cons c cs ihc => rw [showss, Rose.flats, List.map_append, ih c (by simp), ihc (fun c hc => ih c (by simp [hc]))]
theorem beside_there {a : Abs} (h : WF a) {v w : Nat} {b : Bool} (e : a.beside v b = some w) : a.there w = true := by
  rw [Abs.beside] at e
  split at e
  · cases e
  · rename_i p _
    dsimp only at e
    have key : ∀ i, (a.children p)[i]? = some w → a.there w = true := fun i hi => (h.kid p w (List.mem_of_getElem? hi)).1
    split at e
    · exact key _ e
    · split at e
      · cases e
      · exact key _ e
theorem way_there {a : Abs} (h : WF a) {w v : Nat} (e : a.way w = some v) : a.there v = true := by
  match w, e with
  | 0, e => exact WF.pthere (WF.parent_some e)
  | 1, e =>
    have e' : (if a.isShut a.stands then none else (a.children a.stands).head?) = some v := e
    split at e'
    · cases e'
    · exact (h.kid _ v (List.mem_of_mem_head? e')).1
  | 2, e => exact beside_there (b := true) h e
  | n + 3, e => exact beside_there (b := false) h e

theorem doing_wf {a : Abs} (h : WF a) (c : Kh309.Call) : WF (Kh309.doing a c).1 := by
  cases c with
  | begin_ => exact begun_wf
  | add p =>
    rw [Kh309.doing]
    split
    · exact h
    · rename_i hp
      split
      · exact h
      · rename_i v e
        have h1 := List.find?_some e
        have h2 := List.mem_of_find?_eq_some e
        exact added_wf h (by simpa using hp) (List.mem_range.mp h2) (by simpa using h1)
  | drop v =>
    rw [Kh309.doing]
    split
    · exact h
    · split
      · exact h
      · rename_i p e
        exact dropped_wf h (WF.parent_some e)
  | fold v s =>
    rw [Kh309.doing]
    split
    · exact h
    · rename_i hv
      have hv : a.there v = true := by simpa using hv
      split
      · exact h
      · refine h.rest rfl ?_ ?_
        · intro x hx
          rw [Abs.isShut] at hx
          dsimp only at hx
          have hf : ∀ x, x ∈ a.shut.filter (· != v) → a.there x = true := fun x hx => h.shut x (by rw [Abs.isShut, List.contains_iff_mem]; exact (List.mem_filter.mp hx).1)
          rw [List.contains_iff_mem] at hx
          split at hx
          · rcases List.mem_cons.mp hx with e | hx
            · rw [e]; exact hv
            · exact hf x hx
          · exact hf x hx
        · dsimp only
          split
          · exact hv
          · exact h.stands
  | go w =>
    rw [Kh309.doing]
    split
    · exact h
    · split
      · exact h
      · rename_i v e
        exact h.rest rfl h.shut (way_there h e)
  | pick x y =>
    rw [Kh309.doing]
    split
    · exact h
    · rename_i p e
      refine h.rest rfl h.shut ?_
      have hm := List.mem_of_find?_eq_some e
      rw [show_eq h] at hm
      have : p.node ∈ (sh a).flat := by
        rw [← shows_nodes (sh a) 0 (edge (sh a))]
        exact List.mem_map_of_mem hm
      exact shown_there h (by rw [shown_eq]; exact this)
  | at_ => exact h
  | show_ => exact h
end WT
namespace WT
open Kh309 (Abs)

/-- what a list of numbers asks -/
inductive Script : List Int → List Kh309.Call → Prop
  | nil : Script [] []
  | begin_ {r l} : Script r l → Script (0 :: r) (.begin_ :: l)
  | add {p r l} : 0 ≤ p → p < 4294967296 → Script r l → Script (1 :: p :: r) (.add p.toNat :: l)
  | drop {p r l} : 0 ≤ p → p < 4294967296 → Script r l → Script (2 :: p :: r) (.drop p.toNat :: l)
  | fold {p q r l} : 0 ≤ p → p < 4294967296 → 0 ≤ q → q < 4294967296 → Script r l → Script (3 :: p :: q :: r) (.fold p.toNat q.toNat :: l)
  | go {p r l} : 0 ≤ p → p < 4294967296 → Script r l → Script (4 :: p :: r) (.go p.toNat :: l)
  | pick {p q r l} : -2147483648 ≤ p → p < 2147483648 → 0 ≤ q → q < 4294967296 → Script r l → Script (5 :: p :: q :: r) (.pick p q.toNat :: l)
  | at_ {r l} : Script r l → Script (6 :: r) (.at_ :: l)
  | show_ {r l} : Script r l → Script (7 :: r) (.show_ :: l)
/-- the numbers of one answer -/
def ans (r : Kh309.Ans) : List Int := r.value :: r.out.flatMap fun p => [(p.node : Int), (p.layer : Int), p.place]
/-- all answers from a state on -/
def out : Abs → List Kh309.Call → List Int
  | _, [] => []
  | a, c :: l => ((ans (Kh309.doing a c).2).length : Int) :: ans (Kh309.doing a c).2 ++ out (Kh309.doing a c).1 l

def callOf : Kh309.Call → List (List Int)
  | .begin_ => [[0]]
  | .add p => [[1, (p : Int)]]
  | .drop p => [[2, (p : Int)]]
  | .fold p q => [[3, (p : Int), (q : Int)]]
  | .go p => [[4, (p : Int)]]
  | .pick x y => [[5, x, (y : Int)]]
  | .at_ => [[6]]
  | .show_ => [[7]]
theorem step_call (a : Abs) (c : Kh309.Call) : Kh309Neutral.step a (callOf c) = ((Kh309.doing a c).1, ans (Kh309.doing a c).2) := by
  cases c <;> rfl
theorem whole_call (c : Kh309.Call) : PyKh309.whole (callOf c) = callOf c := by
  cases c <;> rfl
theorem told_out (l : List Kh309.Call) : ∀ a, PyFlat.told (PyFlat.played Kh309Neutral.step a (l.map callOf)) = out a l := by
  induction l with
  | nil => intro a; rfl
  | cons c l ih =>
    intro a
    rw [List.map_cons, PyFlat.played, step_call, PyFlat.told, List.flatMap_cons, out]
    have := ih (Kh309.doing a c).1
    rw [PyFlat.told] at this
    rw [this]

theorem nat32 {z : Int} (h : Kh309Neutral.natural z 32 = true) : 0 ≤ z ∧ z < 4294967296 := by
  rw [Kh309Neutral.natural, Bool.and_eq_true, decide_eq_true_eq, decide_eq_true_eq] at h
  exact ⟨h.1, by omega⟩
theorem int32 {z : Int} (h : Kh309Neutral.whole32 z = true) : -2147483648 ≤ z ∧ z < 2147483648 := by
  rw [Kh309Neutral.whole32, Bool.and_eq_true, decide_eq_true_eq, decide_eq_true_eq] at h
  omega

theorem parse : ∀ (f : Nat) (ns : List Int) (cs : List (List (List Int))), PyFlat.calls PyKh309.shape f ns = some cs → (cs.map PyKh309.whole).all Kh309Neutral.asked1 = true →
    ∃ l, Script ns l ∧ cs = l.map callOf := by
  intro f
  induction f with
  | zero =>
    intro ns cs h _
    cases ns with
    | nil => rw [PyFlat.calls] at h; cases h; exact ⟨[], .nil, rfl⟩
    | cons p r => rw [PyFlat.calls] at h; cases h
  | succ f ih =>
    intro ns cs h ha
    cases ns with
    | nil => rw [PyFlat.calls] at h; cases h; exact ⟨[], .nil, rfl⟩
    | cons p r =>
      rw [PyFlat.calls] at h
      split at h
      · cases h
      · rename_i c t ec
        split at h
        · cases h
        · rename_i cs' ecs
          cases h
          rw [List.map_cons, List.all_cons, Bool.and_eq_true] at ha
          obtain ⟨l, hs, rfl⟩ := ih t cs' ecs ha.2
          have ha1 := ha.1
          clear ha ih ecs
          rw [PyFlat.call] at ec
          have key : ∀ (n : Nat), PyKh309.shape p = some (n, 0) → n ≤ r.length ∧ c = [p :: r.take n] ∧ t = r.drop n := by
            intro n hn
            rw [hn] at ec
            dsimp only at ec
            split at ec
            · cases ec
            · rw [PyFlat.rows] at ec
              cases ec
              exact ⟨by omega, rfl, rfl⟩
          have two : ∀ {n : Nat}, 1 ≤ r.length → ∃ x r', r = x :: r' := fun {n} hl => by
            cases r with
            | nil => simp at hl
            | cons x r' => exact ⟨x, r', rfl⟩
          by_cases h0 : p = 0
          · subst h0
            obtain ⟨hl, rfl, rfl⟩ := key 0 rfl
            exact ⟨.begin_ :: l, .begin_ hs, rfl⟩
          by_cases h1 : p = 1
          · subst h1
            obtain ⟨hl, rfl, rfl⟩ := key 1 rfl
            obtain ⟨x, r', rfl⟩ := two (n := 0) hl
            have hx := nat32 ha1
            refine ⟨.add x.toNat :: l, .add hx.1 hx.2 hs, ?_⟩
            rw [List.map_cons, callOf, Int.toNat_of_nonneg hx.1]; rfl
          by_cases h2 : p = 2
          · subst h2
            obtain ⟨hl, rfl, rfl⟩ := key 1 rfl
            obtain ⟨x, r', rfl⟩ := two (n := 0) hl
            have hx := nat32 ha1
            refine ⟨.drop x.toNat :: l, .drop hx.1 hx.2 hs, ?_⟩
            rw [List.map_cons, callOf, Int.toNat_of_nonneg hx.1]; rfl
          by_cases h3 : p = 3
          · subst h3
            obtain ⟨hl, rfl, rfl⟩ := key 2 rfl
            match r, hl, ha1, hs with
            | x :: y :: r', _, ha1, hs =>
              have ha1 : (Kh309Neutral.natural x 32 && Kh309Neutral.natural y 32) = true := ha1
              rw [Bool.and_eq_true] at ha1
              have hx := nat32 ha1.1
              have hy := nat32 ha1.2
              refine ⟨.fold x.toNat y.toNat :: l, .fold hx.1 hx.2 hy.1 hy.2 hs, ?_⟩
              rw [List.map_cons, callOf, Int.toNat_of_nonneg hx.1, Int.toNat_of_nonneg hy.1]; rfl
          by_cases h4 : p = 4
          · subst h4
            obtain ⟨hl, rfl, rfl⟩ := key 1 rfl
            obtain ⟨x, r', rfl⟩ := two (n := 0) hl
            have hx := nat32 ha1
            refine ⟨.go x.toNat :: l, .go hx.1 hx.2 hs, ?_⟩
            rw [List.map_cons, callOf, Int.toNat_of_nonneg hx.1]; rfl
          by_cases h5 : p = 5
          · subst h5
            obtain ⟨hl, rfl, rfl⟩ := key 2 rfl
            match r, hl, ha1, hs with
            | x :: y :: r', _, ha1, hs =>
              have ha1 : (Kh309Neutral.whole32 x && Kh309Neutral.natural y 32) = true := ha1
              rw [Bool.and_eq_true] at ha1
              have hx := int32 ha1.1
              have hy := nat32 ha1.2
              refine ⟨.pick x y.toNat :: l, .pick hx.1 hx.2 hy.1 hy.2 hs, ?_⟩
              rw [List.map_cons, callOf, Int.toNat_of_nonneg hy.1]; rfl
          by_cases h6 : p = 6
          · subst h6
            obtain ⟨hl, rfl, rfl⟩ := key 0 rfl
            exact ⟨.at_ :: l, .at_ hs, rfl⟩
          by_cases h7 : p = 7
          · subst h7
            obtain ⟨hl, rfl, rfl⟩ := key 0 rfl
            exact ⟨.show_ :: l, .show_ hs, rfl⟩
          · exfalso
            have : PyKh309.shape p = none := by
              rw [PyKh309.shape, if_neg h0, if_neg h1, if_neg h2, if_neg h3, if_neg h4, if_neg h5, if_neg h6, if_neg h7]
            rw [this] at ec
            cases ec

theorem asked_script {ns : List Int} (h : PyKh309.answers_asked ns = true) : ∃ l, Script ns l ∧ l.length ≤ 400 ∧ PyKh309.answers ns = out Kh309.begun l := by
  rw [PyKh309.answers_asked] at h
  cases e : PyKh309.calls ns with
  | none => rw [e] at h; cases h
  | some cs =>
    rw [e] at h
    dsimp only at h
    rw [Bool.and_eq_true, Kh309Neutral.asked, Bool.and_eq_true] at h
    rw [PyKh309.calls] at e
    split at e
    · cases e
    · rename_i cs0 e0
      cases e
      obtain ⟨l, hs, rfl⟩ := parse _ _ _ e0 h.2.2
      refine ⟨l, hs, ?_, ?_⟩
      · have := of_decide_eq_true h.2.1
        simpa using this
      · rw [PyKh309.answers, PyKh309.calls, e0]
        dsimp only
        rw [List.map_map]
        have : (PyKh309.whole ∘ callOf) = callOf := funext whole_call
        rw [this]
        exact told_out l _
/-- the part of a list from a place on -/
structure Rest (ns : List Int) (i : Nat) (l : List Kh309.Call) : Prop where
  le : i ≤ ns.length
  sc : Script (ns.drop i) l
end WT
namespace WT
open Kh309 (Abs)

theorem nodup_sub_len : ∀ (l m : List Nat), l.Nodup → (∀ x ∈ l, x ∈ m) → l.length ≤ m.length
  | [], m, _, _ => Nat.zero_le _
  | x :: l, m, hn, h => by
    have hx : x ∈ m := h x (by simp)
    rw [List.nodup_cons] at hn
    have := nodup_sub_len l (m.erase x) hn.2 fun y hy => by
      have hyx : y ≠ x := fun e => hn.1 (e ▸ hy)
      exact (List.mem_erase_of_ne hyx).mpr (h y (by simp [hy]))
    rw [List.length_erase_of_mem hx] at this
    have hp : 0 < m.length := List.length_pos_of_mem hx
    rw [List.length_cons]
    omega
/-- 128 nodes that are there are all -/
theorem count_all {a : Abs} (h : WF a) {ns : List Nat} (nd : ns.Nodup) (hi : ∀ n, n ∈ ns ↔ a.there n = true) : ns.length = 128 ↔ ∀ n, n < 128 → a.there n = true := by
  have hle : ns.length ≤ 128 := by
    have := nodup_sub_len ns (List.range 128) nd fun x hx => List.mem_range.mpr (h.lt ((hi x).mp hx))
    rwa [List.length_range] at this
  constructor
  · intro e n hn
    refine Classical.byContradiction fun q => ?_
    have := nodup_sub_len (n :: ns) (List.range 128) (List.nodup_cons.mpr ⟨fun m => q ((hi n).mp m), nd⟩) fun x hx => by
      rcases List.mem_cons.mp hx with e | hx
      · exact List.mem_range.mpr (e ▸ hn)
      · exact List.mem_range.mpr (h.lt ((hi x).mp hx))
    rw [List.length_range, List.length_cons] at this
    omega
  · intro e
    have := nodup_sub_len (List.range 128) ns List.nodup_range fun x hx => (hi x).mpr (e x (List.mem_range.mp hx))
    rw [List.length_range] at this
    omega
theorem count_le {a : Abs} (h : WF a) {ns : List Nat} (nd : ns.Nodup) (hi : ∀ n, n ∈ ns ↔ a.there n = true) : ns.length ≤ 128 := by
  have := nodup_sub_len ns (List.range 128) nd fun x hx => List.mem_range.mpr (h.lt ((hi x).mp hx))
  rwa [List.length_range] at this

/-- the least number that is free -/
def leastFree (a : Abs) : Option Nat := (List.range Kh309.MANY).find? fun v => !a.there v
theorem leastFree_none {a : Abs} : leastFree a = none ↔ ∀ n, n < 128 → a.there n = true := by
  rw [leastFree, List.find?_eq_none]
  constructor
  · intro h n hn
    have := h n (List.mem_range.mpr hn)
    simpa using this
  · intro h n hn
    have := h n (List.mem_range.mp hn)
    simp [this]
theorem leastFree_some {a : Abs} {v : Nat} (e : leastFree a = some v) : v < 128 ∧ a.there v = false ∧ ∀ n, n < v → a.there n = true := by
  rw [leastFree] at e
  rw [List.find?_range_eq_some] at e
  obtain ⟨h1, h2, h3⟩ := e
  refine ⟨List.mem_range.mp h2, by simpa using h1, fun n hn => ?_⟩
  have := h3 n hn
  simpa using this

theorem added_parent {a : Abs} (h : WF a) {p v : Nat} (hp : a.there p = true) (hv : v < 128) (hn : a.there v = false) (x : Nat) (hx : a.there x = true) : (added a p v).parent x = a.parent x := by
  have h' := added_wf h hp hv hn
  have hxv : x ≠ v := fun e => by rw [e, hn] at hx; cases hx
  cases e : a.parent x with
  | none =>
    have : x = 0 := h.parent_none e hx
    rw [this]
    exact h'.parent_root
  | some q =>
    have hq := WF.parent_some e
    refine h'.parent_of ?_
    have hqv : q ≠ v := fun e' => by rw [e', kids_none hn] at hq; cases hq
    rw [added_kids h hp hv hn, if_neg hqv]
    by_cases h2 : q = p
    · rw [if_pos h2, List.mem_append]; exact .inl (h2 ▸ hq)
    · rw [if_neg h2]; exact hq
theorem added_parent_new {a : Abs} (h : WF a) {p v : Nat} (hp : a.there p = true) (hv : v < 128) (hn : a.there v = false) : (added a p v).parent v = some p := by
  have h' := added_wf h hp hv hn
  have hpv : p ≠ v := fun e => by rw [e, hn] at hp; cases hp
  refine h'.parent_of ?_
  rw [added_kids h hp hv hn, if_neg hpv, if_pos rfl]
  simp
theorem dropped_parent {a : Abs} (h : WF a) {v p : Nat} (hvp : v ∈ a.children p) (x : Nat) (hx : (dropped a v p).there x = true) : (dropped a v p).parent x = a.parent x := by
  have h' := dropped_wf h hvp
  have hp := WF.pthere hvp
  obtain ⟨hvt, hv0⟩ := h.kid p v hvp
  have hv := h.lt hvt
  rw [dropped_there h hp] at hx
  split at hx
  · cases hx
  · rename_i hg
    cases e : a.parent x with
    | none =>
      have : x = 0 := h.parent_none e hx
      rw [this]
      exact h'.parent_root
    | some q =>
      have hq := WF.parent_some e
      refine h'.parent_of ?_
      rw [h.below_iff hv] at hg
      have hqg : ¬ (a.below v).contains q = true := fun z => hg (.step ((h.below_iff hv).mp z) hq)
      have hxv : x ≠ v := fun e => hg (e ▸ .refl)
      rw [dropped_kids h hp, if_neg hqg]
      split
      · rename_i e2
        rw [List.mem_filter]
        exact ⟨e2 ▸ hq, by simpa using hxv⟩
      · exact hq

/-! the way up -/
theorem up_step {a : Abs} (h : WF a) {v x q : Nat} (hxv : x ≠ v) (hq : x ∈ a.children q) : Desc a.children v x ↔ Desc a.children v q := by
  constructor
  · intro d
    cases d with
    | refl => exact absurd rfl hxv
    | step d hc => exact h.uniq _ _ _ hc hq ▸ d
  · intro d; exact .step d hq
theorem up_root {a : Abs} (h : WF a) {v : Nat} (hv : v ≠ 0) : ¬ Desc a.children v 0 := by
  intro d
  cases d with
  | refl => exact hv rfl
  | step _ hc => exact (h.kid _ _ hc).2 rfl
/-- how deep -/
noncomputable def WF.depth {a : Abs} (h : WF a) : Nat → Nat := Classical.choose h.deep
theorem WF.depth_lt {a : Abs} (h : WF a) {p c : Nat} (hc : c ∈ a.children p) : h.depth p < h.depth c := Classical.choose_spec h.deep p c hc

/-! all below, by a heap of waiting nodes -/
def belows (a : Abs) (l : List Nat) : List Nat := l.flatMap a.below
theorem below_cons {a : Abs} (h : WF a) {v : Nat} (hv : v < 128) : a.below v = v :: belows a (a.children v) := by
  rw [below_eq, h.forest.full_eq hv, Rose.flat, flats_map]
  congr 1
  rw [belows]
  congr 1
  funext x
  exact (below_eq a x).symm
theorem below_nodup {a : Abs} (h : WF a) (v : Nat) : (a.below v).Nodup := by
  rw [below_eq]; exact h.forest.flat_nodup 128 v
theorem below_le {a : Abs} (h : WF a) {v : Nat} (hv : v < 128) : (a.below v).length ≤ 128 := by
  rw [below_eq, flat_length]; exact h.forest.size_le hv 128
/-- found and all that is below what waits is what is below v -/
structure Walked (a : Abs) (v : Nat) (found waiting : List Nat) : Prop where
  perm : (found ++ belows a waiting).Perm (a.below v)
theorem Walked.start {a : Abs} (v : Nat) : Walked a v [] [v] := ⟨by simp [belows]⟩
theorem Walked.turn {a : Abs} (h : WF a) {v x : Nat} {found ws : List Nat} (hx : x < 128) (k : Walked a v found (ws ++ [x])) : Walked a v (found ++ [x]) (ws ++ a.children x) := by
  refine ⟨List.Perm.trans ?_ k.perm⟩
  have e : belows a (ws ++ [x]) = belows a ws ++ (x :: belows a (a.children x)) := by
    rw [belows, List.flatMap_append]
    show _ ++ List.flatMap a.below [x] = _
    rw [List.flatMap_singleton, below_cons h hx]
    rfl
  have e2 : belows a (ws ++ a.children x) = belows a ws ++ belows a (a.children x) := by rw [belows, List.flatMap_append]; rfl
  rw [e, e2, List.append_assoc]
  refine List.Perm.append_left found ?_
  show ([x] ++ (belows a ws ++ belows a (a.children x))).Perm (belows a ws ++ ([x] ++ belows a (a.children x)))
  simpa only [List.append_assoc] using (List.perm_append_comm (l₁ := [x]) (l₂ := belows a ws)).append_right (belows a (a.children x))
theorem Walked.end_ {a : Abs} {v : Nat} {found : List Nat} (k : Walked a v found []) : found.Perm (a.below v) := by
  have := k.perm
  simpa [belows] using this
theorem Walked.mem {a : Abs} (h : WF a) {v x : Nat} {found ws : List Nat} (hv : a.there v = true) (hx : x ∈ ws) (k : Walked a v found ws) : a.there x = true := by
  have : x ∈ belows a ws := by
    rw [belows, List.mem_flatMap]
    refine ⟨x, hx, ?_⟩
    rw [below_eq, full, grose, Rose.flat]
    simp
  have hm : x ∈ a.below v := k.perm.mem_iff.mp (by simp [this])
  have := (h.below_iff (h.lt hv)).mp (by simpa using hm)
  exact desc_there h hv this
theorem Walked.len {a : Abs} {v : Nat} {found ws : List Nat} (k : Walked a v found ws) : found.length + (belows a ws).length = (a.below v).length := by
  have := k.perm.length_eq
  rwa [List.length_append] at this
theorem belows_snoc {a : Abs} (h : WF a) (ws : List Nat) {x : Nat} (hx : x < 128) : (belows a (ws ++ [x])).length = (belows a (ws ++ a.children x)).length + 1 := by
  rw [belows, List.flatMap_append, belows, List.flatMap_append]
  show (_ ++ List.flatMap a.below [x]).length = _
  rw [List.flatMap_singleton, below_cons h hx]
  simp only [List.length_append, List.length_cons, belows]
  omega

/-! where one is in a script -/
theorem Rest.drop_eq {ns : List Int} {i : Nat} {l : List Kh309.Call} (r : Rest ns i l) : l = [] ↔ i = ns.length := by
  obtain ⟨le, sc⟩ := r
  constructor
  · intro e
    subst e
    generalize hd : ns.drop i = m at sc
    cases sc
    have := congrArg List.length hd
    rw [List.length_drop] at this
    simp at this
    omega
  · intro e
    rw [e, List.drop_length] at sc
    cases sc
    rfl
end WT
namespace WT
open Kh308 (evenUp)

/-- in each layer the leftmost is not right of the rightmost -/
def COk (C : Con) : Prop := ∀ x ∈ C, x.1 ≤ x.2
def join2 (s : Int) : Con → Con → Con
  | [], E => shiftC s E
  | x :: C, [] => x :: C
  | x :: C, y :: E => (x.1, y.2 + s) :: join2 s C E
/-- the greatest over the layers that both have -/
def gapFrom (m : Int) : Con → Con → Int
  | x :: C, y :: E => gapFrom (max m (x.2 + 2 - y.1)) C E
  | _, _ => m
theorem gap_from (C E : Con) : ∀ m, (C.zip E).foldl (fun m x => max m (x.1.2 + 2 - x.2.1)) m = gapFrom m C E := by
  induction C generalizing E with
  | nil => intro m; rfl
  | cons x C ih =>
    intro m
    cases E with
    | nil => rfl
    | cons y E =>
      rw [List.zip_cons_cons, List.foldl_cons, gapFrom]
      exact ih E _
theorem gap_eq (C E : Con) : gap C E = gapFrom (-1000) C E := gap_from C E _
theorem gapFrom_ge (C E : Con) : ∀ m, m ≤ gapFrom m C E := by
  induction C generalizing E with
  | nil => intro m; exact Int.le_refl _
  | cons x C ih =>
    intro m
    cases E with
    | nil => exact Int.le_refl _
    | cons y E =>
      rw [gapFrom]
      have := ih E (max m (x.2 + 2 - y.1))
      omega
theorem gapFrom_max (C E : Con) : ∀ m n, gapFrom (max m n) C E = max m (gapFrom n C E) := by
  induction C generalizing E with
  | nil => intro m n; rfl
  | cons x C ih =>
    intro m n
    cases E with
    | nil => rfl
    | cons y E =>
      rw [gapFrom, gapFrom, ← ih E]
      congr 1
      omega
theorem evenUp_ge (v : Int) : v ≤ evenUp v := by
  rw [evenUp]
  have := Int.emod_nonneg v (by decide : (2 : Int) ≠ 0)
  omega
theorem evenUp_even (v : Int) : evenUp v % 2 = 0 := by
  rw [evenUp]; omega
theorem join_eq2 {C E : Con} (hC : COk C) (hE : COk E) {s m : Int} (hs : gapFrom m C E ≤ s) : join s C E = join2 s C E := by
  induction C generalizing E m with
  | nil => rfl
  | cons x C ih =>
    cases E with
    | nil => rfl
    | cons y E =>
      rw [gapFrom] at hs
      have h1 := gapFrom_ge C E (max m (x.2 + 2 - y.1))
      have h2 := hC x (by simp)
      have h3 := hE y (by simp)
      rw [join, join2, ih (fun z hz => hC z (by simp [hz])) (fun z hz => hE z (by simp [hz])) hs]
      have e1 : min x.1 (y.1 + s) = x.1 := by omega
      have e2 : max x.2 (y.2 + s) = y.2 + s := by omega
      rw [e1, e2]
theorem COk.shift {C : Con} (h : COk C) (s : Int) : COk (shiftC s C) := by
  intro x hx
  obtain ⟨y, inC, rfl⟩ := List.mem_map.mp hx
  have := h y inC
  show y.1 + s ≤ y.2 + s
  omega
theorem COk.join {C E : Con} (hC : COk C) (hE : COk E) (s : Int) : COk (WT.join s C E) := by
  induction C generalizing E with
  | nil => exact hE.shift s
  | cons x C ih =>
    cases E with
    | nil => exact hC
    | cons y E =>
      intro z hz
      rcases List.mem_cons.mp hz with e | hz
      · have h2 := hC x (by simp)
        have h3 := hE y (by simp)
        rw [e]
        show min x.1 (y.1 + s) ≤ max x.2 (y.2 + s)
        omega
      · exact ih (fun z hz => hC z (by simp [hz])) (fun z hz => hE z (by simp [hz])) z hz
theorem COk.all : ∀ (l : List Con) {C : Con}, COk C → (∀ E ∈ l, COk E) → COk (allC C l)
  | [], C, h, _ => h
  | E :: l, C, h, hl => by
    rw [allC]
    exact COk.all l (h.join (hl E (by simp)) _) fun x hx => hl x (by simp [hx])
theorem con_ok (r : Rose) : COk (con r) := by
  induction r using Rose.ind with
  | h v cs ih =>
    rw [con]
    have hall : ∀ E ∈ cons cs, COk E := by
      induction cs with
      | nil => intro E h; cases h
      | cons c cs ihc =>
        intro E hE
        rw [cons] at hE
        rcases List.mem_cons.mp hE with e | hE
        · rw [e]; exact ih c (by simp)
        · exact ihc (fun c hc => ih c (by simp [hc])) E hE
    intro x hx
    rcases List.mem_cons.mp hx with e | hx
    · rw [e]; exact Int.le_refl _
    · revert hx
      suffices h : COk (whole (cons cs)) from fun hx => h.shift _ x hx
      cases hc : cons cs with
      | nil => intro x hx; cases hx
      | cons E l =>
        rw [hc] at hall
        exact COk.all l (hall E (by simp)) fun x hx => hall x (by simp [hx])
theorem con_head (r : Rose) : ∃ C, con r = (0, 0) :: C := by
  cases r with | node v cs => exact ⟨_, by rw [con]⟩
theorem cons_map (cs : List Rose) : cons cs = cs.map con := by
  induction cs with
  | nil => rfl
  | cons c cs ih => rw [cons, ih]; rfl
/-- the gap to a child that stands at 0, without the far beginning -/
theorem gap_child {C E : Con} {x : Int × Int} (hx : -1002 ≤ x.2) : gap (x :: C) ((0, 0) :: E) = gapFrom (x.2 + 2) C E := by
  rw [gap_eq, gapFrom]
  have : max (-1000) (x.2 + 2 - 0) = x.2 + 2 := by omega
  rw [this]
end WT
namespace WT
open Kh309 (Abs)

/-- what is walked from a heap of waiting nodes, the last first -/
def walkP (kids : Kids) (ws : List Nat) : List Nat := ws.reverse.flatMap fun v => (full kids v).flat
/-- found, then what waits: the order from the root on -/
structure PreWalk (kids : Kids) (v : Nat) (found ws : List Nat) : Prop where
  eq : found ++ walkP kids ws = (full kids v).flat
theorem PreWalk.start {kids : Kids} (v : Nat) : PreWalk kids v [] [v] := ⟨by simp [walkP]⟩
theorem walkP_snoc {kids : Kids} (F : Forest kids) (ws : List Nat) {x : Nat} (hx : x < 128) : walkP kids (ws ++ [x]) = x :: walkP kids (ws ++ (kids x).reverse) := by
  rw [walkP, List.reverse_append, walkP, List.reverse_append, List.reverse_reverse]
  show List.flatMap _ ([x] ++ ws.reverse) = _
  rw [List.flatMap_append, List.flatMap_append, List.flatMap_singleton, F.full_eq hx, Rose.flat, flats_map]
  rfl
theorem PreWalk.turn {kids : Kids} (F : Forest kids) {v x : Nat} {found ws : List Nat} (hx : x < 128) (k : PreWalk kids v found (ws ++ [x])) : PreWalk kids v (found ++ [x]) (ws ++ (kids x).reverse) := by
  refine ⟨?_⟩
  rw [← k.eq, walkP_snoc F ws hx, List.append_assoc]
  rfl
theorem PreWalk.end_ {kids : Kids} {v : Nat} {found : List Nat} (k : PreWalk kids v found []) : found = (full kids v).flat := by
  have := k.eq
  simpa [walkP] using this
theorem walkP_mem {kids : Kids} {ws : List Nat} {x : Nat} (h : x ∈ ws) : x ∈ walkP kids ws := by
  rw [walkP, List.mem_flatMap]
  exact ⟨x, by simpa using h, by rw [full, grose, Rose.flat]; simp⟩
theorem walkP_len (kids : Kids) (ws : List Nat) : ws.length ≤ (walkP kids ws).length := by
  rw [walkP]
  have : ∀ l : List Nat, l.length ≤ (l.flatMap fun v => (full kids v).flat).length := by
    intro l
    induction l with
    | nil => exact Nat.zero_le _
    | cons x l ih =>
      rw [List.flatMap_cons, List.length_append, List.length_cons, flat_length]
      have := size_pos (full kids x)
      omega
  have := this ws.reverse
  rwa [List.length_reverse] at this
theorem PreWalk.mem {kids : Kids} (F : Forest kids) {v x : Nat} {found ws : List Nat} (hx : x ∈ ws) (k : PreWalk kids v found ws) : Desc kids v x := by
  have : x ∈ (full kids v).flat := by
    rw [← k.eq]
    exact List.mem_append_right _ (walkP_mem hx)
  exact F.mem_desc _ _ _ this
theorem PreWalk.len {kids : Kids} {v : Nat} {found ws : List Nat} (k : PreWalk kids v found ws) : found.length + (walkP kids ws).length = (full kids v).size := by
  have := congrArg List.length k.eq
  rwa [List.length_append, flat_length] at this

/-! the layers of the order -/
mutual
def lays (d : Nat) : Rose → List Nat
  | .node _ cs => d :: layss (d + 1) cs
def layss (d : Nat) : List Rose → List Nat
  | [] => []
  | c :: cs => lays d c ++ layss d cs
end
theorem shows_layers (r : Rose) : ∀ d x, (shows d x r).map (·.layer) = lays d r := by
  induction r using Rose.ind with
  | h v cs ih =>
    intro d x
    rw [shows, lays, List.map_cons]
    congr 1
    generalize (offs cs).map (x + ·) = xs
    induction cs generalizing xs with
    | nil => rfl
    | cons c cs ihc => rw [showss, layss, List.map_append, ih c (by simp), ihc (fun c hc => ih c (by simp [hc]))]
theorem shows_places (r : Rose) : ∀ d x, (shows d x r).map (·.place) = placed x r := by
  induction r using Rose.ind with
  | h v cs ih =>
    intro d x
    rw [shows, placed, List.map_cons]
    congr 1
    generalize (offs cs).map (x + ·) = xs
    induction cs generalizing xs with
    | nil => rfl
    | cons c cs ihc => rw [showss, placeds, List.map_append, ih c (by simp), ihc (fun c hc => ih c (by simp [hc]))]
theorem placed_shift (s : Int) (r : Rose) : ∀ x, (placed x r).map (· + s) = placed (x + s) r := by
  induction r using Rose.ind with
  | h v cs ih =>
    intro x
    rw [placed, placed, List.map_cons]
    congr 1
    have key : ∀ xs : List Int, xs.length = cs.length → (placeds xs cs).map (· + s) = placeds (xs.map (· + s)) cs := by
      clear x
      induction cs with
      | nil => intro xs _; rfl
      | cons c cs ihc =>
        intro xs hx
        cases xs with
        | nil => simp at hx
        | cons x xs =>
          rw [placeds, placeds, List.map_append, ih c (by simp)]
          simp only [List.headD_cons, List.drop_succ_cons, List.drop_zero, List.map_cons]
          rw [ihc (fun c hc => ih c (by simp [hc])) xs (by simpa using hx)]
    rw [key _ (by rw [List.length_map, offs_length]), List.map_map]
    congr 1
    apply List.map_congr_left
    intro o _
    simp only [Function.comp_apply]
    omega

end WT
namespace WT
open Kh308 (evenUp)

/-! how far a child is moved, and two outlines joined, as the program reckons them -/
def needs (C E : Con) : List Int := (C.zip E).map fun x => x.1.2 + 2 - x.2.1
def jn (C E : Con) : Con := (C.zip E).map (fun x => (x.1.1, x.2.2)) ++ (if E.length < C.length then C else E).drop (C.zip E).length
/-- the greatest of l, 0 of none -/
def IsMost (l : List Int) (m : Int) : Prop := (l = [] ∧ m = 0) ∨ (m ∈ l ∧ ∀ y ∈ l, y ≤ m)

theorem jn_eq (s : Int) : ∀ C E : Con, jn C (shiftC s E) = join2 s C E
  | [], E => by simp [jn, join2]
  | x :: C, [] => by simp [jn, join2, shiftC]
  | x :: C, y :: E => by
    have ih := jn_eq s C E
    rw [join2, ← ih, jn, jn]
    have hl : (shiftC s E).length = E.length := shiftC_length s E
    have hz : shiftC s (y :: E) = (y.1 + s, y.2 + s) :: shiftC s E := rfl
    rw [hz]
    by_cases h : (shiftC s E).length < C.length
    · have h' : ((y.1 + s, y.2 + s) :: shiftC s E).length < (x :: C).length := by simp only [List.length_cons]; omega
      rw [if_pos h, if_pos h']
      rfl
    · have h' : ¬ ((y.1 + s, y.2 + s) :: shiftC s E).length < (x :: C).length := by simp only [List.length_cons]; omega
      rw [if_neg h, if_neg h']
      rfl
theorem foldl_max_eq (m : Int) : ∀ (l : List Int) (a : Int), (m ∈ l ∨ m = a) → (∀ y ∈ l, y ≤ m) → a ≤ m → l.foldl max a = m
  | [], a, h, _, _ => by
    rcases h with h | h
    · cases h
    · exact h.symm
  | x :: l, a, h, hl, ha => by
    have hx := hl x (by simp)
    rw [List.foldl_cons]
    refine foldl_max_eq m l (max a x) ?_ (fun y hy => hl y (by simp [hy])) (by omega)
    rcases h with h | h
    · rcases List.mem_cons.mp h with h | h
      · right; omega
      · exact .inl h
    · right; omega
theorem foldl_min_eq (m : Int) : ∀ (l : List Int) (a : Int), (m ∈ l ∨ m = a) → (∀ y ∈ l, m ≤ y) → m ≤ a → l.foldl min a = m
  | [], a, h, _, _ => by
    rcases h with h | h
    · cases h
    · exact h.symm
  | x :: l, a, h, hl, ha => by
    have hx := hl x (by simp)
    rw [List.foldl_cons]
    refine foldl_min_eq m l (min a x) ?_ (fun y hy => hl y (by simp [hy])) (by omega)
    rcases h with h | h
    · rcases List.mem_cons.mp h with h | h
      · right; omega
      · exact .inl h
    · right; omega
theorem gap_needs (C E : Con) : gap C E = (needs C E).foldl max (-1000) := by
  rw [gap, needs, List.foldl_map]

/-- the first child at 0 -/
def Hd (C : Con) : Prop := ∃ r C', C = (0, r) :: C' ∧ 0 ≤ r
def H0 (E : Con) : Prop := ∃ E', E = (0, 0) :: E'
theorem least_eq {C E : Con} (hC : Hd C) (hE : H0 E) {m : Int} (h : IsMost (needs C E) m) : m + m % 2 = evenUp (gap C E) ∧ C.length ≠ 0 := by
  obtain ⟨r, C', rfl, hr⟩ := hC
  obtain ⟨E', rfl⟩ := hE
  refine ⟨?_, by simp⟩
  rcases h with ⟨h, _⟩ | ⟨h1, h2⟩
  · simp [needs] at h
  · have h3 : r + 2 - 0 ≤ m := h2 _ (by simp [needs])
    rw [gap_needs, foldl_max_eq m _ (-1000) (.inl h1) h2 (by omega), evenUp]
theorem needs_nil (E : Con) : needs [] E = [] := by simp [needs]
theorem Hd.join {C E : Con} (hC : Hd C) (hE : H0 E) : Hd (WT.join (evenUp (gap C E)) C E) := by
  obtain ⟨r, C', rfl, hr⟩ := hC
  obtain ⟨E', rfl⟩ := hE
  have h1 : gap ((0, r) :: C') ((0, 0) :: E') = gapFrom (r + 2) C' E' := gap_child (x := (0, r)) (by show -1002 ≤ r; omega)
  have h2 := gapFrom_ge C' E' (r + 2)
  have h3 := evenUp_ge (gap ((0, r) :: C') ((0, 0) :: E'))
  rw [WT.join]
  have h4 : min 0 (0 + evenUp (gap ((0, r) :: C') ((0, 0) :: E'))) = 0 := by omega
  refine ⟨max r (0 + evenUp (gap ((0, r) :: C') ((0, 0) :: E'))), WT.join (evenUp (gap ((0, r) :: C') ((0, 0) :: E'))) C' E', ?_, by omega⟩
  show (min 0 (0 + evenUp (gap ((0, r) :: C') ((0, 0) :: E'))), _) :: _ = _
  rw [h4]
theorem H0.hd {E : Con} (h : H0 E) : Hd E := by
  obtain ⟨E', rfl⟩ := h
  exact ⟨0, E', rfl, Int.le_refl _⟩
theorem allC_snoc (E : Con) : ∀ (l : List Con) (C : Con), allC C (l ++ [E]) = WT.join (evenUp (gap (allC C l) E)) (allC C l) E
  | [], C => rfl
  | F :: l, C => by
    show allC _ (l ++ [E]) = _
    rw [allC_snoc E l]
    rfl
theorem rootsC_snoc (E : Con) : ∀ (l : List Con) (C : Con), rootsC C (l ++ [E]) = rootsC C l ++ [evenUp (gap (allC C l) E)]
  | [], C => rfl
  | F :: l, C => by
    show _ :: rootsC _ (l ++ [E]) = _
    rw [rootsC_snoc E l]
    rfl
theorem all_hd : ∀ (l : List Con) {C : Con}, Hd C → (∀ E ∈ l, H0 E) → Hd (allC C l)
  | [], C, h, _ => h
  | E :: l, C, h, hl => all_hd l (h.join (hl E (by simp))) fun F hF => hl F (by simp [hF])
/-- what the loop over the children has, behind i of them -/
theorem whole_hd {l : List Con} (hl : ∀ E ∈ l, H0 E) (hn : l ≠ []) : Hd (whole l) := by
  cases l with
  | nil => exact absurd rfl hn
  | cons E l => exact all_hd l (hl E (by simp)).hd fun F hF => hl F (by simp [hF])
theorem whole_ok {l : List Con} (hl : ∀ E ∈ l, COk E) : COk (whole l) := by
  cases l with
  | nil => intro x hx; cases hx
  | cons E l => exact COk.all l (hl E (by simp)) fun F hF => hl F (by simp [hF])
theorem step_child {l : List Con} {E : Con} (hl : ∀ F ∈ l ++ [E], H0 F) (hk : ∀ F ∈ l ++ [E], COk F) {m : Int} (h : IsMost (needs (whole l) E) m) :
    roots (l ++ [E]) = roots l ++ [m + m % 2] ∧ whole (l ++ [E]) = jn (whole l) (shiftC (m + m % 2) E) := by
  have hE := hl E (by simp)
  cases l with
  | nil =>
    have hm : m = 0 := by
      rcases h with ⟨_, h⟩ | ⟨h, _⟩
      · exact h
      · rw [whole, needs_nil] at h; cases h
    subst hm
    refine ⟨rfl, ?_⟩
    rw [jn_eq]
    show E = shiftC _ E
    have : shiftC (0 + 0 % 2) E = E := by simp [shiftC]
    rw [this]
  | cons F l =>
    have hh := whole_hd (l := F :: l) (fun G hG => hl G (by simp at hG ⊢; rcases hG with hG | hG <;> simp [hG])) (by simp)
    obtain ⟨e, _⟩ := least_eq hh hE h
    rw [e, jn_eq]
    have hc := whole_ok (l := F :: l) fun G hG => hk G (by simp at hG ⊢; rcases hG with hG | hG <;> simp [hG])
    constructor
    · show _ :: rootsC _ (l ++ [E]) = _
      rw [rootsC_snoc]
      rfl
    · show allC _ (l ++ [E]) = _
      rw [allC_snoc]
      refine join_eq2 (m := -1000) hc (hk E (by simp)) ?_
      rw [← gap_eq]
      exact evenUp_ge _
theorem cons_h0 (cs : List Rose) : ∀ E ∈ cons cs, H0 E := by
  intro E hE
  rw [cons_map] at hE
  obtain ⟨c, _, rfl⟩ := List.mem_map.mp hE
  exact con_head c
theorem cons_ok (cs : List Rose) : ∀ E ∈ cons cs, COk E := by
  intro E hE
  rw [cons_map] at hE
  obtain ⟨c, _, rfl⟩ := List.mem_map.mp hE
  exact con_ok c
theorem midOf_nil : midOf (roots []) = 0 := by decide
theorem midOf_snoc {l : List Con} {r : List Int} {v : Int} (e : roots l = r ++ [v]) : midOf (roots l) = v / 2 := by
  cases l with
  | nil => cases r <;> cases e
  | cons E l =>
    have h0 : (roots (E :: l)).headD 0 = 0 := rfl
    rw [midOf, h0, e]
    simp
theorem whole_take_len {l : List Con} {n : Nat} (h : ∀ E ∈ l, E.length ≤ n) (i : Nat) : (whole (l.take i)).length ≤ n := by
  rw [whole_length]
  have : ∀ m : List Con, (∀ E ∈ m, E.length ≤ n) → most m ≤ n := by
    intro m
    induction m with
    | nil => intro _; exact Nat.zero_le _
    | cons E m ih =>
      intro hm
      have h1 := hm E (by simp)
      have h2 := ih fun F hF => hm F (by simp [hF])
      rw [most]; omega
  exact this _ fun E hE => h E (List.mem_of_mem_take hE)

/-! the leftmost of all -/
theorem left_some {l : Kh308.Drawing} : ∀ {k : Nat} {x : Int}, Kh308.left l k = some x → ∃ p ∈ l, p.deep = k ∧ p.place = x := by
  induction l with
  | nil => intro k x h; cases h
  | cons p l ih =>
    intro k x h
    rw [left_cons] at h
    split at h
    · rename_i hd
      cases e : Kh308.left l k with
      | none =>
        rw [e] at h
        exact ⟨p, by simp, hd, Option.some.inj h⟩
      | some y =>
        rw [e] at h
        have h : some (min p.place y) = some x := h
        have h := Option.some.inj h
        obtain ⟨q, hq, h1, h2⟩ := ih e
        by_cases hc : p.place ≤ y
        · exact ⟨p, by simp, hd, by omega⟩
        · exact ⟨q, by simp [hq], h1, by omega⟩
    · obtain ⟨q, hq, h1, h2⟩ := ih h
      exact ⟨q, by simp [hq], h1, h2⟩
theorem left_le {l : Kh308.Drawing} : ∀ {p : Kh308.Put}, p ∈ l → ∃ x, Kh308.left l p.deep = some x ∧ x ≤ p.place := by
  induction l with
  | nil => intro p h; cases h
  | cons q l ih =>
    intro p h
    rw [left_cons]
    obtain rfl | h := List.mem_cons.mp h
    · rw [if_pos rfl]
      cases e : Kh308.left l p.deep with
      | none => exact ⟨p.place, rfl, Int.le_refl _⟩
      | some y => exact ⟨min p.place y, rfl, by omega⟩
    · obtain ⟨x, hx, hle⟩ := ih h
      rw [hx]
      split
      · exact ⟨min q.place x, rfl, by omega⟩
      · exact ⟨x, rfl, hle⟩
theorem edge_eq {r : Rose} (hs : r.size ≤ 128) {m : Int} (h1 : m ∈ (con r).map (·.1)) (h2 : ∀ y ∈ (con r).map (·.1), m ≤ y) : edge r = -m := by
  obtain ⟨he, hr⟩ := drawR_puts r hs 0
  rw [he] at hr
  have hp : placed 0 r = (puts 0 0 0 r).map (·.place) := (puts_places r 0 0 0).symm
  have hmem : ∀ q ∈ placed 0 r, m ≤ q := by
    intro q hq
    rw [hp] at hq
    obtain ⟨p, hpm, rfl⟩ := List.mem_map.mp hq
    obtain ⟨x, hx, hle⟩ := left_le hpm
    rw [hr.lf] at hx
    obtain ⟨y, hy, e⟩ := Option.map_eq_some_iff.mp hx
    have := h2 x (List.mem_map.mpr ⟨y, List.mem_of_getElem? hy, e⟩)
    omega
  rw [edge, foldl_min_eq m (placed 0 r) 0 (.inl ?_) hmem (hmem 0 ?_)]
  · obtain ⟨y, hy, e⟩ := List.mem_map.mp h1
    obtain ⟨k, hk⟩ := List.mem_iff_getElem?.mp hy
    have hl : Kh308.left (puts 0 0 0 r) k = some m := by rw [hr.lf, hk, ← e]; rfl
    obtain ⟨p, hpm, _, e2⟩ := left_some hl
    rw [hp]
    exact List.mem_map.mpr ⟨p, hpm, e2⟩
  · cases r with | node v cs => simp [placed]

/-! the order: who stands ahead of whom -/
theorem flat_full {kids : Kids} (F : Forest kids) {v : Nat} (hv : v < 128) : (full kids v).flat = v :: (kids v).flatMap fun c => (full kids c).flat := by
  rw [F.full_eq hv, Rose.flat, flats_map]
/-- each one but what hangs under v has its parent ahead -/
def Led (kids : Kids) (v : Nat) (l : List Nat) : Prop := ∀ (i : Nat) (x : Nat), l[i]? = some x → x ∈ kids v ∨ ∃ (j q : Nat), j < i ∧ l[j]? = some q ∧ x ∈ kids q
theorem Led.append {kids : Kids} {v : Nat} {l m : List Nat} (h : Led kids v l) (k : Led kids v m) : Led kids v (l ++ m) := by
  intro i x hx
  by_cases hi : i < l.length
  · rw [List.getElem?_append_left hi] at hx
    rcases h i x hx with q | ⟨j, q, hj, h1, h2⟩
    · exact .inl q
    · exact .inr ⟨j, q, hj, by rw [List.getElem?_append_left (by omega)]; exact h1, h2⟩
  · rw [List.getElem?_append_right (by omega)] at hx
    rcases k _ x hx with q | ⟨j, q, hj, h1, h2⟩
    · exact .inl q
    · exact .inr ⟨l.length + j, q, by omega, by rw [List.getElem?_append_right (by omega), Nat.add_sub_cancel_left]; exact h1, h2⟩
theorem led_grose (kids : Kids) : ∀ (f v i x : Nat), (grose kids f v).flat[i]? = some x → (i = 0 ∧ x = v) ∨ ∃ (j q : Nat), j < i ∧ (grose kids f v).flat[j]? = some q ∧ x ∈ kids q := by
  intro f
  induction f with
  | zero =>
    intro v i x h
    have h : ([v] : List Nat)[i]? = some x := h
    cases i with
    | zero => left; simp at h; exact ⟨rfl, h.symm⟩
    | succ i => simp at h
  | succ f ih =>
    intro v i x h
    have e : (grose kids (f + 1) v).flat = v :: (kids v).flatMap fun c => (grose kids f c).flat := by
      rw [grose, Rose.flat, flats_map]
    have hL : ∀ m : List Nat, (∀ c ∈ m, c ∈ kids v) → Led kids v (m.flatMap fun c => (grose kids f c).flat) := by
      intro m
      induction m with
      | nil => intro _ i x h; simp at h
      | cons c m ihm =>
        intro hm
        rw [List.flatMap_cons]
        refine Led.append (fun i x h => ?_) (ihm fun d hd => hm d (by simp [hd]))
        rcases ih c i x h with ⟨_, rfl⟩ | q
        · exact .inl (hm x (by simp))
        · exact .inr q
    rw [e] at h ⊢
    cases i with
    | zero => left; simp at h; exact ⟨rfl, h.symm⟩
    | succ i =>
      right
      rw [List.getElem?_cons_succ] at h
      rcases hL (kids v) (fun _ hc => hc) i x h with q | ⟨j, q, hj, h1, h2⟩
      · exact ⟨0, v, by omega, by simp, q⟩
      · exact ⟨j + 1, q, by omega, by rw [List.getElem?_cons_succ]; exact h1, h2⟩
theorem ahead {kids : Kids} {v i x : Nat} (h : (full kids v).flat[i]? = some x) : (i = 0 ∧ x = v) ∨ ∃ (j q : Nat), j < i ∧ (full kids v).flat[j]? = some q ∧ x ∈ kids q := led_grose kids 128 v i x h
theorem nd_at {l : List Nat} (hn : l.Nodup) {i j x : Nat} (a : l[i]? = some x) (b : l[j]? = some x) : i = j := by
  obtain ⟨h1, e1⟩ := List.getElem?_eq_some_iff.mp a
  obtain ⟨h2, e2⟩ := List.getElem?_eq_some_iff.mp b
  exact (List.getElem_inj hn).mp (e1.trans e2.symm)
/-- a child stands behind -/
theorem behind {kids : Kids} (F : Forest kids) {v : Nat} (hv : v < 128) (hr : ∀ p, v ∉ kids p) {i x c : Nat} (h : (full kids v).flat[i]? = some x) (hc : c ∈ kids x) : ∃ j, i < j ∧ (full kids v).flat[j]? = some c := by
  have hx : Desc kids v x := F.mem_desc _ _ _ (List.mem_of_getElem? h)
  have hm : c ∈ (full kids v).flat := F.desc_full hv (.step hx hc)
  obtain ⟨j, hj⟩ := List.mem_iff_getElem?.mp hm
  rcases ahead hj with ⟨_, rfl⟩ | ⟨j', q, hlt, h1, h2⟩
  · exact absurd hc (hr x)
  · have e : q = x := F.uniq _ _ _ h2 hc
    subst e
    have := nd_at (F.flat_nodup 128 v) h1 h
    exact ⟨j, by omega, hj⟩

/-! what is shown of a child -/
theorem showss_at (d : Nat) : ∀ (cs : List Rose) (xs : List Int), ∀ (k : Nat) (c : Rose) (x : Int), cs[k]? = some c → xs[k]? = some x → ∀ p ∈ shows d x c, p ∈ showss d xs cs
  | [], xs, k, c, x, h, _, p, _ => by simp at h
  | e :: cs, [], k, c, x, _, h, p, _ => by simp at h
  | e :: cs, y :: xs, 0, c, x, h, h', p, hp => by
    simp at h h'
    subst h h'
    rw [showss]
    exact List.mem_append.mpr (.inl hp)
  | e :: cs, y :: xs, k + 1, c, x, h, h', p, hp => by
    rw [showss]
    refine List.mem_append.mpr (.inr ?_)
    exact showss_at d cs xs k c x (by simpa using h) (by simpa using h') p hp
theorem showss_in (d : Nat) : ∀ (cs : List Rose) (xs : List Int), cs.length = xs.length → ∀ p ∈ showss d xs cs, ∃ (k : Nat) (c : Rose) (x : Int), cs[k]? = some c ∧ xs[k]? = some x ∧ p ∈ shows d x c
  | [], xs, _, p, h => by cases h
  | e :: cs, [], h, p, _ => by simp at h
  | e :: cs, y :: xs, hl, p, h => by
    rw [showss] at h
    obtain h | h := List.mem_append.mp h
    · exact ⟨0, e, y, rfl, rfl, h⟩
    · obtain ⟨k, c, x, h1, h2, h3⟩ := showss_in d cs xs (by simpa using hl) p h
      exact ⟨k + 1, c, x, by simpa using h1, by simpa using h2, h3⟩
theorem shows_root {r : Rose} (d : Nat) (x : Int) : ⟨r.label, d, x⟩ ∈ shows d x r := by
  cases r with | node v cs => rw [shows]; exact List.mem_cons_self ..
theorem full_label (kids : Kids) (v : Nat) : (full kids v).label = v := by
  rw [full, grose]; rfl
theorem shows_child {kids : Kids} (F : Forest kids) (r : Rose) : ∀ (u d : Nat) (x : Int), u < 128 → r = full kids u → ∀ (v l : Nat) (p : Int), ⟨v, l, p⟩ ∈ shows d x r →
    ∀ (k c : Nat) (o : Int), (kids v)[k]? = some c → (offs ((kids v).map (full kids)))[k]? = some o → ⟨c, l + 1, p + o⟩ ∈ shows d x r := by
  induction r using Rose.ind with
  | h w cs ih =>
    intro u d x hu e v l p hm k c o hc ho
    rw [F.full_eq hu] at e
    injection e with e1 e2
    subst e1 e2
    rw [shows] at hm ⊢
    rcases List.mem_cons.mp hm with h | h
    · injection h with h1 h2 h3
      subst h1 h2 h3
      refine List.mem_cons.mpr (.inr ?_)
      refine showss_at _ _ _ k (full kids c) (p + o) (by rw [List.getElem?_map, hc]; rfl) (by rw [List.getElem?_map, ho]; rfl) _ ?_
      have := shows_root (r := full kids c) (l + 1) (p + o)
      rwa [full_label] at this
    · refine List.mem_cons.mpr (.inr ?_)
      obtain ⟨j, c', y, h1, h2, h3⟩ := showss_in _ _ _ (by rw [List.length_map, List.length_map, offs_length, List.length_map]) _ h
      rw [List.getElem?_map] at h1
      obtain ⟨n, hn, e⟩ := Option.map_eq_some_iff.mp h1
      subst e
      have hn' : n ∈ kids w := List.mem_of_getElem? hn
      have := ih (full kids n) (List.mem_map.mpr ⟨n, hn', rfl⟩) n (d + 1) y (F.lt _ _ hn') rfl v l p h3 k c o hc ho
      exact showss_at _ _ _ j (full kids n) y (by rw [List.getElem?_map, hn]; rfl) h2 _ this
/-- a node of the order is shown just once -/
theorem shows_at {r : Rose} {d : Nat} {x : Int} (hn : r.flat.Nodup) {i : Nat} {s : Kh309.Shown} (hs : s ∈ shows d x r) (hi : r.flat[i]? = some s.node) : (shows d x r)[i]? = some s := by
  obtain ⟨j, hj⟩ := List.mem_iff_getElem?.mp hs
  have e : r.flat[j]? = some s.node := by rw [← shows_nodes r d x, List.getElem?_map, hj]; rfl
  rw [nd_at hn hi e]
  exact hj
end WT
namespace TW
open PySem L2 WT
open Kh309 (Abs)

abbrev nV (n : Nat) : V := V.int (n : Int)
def nVs (l : List Nat) : List V := l.map nV
abbrev zs (l : List Int) : List V := l.map V.int
abbrev kN (n : Nat) : Key := Sum.inl (n : Int)
theorem kN_inj {m n : Nat} (h : kN m = kN n) : m = n := by
  have := Sum.inl.inj h
  omega

/-! ### dicts whose keys are nodes' numbers -/
theorem valV_dropK (k j : Key) : ∀ kvs : List (Key × V), valV (dropK kvs k) j = if j = k then none else valV kvs j
  | [] => by rw [show dropK ([] : List (Key × V)) k = [] from rfl, valV_nil]; split <;> rfl
  | p :: r => by
    have ih := valV_dropK k j r
    by_cases h : p.1 = k
    · rw [dropK_pos h, ih]
      by_cases e : j = k
      · rw [if_pos e, if_pos e]
      · rw [if_neg e, if_neg e, valV_neg fun z => e (z.symm.trans h)]
    · rw [dropK_neg h]
      by_cases e : p.1 = j
      · rw [valV_pos e, if_neg (fun z => h (e.trans z)), valV_pos e]
      · rw [valV_neg e, ih]
        by_cases e2 : j = k
        · rw [if_pos e2, if_pos e2]
        · rw [if_neg e2, if_neg e2, valV_neg e]
open Classical in
theorem keys_putK (kvs : List (Key × V)) (k : Key) (v : V) : (putK kvs k v).map (·.1) = if k ∈ kvs.map (·.1) then kvs.map (·.1) else kvs.map (·.1) ++ [k] := by
  unfold putK
  by_cases h : k ∈ kvs.map (·.1)
  · have a : (kvs.any fun kv => decide (kv.1 = k)) = true := by
      obtain ⟨p, hp, e⟩ := List.mem_map.mp h
      exact List.any_eq_true.mpr ⟨p, hp, decide_eq_true e⟩
    rw [if_pos a, if_pos h, List.map_map]
    apply List.map_congr_left
    intro p _
    show (if p.1 = k then (p.1, v) else p).1 = p.1
    split <;> rfl
  · have a : ¬ (kvs.any fun kv => decide (kv.1 = k)) = true := fun q => by
      obtain ⟨p, hp, e⟩ := List.any_eq_true.mp q
      exact h (List.mem_map.mpr ⟨p, hp, of_decide_eq_true e⟩)
    rw [if_neg a, if_neg h, List.map_append]
    rfl
structure Tab (kvs : List (Key × V)) (f : Nat → Option V) : Prop where
  nd : (kvs.map (·.1)).Nodup
  key : ∀ k ∈ kvs.map (·.1), ∃ n : Nat, n < 128 ∧ k = kN n
  val : ∀ n : Nat, valV kvs (kN n) = f n
def keyN : Key → Nat
  | .inl i => i.toNat
  | _ => 0
theorem Tab.nodes {kvs : List (Key × V)} {f : Nat → Option V} (t : Tab kvs f) : ∃ ns : List Nat, ns.Nodup ∧ ns.length = kvs.length ∧ (∀ n, n ∈ ns ↔ (f n).isSome = true) ∧ ∀ n ∈ ns, n < 128 := by
  refine ⟨(kvs.map (·.1)).map keyN, ?_, by simp, fun n => ?_, fun n hn => ?_⟩
  · rw [List.Nodup, List.pairwise_map]
    refine List.Pairwise.imp_of_mem (fun {a b} ha hb hab => ?_) t.nd
    obtain ⟨m, _, rfl⟩ := t.key a ha
    obtain ⟨n, _, rfl⟩ := t.key b hb
    intro e
    have e : (m : Int).toNat = (n : Int).toNat := e
    exact hab (by rw [show m = n by omega])
  · rw [← t.val]
    constructor
    · intro h
      obtain ⟨k, hk, e⟩ := List.mem_map.mp h
      obtain ⟨m, _, rfl⟩ := t.key k hk
      have e : (m : Int).toNat = n := e
      have e : m = n := by omega
      subst e
      cases q : valV kvs (kN m) with
      | none => exact absurd hk (valV_not q)
      | some v => rfl
    · intro h
      obtain ⟨v, hv⟩ := Option.isSome_iff_exists.mp h
      exact List.mem_map.mpr ⟨kN n, valV_in hv, by show (n : Int).toNat = n; omega⟩
  · obtain ⟨k, hk, e⟩ := List.mem_map.mp hn
    obtain ⟨m, hm, rfl⟩ := t.key k hk
    have e : (m : Int).toNat = n := e
    omega
theorem Tab.len {kvs : List (Key × V)} {f : Nat → Option V} (t : Tab kvs f) : kvs.length ≤ 128 := by
  obtain ⟨ns, h1, h2, _, h3⟩ := t.nodes
  have := pigeon 128 ns h1 h3
  omega
theorem Tab.small {kvs : List (Key × V)} {f : Nat → Option V} (t : Tab kvs f) : kvs.length < sizeLine := by
  have := t.len
  rw [sizeLine_eq]; omega
theorem Tab.put {kvs : List (Key × V)} {f : Nat → Option V} (t : Tab kvs f) {n : Nat} (hn : n < 128) (v : V) : Tab (putK kvs (kN n) v) (fun m => if m = n then some v else f m) := by
  refine ⟨?_, ?_, fun m => ?_⟩
  · rw [keys_putK]
    split
    · exact t.nd
    · exact nd_snoc t.nd (by assumption)
  · intro k hk
    rw [keys_putK] at hk
    split at hk
    · exact t.key k hk
    · rcases List.mem_append.mp hk with h | h
      · exact t.key k h
      · exact ⟨n, hn, List.mem_singleton.mp h⟩
  · rw [valV_put]
    by_cases h : m = n
    · rw [if_pos (by rw [h]), if_pos h]
    · rw [if_neg (fun e => h (kN_inj e)), if_neg h, t.val]
theorem Tab.drop {kvs : List (Key × V)} {f : Nat → Option V} (t : Tab kvs f) (n : Nat) : Tab (dropK kvs (kN n)) (fun m => if m = n then none else f m) := by
  refine ⟨nd_dropK t.nd, fun k hk => ?_, fun m => ?_⟩
  · obtain ⟨p, hp, e⟩ := List.mem_map.mp hk
    exact t.key k (List.mem_map.mpr ⟨p, dropK_mem hp, e⟩)
  · rw [valV_dropK]
    by_cases h : m = n
    · rw [if_pos (by rw [h]), if_pos h]
    · rw [if_neg (fun e => h (kN_inj e)), if_neg h, t.val]
theorem Tab.congr {kvs : List (Key × V)} {f g : Nat → Option V} (t : Tab kvs f) (e : ∀ n, f n = g n) : Tab kvs g := ⟨t.nd, t.key, fun n => (t.val n).trans (e n)⟩
theorem Tab.one (v : V) : Tab (mergeK [] [(kN 0, v)]) (fun m => if m = 0 then some v else none) := by
  have h : Tab [] (fun _ => none) := ⟨List.nodup_nil, fun k hk => absurd hk (by simp), fun n => rfl⟩
  exact h.put (n := 0) (by omega) v

/-! ### the tree object -/
theorem s_rp : (("rows" : Str) == ("parents" : Str)) = false := by decide +kernel
theorem s_sp : (("shut" : Str) == ("parents" : Str)) = false := by decide +kernel
theorem s_sr : (("shut" : Str) == ("rows" : Str)) = false := by decide +kernel
theorem s_tp : (("standing" : Str) == ("parents" : Str)) = false := by decide +kernel
theorem s_tr : (("standing" : Str) == ("rows" : Str)) = false := by decide +kernel
theorem s_ts : (("standing" : Str) == ("shut" : Str)) = false := by decide +kernel
def tf (dp dr ds : Addr) (st : Nat) : List (Str × V) := [("parents", .ref dp), ("rows", .ref dr), ("shut", .ref ds), ("standing", .int (st : Int))]
section
variable (dp dr ds : Addr) (st : Nat)
theorem tf_p : (tf dp dr ds st).lookup ("parents" : Str) = some (.ref dp) := by
  unfold tf
  rw [List.lookup_cons, beq_self_eq_true]
theorem tf_r : (tf dp dr ds st).lookup ("rows" : Str) = some (.ref dr) := by
  unfold tf
  rw [List.lookup_cons, s_rp, List.lookup_cons, beq_self_eq_true]
theorem tf_s : (tf dp dr ds st).lookup ("shut" : Str) = some (.ref ds) := by
  unfold tf
  rw [List.lookup_cons, s_sp, List.lookup_cons, s_sr, List.lookup_cons, beq_self_eq_true]
theorem tf_t : (tf dp dr ds st).lookup ("standing" : Str) = some (.int (st : Int)) := by
  unfold tf
  rw [List.lookup_cons, s_tp, List.lookup_cons, s_tr, List.lookup_cons, s_ts, List.lookup_cons, beq_self_eq_true]
theorem tf_no {m : Str} (h1 : (m == ("parents" : Str)) = false) (h2 : (m == ("rows" : Str)) = false) (h3 : (m == ("shut" : Str)) = false) (h4 : (m == ("standing" : Str)) = false) : (tf dp dr ds st).lookup m = none := by
  unfold tf
  rw [List.lookup_cons, h1, List.lookup_cons, h2, List.lookup_cons, h3, List.lookup_cons, h4]
  rfl
theorem tf_len : (tf dp dr ds st).length < 1000 := by show 4 < 1000; decide
theorem tf_putT (n : Nat) : putF "standing" (.int (n : Int)) (tf dp dr ds st) = tf dp dr ds n := by
  have h1 : ¬ (("parents" : Str) = "standing") := by decide +kernel
  have h2 : ¬ (("rows" : Str) = "standing") := by decide +kernel
  have h3 : ¬ (("shut" : Str) = "standing") := by decide +kernel
  unfold tf
  rw [putF, if_neg h1, putF, if_neg h2, putF, if_neg h3, putF, if_pos rfl]
theorem tf_putP (n : Addr) : putF "parents" (.ref n) (tf dp dr ds st) = tf n dr ds st := by
  unfold tf
  rw [putF, if_pos rfl]
theorem tf_putR (n : Addr) : putF "rows" (.ref n) (tf dp dr ds st) = tf dp n ds st := by
  have h1 : ¬ (("parents" : Str) = "rows") := by decide +kernel
  unfold tf
  rw [putF, if_neg h1, putF, if_pos rfl]
theorem tf_putS (n : Addr) : putF "shut" (.ref n) (tf dp dr ds st) = tf dp dr n st := by
  have h1 : ¬ (("parents" : Str) = "shut") := by decide +kernel
  have h2 : ¬ (("rows" : Str) = "shut") := by decide +kernel
  unfold tf
  rw [putF, if_neg h1, putF, if_neg h2, putF, if_pos rfl]
theorem tf_new : putF "standing" (.int (st : Int)) (putF "shut" (.ref ds) (putF "rows" (.ref dr) (putF "parents" (.ref dp) []))) = tf dp dr ds st := by
  have h1 : ¬ (("parents" : Str) = "rows") := by decide +kernel
  have h2 : ¬ (("parents" : Str) = "shut") := by decide +kernel
  have h3 : ¬ (("rows" : Str) = "shut") := by decide +kernel
  have h4 : ¬ (("parents" : Str) = "standing") := by decide +kernel
  have h5 : ¬ (("rows" : Str) = "standing") := by decide +kernel
  have h6 : ¬ (("shut" : Str) = "standing") := by decide +kernel
  simp only [putF, if_neg h1, if_neg h2, if_neg h3, if_neg h4, if_neg h5, if_neg h6]
  rfl
end
/-- where the tree's things lie -/
structure Tr where
  dx : Addr
  dp : Addr
  dr : Addr
  ds : Addr
  kp : List (Key × V)
  kr : List (Key × V)
  ks : List (Key × V)
  ra : Nat → Addr
def pV (a : Abs) (n : Nat) : V := match a.parent n with
  | none => .non
  | some q => .int (q : Int)
def fP (a : Abs) (n : Nat) : Option V := if a.there n = true then some (pV a n) else none
def fR (a : Abs) (ra : Nat → Addr) (n : Nat) : Option V := if a.there n = true then some (.ref (ra n)) else none
def fS (a : Abs) (n : Nat) : Option V := if a.isShut n = true then some (.bl true) else none
structure TreeAt (C : Addr) (H : Hp) (p : Addr) (t : Tr) (a : Abs) : Prop where
  wf : WF a
  ob : H p = some (.ins C t.dx (tf t.dp t.dr t.ds a.stands))
  hp : H t.dp = some (.dK t.kp)
  hr : H t.dr = some (.dK t.kr)
  hs : H t.ds = some (.dK t.ks)
  n1 : t.dp ≠ t.dr
  n2 : t.dp ≠ t.ds
  n3 : t.dr ≠ t.ds
  tp : Tab t.kp (fP a)
  tr : Tab t.kr (fR a t.ra)
  ts : Tab t.ks (fS a)
  lst : ∀ n, a.there n = true → H (t.ra n) = some (.lst (nVs (a.children n)))
  inj : ∀ m n, a.there m = true → a.there n = true → t.ra m = t.ra n → m = n
/-- what is the tree's own -/
def Own (p : Addr) (t : Tr) (a : Abs) (b : Addr) : Prop := b = p ∨ b = t.dp ∨ b = t.dr ∨ b = t.ds ∨ ∃ n, a.there n = true ∧ b = t.ra n
theorem TreeAt.same {C : Addr} {H H' : Hp} {p : Addr} {t : Tr} {a : Abs} (T : TreeAt C H p t a) (s : Same H H') : TreeAt C H' p t a :=
  { T with ob := s _ _ T.ob, hp := s _ _ T.hp, hr := s _ _ T.hr, hs := s _ _ T.hs, lst := fun n hn => s _ _ (T.lst n hn) }
/-- what was there and not the tree's is as it was, and not the tree's -/
def Kept (p : Addr) (t : Tr) (a : Abs) (H : Hp) (t' : Tr) (a' : Abs) (H' : Hp) : Prop := ∀ b o, H b = some o → ¬ Own p t a b → H' b = some o ∧ ¬ Own p t' a' b
theorem Kept.refl {p : Addr} {t : Tr} {a : Abs} {H H' : Hp} (s : Same H H') : Kept p t a H t a H' := fun b o e hb => ⟨s b o e, hb⟩
theorem same_new {H : Hp} {x : Addr} {o : HO} (h : H x = none) : Same H (upd H x o) := fun b u e => by rw [upd_ne (ne_of_none e h)]; exact e
theorem Same.own {H H' : Hp} {x : Addr} {o : HO} (h : H x = none) (s : Same H H') : Same H (upd H' x o) := fun b u e => by rw [upd_ne (ne_of_none e h)]; exact s b u e
theorem ints_len (l : List Nat) : (nVs l).length = l.length := List.length_map ..
theorem ints_get (l : List Nat) (i : Nat) : (nVs l)[i]? = l[i]?.map nV := List.getElem?_map ..
theorem ints_at {l : List Nat} {i : Nat} {y : V} (h : (nVs l)[i]? = some y) : ∃ n, l[i]? = some n ∧ y = .int (n : Int) := by
  rw [ints_get] at h
  obtain ⟨n, h1, h2⟩ := Option.map_eq_some_iff.mp h
  exact ⟨n, h1, h2.symm⟩
theorem ints_append (l m : List Nat) : nVs (l ++ m) = nVs l ++ nVs m := List.map_append ..
theorem small {n : Nat} (h : n ≤ 100000) : n ≤ sizeLine := by rw [sizeLine_eq]; omega
theorem small' {n : Nat} (h : n ≤ 100000) : n < sizeLine := by rw [sizeLine_eq]; omega
section
variable {C : Addr} {H : Hp} {p : Addr} {t : Tr} {a : Abs} (T : TreeAt C H p t a)
include T
theorem TreeAt.parOf {n : Nat} (h : a.there n = true) : valV t.kp (kN n) = some (pV a n) := by rw [T.tp.val, fP, if_pos h]
theorem TreeAt.parNo {n : Nat} (h : a.there n = false) : valV t.kp (kN n) = none := by rw [T.tp.val, fP, if_neg (by rw [h]; decide)]
theorem TreeAt.isThere (n : Nat) : (valV t.kp (kN n)).isSome = a.there n := by
  cases h : a.there n with
  | true => rw [T.parOf h]; rfl
  | false => rw [T.parNo h]; rfl
theorem TreeAt.rowOf {n : Nat} (h : a.there n = true) : valV t.kr (kN n) = some (.ref (t.ra n)) := by rw [T.tr.val, fR, if_pos h]
theorem TreeAt.isShut (n : Nat) : (valV t.ks (kN n)).isSome = a.isShut n := by
  rw [T.ts.val, fS]
  cases a.isShut n <;> rfl
theorem TreeAt.kids_len (n : Nat) : (a.children n).length ≤ 128 := pigeon 128 _ (T.wf.nd n) fun c hc => T.wf.forest.lt n c hc
end
theorem int_nat {z : Int} (h : 0 ≤ z) : ∃ n : Nat, z = (n : Int) := ⟨z.toNat, by omega⟩
end TW
namespace TW
open PySem L2 WT
open Kh309 (Abs)

theorem tyes {σ : St} {H : Hp} {A B : Hp → Prop} (h : A H) : tYes σ H (fun c H3 => if c = true then A H3 else B H3) := by
  show if true = true then A H else B H
  exact iteT h
/-! ### walks over two lists at once, and from the end -/
theorem lc_zip {K : PySem.W.Frag} {a b : Addr} {xs ys : List V} {g : TG} {tt : TT} {te : TE} {vs : List Nat} {σ : St} {H1 : Hp} {D : Addr} {Qd : Hp → Prop} (Pv : Nat → Hp → Prop) (h0 : Pv 0 (upd H1 D (.lst [])))
    (hl : ∀ i H, Pv i H → SqL K H a xs ∧ SqL K H b ys)
    (hs : ∀ i x y H T, xs[i]? = some x → ys[i]? = some y → H T = none → Pv i H → g (.ref T) (wipe σ vs) (upd H T (.tup [x, y])) fun σ2 H2 => wipe σ2 vs = wipe σ vs ∧ tt σ2 H2 fun c H3 =>
      if c = true then te σ2 H3 fun z H4 => ∃ acc, H4 D = some (.lst acc) ∧ acc.length < sizeLine ∧ Pv (i + 1) (upd H4 D (.lst (acc ++ [z]))) else Pv (i + 1) H3) (hd : ∀ H, Pv (min xs.length ys.length) H → Qd H) :
    ∃ W : Nat → Nat → Hp → Prop, (∃ m, W 0 m (upd H1 D (.lst []))) ∧ ∀ i m H, W i m H →
      ((Itz K a b).stop i H ∧ Qd H) ∨ ((Itz K a b).go i H ∧ ∃ Nx : Hp → Prop, (∀ H', Nx H' → ∃ m', m' < m ∧ W (i + 1) m' H') ∧ ∀ x H', (Itz K a b).yld i H x H' → g x (wipe σ vs) H' fun σ2 H2 => wipe σ2 vs = wipe σ vs ∧ tt σ2 H2 fun c H3 =>
        if c = true then te σ2 H3 fun y H4 => ∃ acc, H4 D = some (.lst acc) ∧ acc.length < sizeLine ∧ Nx (upd H4 D (.lst (acc ++ [y]))) else Nx H3) := by
  refine ⟨fun i m H => m = min xs.length ys.length - i ∧ i ≤ min xs.length ys.length ∧ Pv i H, ⟨_, rfl, Nat.zero_le _, h0⟩, ?_⟩
  rintro i m H ⟨rfl, hi, p⟩
  obtain ⟨q1, q2⟩ := hl i H p
  by_cases hlt : i < min xs.length ys.length
  · have l1 : i < xs.length := by omega
    have l2 : i < ys.length := by omega
    refine .inr ⟨⟨xs, ys, xs[i], ys[i], q1, q2, by simp [l1], by simp [l2]⟩, Pv (i + 1), fun H' p' => ⟨min xs.length ys.length - (i + 1), by omega, rfl, by omega, p'⟩, fun x H' y => ?_⟩
    obtain ⟨Tt, x1, y1, rfl, hT, rfl, hx, hy⟩ := y
    exact hs i x1 y1 H Tt (hx xs q1) (hy ys q2) hT p
  · have e : i = min xs.length ys.length := by omega
    subst e
    exact .inl ⟨⟨xs, ys, q1, q2, by omega⟩, hd H p⟩
theorem for_zip {K : PySem.W.Frag} {a b : Addr} {xs ys : List V} {g : TG} {tb : TS} {D : Ends} {σ : St} {H : Hp} (Pv : Nat → St → Hp → Prop) (h0 : Pv 0 σ H) (hl : ∀ i σ H, Pv i σ H → SqL K H a xs ∧ SqL K H b ys)
    (hs : ∀ i x y σ H T, xs[i]? = some x → ys[i]? = some y → H T = none → Pv i σ H → g (.ref T) σ (upd H T (.tup [x, y])) fun σ2 H2 => tb { D with nx := Pv (i + 1), ct := Pv (i + 1), bk := D.nx } σ2 H2)
    (hd : ∀ σ H, Pv (min xs.length ys.length) σ H → D.nx σ H) :
    ∃ W : Nat → Nat → St → Hp → Prop, (∃ m, W 0 m σ H) ∧ ∀ i m σ H, W i m σ H →
      ((Itz K a b).stop i H ∧ D.nx σ H) ∨ ((Itz K a b).go i H ∧ ∃ N : St → Hp → Prop, (∀ σ' H', N σ' H' → ∃ m', m' < m ∧ W (i + 1) m' σ' H') ∧ ∀ x H', (Itz K a b).yld i H x H' → g x σ H' fun σ2 H2 => tb { D with nx := N, ct := N, bk := D.nx } σ2 H2) := by
  refine ⟨fun i m σ H => m = min xs.length ys.length - i ∧ i ≤ min xs.length ys.length ∧ Pv i σ H, ⟨_, rfl, Nat.zero_le _, h0⟩, ?_⟩
  rintro i m σ H ⟨rfl, hi, p⟩
  obtain ⟨q1, q2⟩ := hl i σ H p
  by_cases hlt : i < min xs.length ys.length
  · have l1 : i < xs.length := by omega
    have l2 : i < ys.length := by omega
    refine .inr ⟨⟨xs, ys, xs[i], ys[i], q1, q2, by simp [l1], by simp [l2]⟩, Pv (i + 1), fun σ' H' p' => ⟨min xs.length ys.length - (i + 1), by omega, rfl, by omega, p'⟩, fun x H' y => ?_⟩
    obtain ⟨Tt, x1, y1, rfl, hT, rfl, hx, hy⟩ := y
    exact hs i x1 y1 σ H Tt (hx xs q1) (hy ys q2) hT p
  · have e : i = min xs.length ys.length := by omega
    subst e
    exact .inl ⟨⟨xs, ys, q1, q2, by omega⟩, hd σ H p⟩
theorem for_rev {K : PySem.W.Frag} {a : Addr} {xs : List V} {g : TG} {tb : TS} {D : Ends} {σ : St} {H : Hp} (Pv : Nat → St → Hp → Prop) (h0 : Pv 0 σ H) (hl : ∀ i σ H, Pv i σ H → SqL K H a xs)
    (hs : ∀ i x σ H, i < xs.length → xs[xs.length - 1 - i]? = some x → Pv i σ H → g x σ H fun σ2 H2 => tb { D with nx := Pv (i + 1), ct := Pv (i + 1), bk := D.nx } σ2 H2) (hd : ∀ σ H, Pv xs.length σ H → D.nx σ H) :
    ∃ W : Nat → Nat → St → Hp → Prop, (∃ m, W 0 m σ H) ∧ ∀ i m σ H, W i m σ H →
      ((Itv K a xs.length).stop i H ∧ D.nx σ H) ∨ ((Itv K a xs.length).go i H ∧ ∃ N : St → Hp → Prop, (∀ σ' H', N σ' H' → ∃ m', m' < m ∧ W (i + 1) m' σ' H') ∧ ∀ x H', (Itv K a xs.length).yld i H x H' → g x σ H' fun σ2 H2 => tb { D with nx := N, ct := N, bk := D.nx } σ2 H2) := by
  refine ⟨fun i m σ H => m = xs.length - i ∧ i ≤ xs.length ∧ Pv i σ H, ⟨_, rfl, Nat.zero_le _, h0⟩, ?_⟩
  rintro i m σ H ⟨rfl, hi, p⟩
  have q := hl i σ H p
  by_cases hlt : i < xs.length
  · have l1 : xs.length - 1 - i < xs.length := by omega
    refine .inr ⟨⟨hlt, xs, xs[xs.length - 1 - i], q, List.getElem?_eq_getElem l1⟩, Pv (i + 1), fun σ' H' p' => ⟨xs.length - (i + 1), by omega, rfl, by omega, p'⟩, fun x H' y => ?_⟩
    obtain ⟨rfl, hx⟩ := y
    exact hs i x σ _ hlt (hx xs q) p
  · have e : i = xs.length := by omega
    subst e
    exact .inl ⟨Nat.le_refl _, hd σ H p⟩

/-! ### outlines -/
def pT (x : Int × Int) : HO := .tup [.int x.1, .int x.2]
structure TupsAt (H : Hp) (us : List Addr) (F : Con) : Prop where
  len : us.length = F.length
  at_ : ∀ (j : Nat) x, F[j]? = some x → ∃ t, us[j]? = some t ∧ H t = some (pT x)
theorem TupsAt.mono {H H' : Hp} {us : List Addr} {F : Con} (h : TupsAt H us F) (k : ∀ t x, H t = some (pT x) → H' t = some (pT x)) : TupsAt H' us F :=
  ⟨h.len, fun j x hx => let ⟨t, h1, h2⟩ := h.at_ j x hx; ⟨t, h1, k t x h2⟩⟩
theorem TupsAt.snoc {H : Hp} {us : List Addr} {F : Con} {t : Addr} {x : Int × Int} (h : TupsAt H us F) (ht : H t = some (pT x)) : TupsAt H (us ++ [t]) (F ++ [x]) := by
  refine ⟨by rw [List.length_append, List.length_append, h.len]; rfl, fun j y hy => ?_⟩
  by_cases hj : j < F.length
  · rw [List.getElem?_append_left hj] at hy
    obtain ⟨u, h1, h2⟩ := h.at_ j y hy
    exact ⟨u, by rw [List.getElem?_append_left (by rw [h.len]; exact hj)]; exact h1, h2⟩
  · rw [List.getElem?_append_right (by omega)] at hy
    have e : j - F.length = 0 := by
      cases q : j - F.length with
      | zero => rfl
      | succ n => rw [q] at hy; simp at hy
    rw [e] at hy
    have hy : x = y := by simpa using hy
    subst hy
    exact ⟨t, by rw [List.getElem?_append_right (by rw [h.len]; omega), h.len, e]; rfl, ht⟩
theorem TupsAt.append {H : Hp} {us ws : List Addr} {F G : Con} (h : TupsAt H us F) (k : TupsAt H ws G) : TupsAt H (us ++ ws) (F ++ G) := by
  refine ⟨by rw [List.length_append, List.length_append, h.len, k.len], fun j y hy => ?_⟩
  by_cases hj : j < F.length
  · rw [List.getElem?_append_left hj] at hy
    obtain ⟨u, h1, h2⟩ := h.at_ j y hy
    exact ⟨u, by rw [List.getElem?_append_left (by rw [h.len]; exact hj)]; exact h1, h2⟩
  · rw [List.getElem?_append_right (by omega)] at hy
    obtain ⟨u, h1, h2⟩ := k.at_ _ y hy
    exact ⟨u, by rw [List.getElem?_append_right (by rw [h.len]; omega), h.len]; exact h1, h2⟩
theorem TupsAt.drop {H : Hp} {us : List Addr} {F : Con} (h : TupsAt H us F) (n : Nat) : TupsAt H (us.drop n) (F.drop n) := by
  refine ⟨by rw [List.length_drop, List.length_drop, h.len], fun j y hy => ?_⟩
  rw [List.getElem?_drop] at hy
  obtain ⟨u, h1, h2⟩ := h.at_ _ y hy
  exact ⟨u, by rw [List.getElem?_drop]; exact h1, h2⟩
theorem TupsAt.nil (H : Hp) : TupsAt H [] [] := ⟨rfl, fun j x h => by simp at h⟩
def refs (us : List Addr) : List V := us.map V.ref
theorem refs_at {us : List Addr} {i : Nat} {y : V} (h : (refs us)[i]? = some y) : ∃ t, us[i]? = some t ∧ y = .ref t := by
  rw [refs, List.getElem?_map] at h
  obtain ⟨n, h1, h2⟩ := Option.map_eq_some_iff.mp h
  exact ⟨n, h1, h2.symm⟩
theorem refs_len (us : List Addr) : (refs us).length = us.length := List.length_map ..
theorem refs_append (l m : List Addr) : refs (l ++ m) = refs l ++ refs m := List.map_append ..
def ConAt (H : Hp) (a : Addr) (F : Con) : Prop := ∃ us, H a = some (.lst (refs us)) ∧ TupsAt H us F
theorem ConAt.same {H H' : Hp} {a : Addr} {F : Con} (h : ConAt H a F) (s : Same H H') : ConAt H' a F := by
  obtain ⟨us, h1, h2⟩ := h
  exact ⟨us, s _ _ h1, h2.mono fun t x e => s _ _ e⟩
theorem take_snoc {α : Type} {l : List α} {i : Nat} {x : α} (h : l[i]? = some x) : l.take (i + 1) = l.take i ++ [x] := by
  rw [List.take_add_one, h]
  rfl
/-- a list that is made, of tuples that are made: one turn -/
structure Made (H H' : Hp) (D : Addr) (F : Con) : Prop where
  same : Same H H'
  lst : ∃ us, H' D = some (.lst (refs us)) ∧ TupsAt H' us F
theorem Made.start {H : Hp} {D : Addr} (h : H D = none) : Made H (upd H D (.lst [])) D [] := ⟨same_new h, [], upd_same, TupsAt.nil _⟩
/-- a tuple is new at t, then the list has it -/
theorem Made.turn {H H1 H2 : Hp} {D t : Addr} {F : Con} {x : Int × Int} (m : Made H H1 D F) (hD : H D = none) (s : ∀ b o, H1 b = some o → H2 b = some o) (ht : H2 t = none) {us : List Addr} (hu : H1 D = some (.lst (refs us))) :
    Made H (upd (upd H2 t (pT x)) D (.lst (refs us ++ [.ref t]))) D (F ++ [x]) := by
  obtain ⟨sm, us', hu', tu⟩ := m
  have e : refs us' = refs us := by rw [hu] at hu'; injection hu' with z; injection z with z; exact z.symm
  have e : us' = us := by
    have inj : ∀ l m : List Addr, refs l = refs m → l = m := by
      intro l
      induction l with
      | nil => intro m h; cases m with | nil => rfl | cons _ _ => cases h
      | cons x l ih => intro m h; cases m with
        | nil => cases h
        | cons y m => injection h with h1 h2; injection h1 with h1; rw [h1, ih m h2]
    exact inj _ _ e
  subst e
  have hDt : D ≠ t := ne_of_none (s _ _ hu) ht
  refine ⟨fun b o e => ?_, us' ++ [t], ?_, ?_⟩
  · have hb := s _ _ (sm b o e)
    rw [upd_ne (ne_of_none e hD), upd_ne (ne_of_none hb ht)]
    exact hb
  · rw [upd_same, refs_append]
    rfl
  · refine (tu.mono fun u y e => ?_).snoc ?_
    · have hb := s _ _ e
      rw [upd_ne (ne_of hb (s _ _ hu) (by intro z; cases z)), upd_ne (ne_of_none hb ht)]
      exact hb
    · rw [upd_ne hDt.symm, upd_same]

/-! ### moved -/
abbrev oAdd : R2 := rI0 fun i j => .int (i + j)
abbrev oSub : R2 := rI0 fun i j => .int (i - j)
def xMoved (K : PySem.W.Frag) : TS := tRet (tLc (iList K (tVar 0)) (gTup K 2 (gCons (gName 2) (gCons (gName 3) gNil))) tYes (tTup (tCons (tOp oAdd (tVar 2) (tVar 1)) (tCons (tOp oAdd (tVar 3) (tVar 1)) tNil))) [2, 3])
theorem rd_moved {K : PySem.W.Frag} {H : Hp} {nx : St → Hp → Prop} {Q : VK} {a : Addr} {m : Int} {E : Con} (hC : ConAt H a E) (hl : E.length ≤ 1000)
    (k : ∀ b H', Same H H' → H b = none → ConAt H' b (shiftC m E) → Q (.ref b) H') : xMoved K { nx := nx, rt := Q } [some (.ref a), some (.int m), none, none] H := by
  obtain ⟨us, h1, h2⟩ := hC
  refine ⟨_, rfl, a, rfl, ⟨_, SqL.of h1⟩, fun D hD => ?_⟩
  refine lc_list (K := K) (a := a) (xs := refs us) (fun i H' => Made H H' D ((shiftC m E).take i)) ?_ (fun i H' _ p => SqL.of (p.same _ _ h1)) ?_ ?_
  · exact Made.start hD
  · intro i x H' hi p
    obtain ⟨t, ht, rfl⟩ := refs_at hi
    obtain ⟨y, hy⟩ : ∃ y, E[i]? = some y := by
      have := (List.getElem?_eq_some_iff.mp ht).1
      rw [h2.len] at this
      exact ⟨_, List.getElem?_eq_getElem this⟩
    obtain ⟨t', ht', hb⟩ := h2.at_ i y hy
    rw [ht] at ht'
    cases ht'
    refine ⟨t, _, rfl, SqT.of (p.same _ _ hb), rfl, _, _, rfl, _, _, rfl, rfl, rfl, tyes ?_⟩
    refine ⟨_, rfl, _, rfl, _, _, rfl, rfl, _, rfl, _, rfl, _, _, rfl, rfl, (by show 2 ≤ sizeLine; exact small (by omega)), fun T hT => ?_⟩
    obtain ⟨vs, hv, tv⟩ := p.lst
    refine ⟨refs vs, by rw [upd_ne (ne_of_none hv hT)]; exact hv, ?_, ?_⟩
    · rw [refs_len, tv.len, List.length_take, shiftC_length]
      exact small' (by omega)
    · have e : (shiftC m E)[i]? = some (y.1 + m, y.2 + m) := by rw [shiftC_get, hy]; rfl
      rw [take_snoc e]
      exact p.turn (x := (y.1 + m, y.2 + m)) hD (fun _ _ z => z) hT hv
  · intro H' p
    rw [List.take_of_length_le (by rw [refs_len, h2.len, shiftC_length]; exact Nat.le_refl _)] at p
    exact k D H' p.same hD p.lst

/-! ### least_move -/
/-- a list of numbers that is made -/
structure MadeZ (H H' : Hp) (D : Addr) (l : List Int) : Prop where
  same : Same H H'
  lst : H' D = some (.lst (zs l))
theorem MadeZ.start {H : Hp} {D : Addr} (h : H D = none) : MadeZ H (upd H D (.lst [])) D [] := ⟨same_new h, upd_same⟩
theorem MadeZ.turn {H H1 H2 : Hp} {D : Addr} {l : List Int} {x : Int} (m : MadeZ H H1 D l) (hD : H D = none) (s : ∀ b o, H1 b = some o → H2 b = some o) : MadeZ H (upd H2 D (.lst (zs l ++ [.int x]))) D (l ++ [x]) := by
  refine ⟨fun b o e => ?_, ?_⟩
  · rw [upd_ne (ne_of_none e hD)]; exact s _ _ (m.same b o e)
  · rw [upd_same]; show some (HO.lst (zs l ++ [V.int x])) = some (HO.lst (List.map V.int (l ++ [x]))); rw [List.map_append]; rfl
theorem zs_len (l : List Int) : (zs l).length = l.length := List.length_map ..
theorem zs_at {l : List Int} {i : Nat} {y : V} (h : (zs l)[i]? = some y) : ∃ n, l[i]? = some n ∧ y = .int n := by
  rw [zs, List.getElem?_map] at h
  obtain ⟨n, h1, h2⟩ := Option.map_eq_some_iff.mp h
  exact ⟨n, h1, h2.symm⟩
/-- max(xs, default=d) of a list of nVs -/
def rMaxD (K : PySem.W.Frag) : V → V → Hp → VK → Prop := fun x d H Q => ∃ (a : Addr) (ns : List Int), x = V.ref a ∧ SqL K H a (ns.map V.int) ∧ (ns = [] → Q d H) ∧ ∀ m, m ∈ ns → (∀ y, y ∈ ns → y ≤ m) → Q (.int m) H
def tMaxD (K : PySem.W.Frag) (te td : TE) : TE := fun σ H Q => te σ H fun x H1 => td σ H1 fun d H2 => rMaxD K x d H2 Q
def xLeast (K : PySem.W.Frag) : TS := tSeq (tAsg (tLc (iZip K (tCons (tVar 0) (tCons (tVar 1) tNil))) (gTup K 2 (gCons (gName 4) (gCons (gName 5) gNil))) tYes
    (tOp oSub (tOp oAdd (tOp (rIxT K) (tVar 4) (tC (.int 1))) (tC (.int 2))) (tOp (rIxT K) (tVar 5) (tC (.int 0)))) [4, 5]) (gName 2))
  (tSeq (tAsg (tMaxD K (tVar 2) (tC (.int 0))) (gName 3))
  (tRet (tOp oAdd (tVar 3) (tOp (rI (fun _ j => 0 < j) fun i j => .int (i % j)) (tVar 3) (tC (.int 2))))))
theorem at0 {x y : V} : atI [x, y] 0 = some x := atI_nat (j := 0) rfl
theorem at1 {x y : V} : atI [x, y] 1 = some y := atI_nat (j := 1) rfl
theorem TupsAt.get {H : Hp} {us : List Addr} {F : Con} (h : TupsAt H us F) {i : Nat} {t : Addr} (ht : us[i]? = some t) : ∃ y, F[i]? = some y ∧ H t = some (pT y) := by
  have hl := (List.getElem?_eq_some_iff.mp ht).1
  rw [h.len] at hl
  have hy : F[i]? = some F[i] := List.getElem?_eq_getElem hl
  obtain ⟨t', ht', hb⟩ := h.at_ i _ hy
  rw [ht] at ht'
  cases ht'
  exact ⟨_, hy, hb⟩
theorem zip_get {α β : Type} {l : List α} {m : List β} {i : Nat} {x : α} {y : β} (h1 : l[i]? = some x) (h2 : m[i]? = some y) : (l.zip m)[i]? = some (x, y) := by
  rw [List.getElem?_zip_eq_some]
  exact ⟨h1, h2⟩
theorem needs_get {C E : Con} {i : Nat} {x y : Int × Int} (h1 : C[i]? = some x) (h2 : E[i]? = some y) : (needs C E)[i]? = some (x.2 + 2 - y.1) := by
  rw [needs, List.getElem?_map, zip_get h1 h2]
  rfl
theorem needs_len (C E : Con) : (needs C E).length = min C.length E.length := by rw [needs, List.length_map, List.length_zip]
theorem rd_least {K : PySem.W.Frag} {H : Hp} {nx : St → Hp → Prop} {Q : VK} {a b : Addr} {C E : Con} (hC : ConAt H a C) (hE : ConAt H b E) (hl : C.length ≤ 1000)
    (k : ∀ m H', Same H H' → IsMost (needs C E) m → Q (.int (m + m % 2)) H') : xLeast K { nx := nx, rt := Q } [some (.ref a), some (.ref b), none, none, none, none] H := by
  obtain ⟨us, h1, h2⟩ := hC
  obtain ⟨ws, g1, g2⟩ := hE
  refine ⟨_, rfl, _, rfl, a, b, _, _, rfl, SqL.of h1, SqL.of g1, fun D hD => ?_⟩
  refine lc_zip (K := K) (a := a) (b := b) (xs := refs us) (ys := refs ws) (fun i H' => MadeZ H H' D ((needs C E).take i)) ?_ (fun i H' p => ⟨SqL.of (p.same _ _ h1), SqL.of (p.same _ _ g1)⟩) ?_ ?_
  · exact MadeZ.start hD
  · intro i x y H' T hi hj hT p
    obtain ⟨t, ht, rfl⟩ := refs_at hi
    obtain ⟨u, hu, rfl⟩ := refs_at hj
    obtain ⟨c, hc, hct⟩ := h2.get ht
    obtain ⟨e, he, het⟩ := g2.get hu
    have s2 : Same H (upd H' T (.tup [.ref t, .ref u])) := p.same.trans (same_new hT)
    refine ⟨T, _, rfl, SqT.of upd_same, rfl, _, _, rfl, _, _, rfl, rfl, rfl, tyes ?_⟩
    refine ⟨_, rfl, t, _, _, _, rfl, rfl, SqT.of (s2 _ _ hct), at1, _, _, rfl, rfl, _, rfl, u, _, _, _, rfl, rfl, SqT.of (s2 _ _ het), at0, _, _, rfl, rfl, ?_⟩
    refine ⟨zs ((needs C E).take i), by rw [upd_ne (ne_of_none p.lst hT)]; exact p.lst, ?_, ?_⟩
    · rw [zs_len, List.length_take, needs_len]
      exact small' (by omega)
    · rw [take_snoc (needs_get hc he)]
      exact p.turn hD (same_new hT)
  · intro H' p
    rw [List.take_of_length_le (by rw [needs_len, refs_len, refs_len, h2.len, g2.len]; exact Nat.le_refl _)] at p
    refine ⟨_, rfl, D, _, rfl, SqL.of p.lst, fun e => ?_, fun m hm hx => ?_⟩
    · refine ⟨_, rfl, _, rfl, _, _, rfl, rfl, (by show (0 : Int) < 2; decide), _, _, rfl, rfl, ?_⟩
      exact k 0 H' p.same (.inl ⟨e, rfl⟩)
    · refine ⟨_, rfl, _, rfl, _, _, rfl, rfl, (by show (0 : Int) < 2; decide), _, _, rfl, rfl, ?_⟩
      exact k m H' p.same (.inr ⟨hm, hx⟩)
end TW
namespace TW
open PySem L2 WT
open Kh309 (Abs)

/-! ### joined -/
def rLen (K : PySem.W.Frag) : List V → Hp → VK → Prop := fun xs H Q => ∃ p ys, xs = [.ref p] ∧ (SqL K H p ys ∨ SqT K H p ys) ∧ Q (.int ys.length) H
def tLen (K : PySem.W.Frag) (te : TE) : TE := tCB (rLen K) (tCons te tNil)
def xJoined (K : PySem.W.Frag) : TS := tSeq (tAsg (tLc (iZip K (tCons (tVar 0) (tCons (tVar 1) tNil))) (gTup K 2 (gCons (gName 4) (gCons (gName 5) gNil))) tYes
    (tTup (tCons (tOp (rIxT K) (tVar 4) (tC (.int 0))) (tCons (tOp (rIxT K) (tVar 5) (tC (.int 1))) tNil))) [4, 5]) (gName 2))
  (tSeq (tAsg (tIf (tTest (tOp (rI0 fun i j => .bl (decide (j < i))) (tLen K (tVar 0)) (tLen K (tVar 1)))) (tVar 0) (tVar 1)) (gName 3))
  (tRet (tOp rCat (tVar 2) (tSl (rSlL K) (tVar 3) (tPart (tLen K (tVar 2))) tNoPart))))
theorem cut_drop (us : List Addr) (n : Nat) : cutV (refs us) (some (n : Int)) none = refs (us.drop n) := by
  unfold cutV
  rw [HT.sIx_nat, HT.sIx_none, refs, List.length_map, ← List.map_drop]
  have e : us.drop (min n us.length) = us.drop n := by
    by_cases h : n ≤ us.length
    · rw [Nat.min_eq_left h]
    · rw [Nat.min_eq_right (by omega), List.drop_length, List.drop_of_length_le (by omega)]
  rw [List.take_of_length_le (by rw [List.length_map, List.length_drop]; exact Nat.le_refl _), e, refs]
theorem both_get {C E : Con} {i : Nat} {x y : Int × Int} (h1 : C[i]? = some x) (h2 : E[i]? = some y) : ((C.zip E).map (fun x => (x.1.1, x.2.2)))[i]? = some (x.1, y.2) := by
  rw [List.getElem?_map, zip_get h1 h2]
  rfl
theorem rd_joined {K : PySem.W.Frag} {H : Hp} {nx : St → Hp → Prop} {Q : VK} {a b : Addr} {C E : Con} (hC : ConAt H a C) (hE : ConAt H b E) (hl : C.length ≤ 1000) (hl' : E.length ≤ 1000)
    (k : ∀ c H', Same H H' → H c = none → ConAt H' c (jn C E) → Q (.ref c) H') : xJoined K { nx := nx, rt := Q } [some (.ref a), some (.ref b), none, none, none, none] H := by
  obtain ⟨us, h1, h2⟩ := hC
  obtain ⟨ws, g1, g2⟩ := hE
  refine ⟨_, rfl, _, rfl, a, b, _, _, rfl, SqL.of h1, SqL.of g1, fun D hD => ?_⟩
  refine lc_zip (K := K) (a := a) (b := b) (xs := refs us) (ys := refs ws) (fun i H' => Made H H' D (((C.zip E).map (fun x => (x.1.1, x.2.2))).take i)) ?_ (fun i H' p => ⟨SqL.of (p.same _ _ h1), SqL.of (p.same _ _ g1)⟩) ?_ ?_
  · exact Made.start hD
  · intro i x y H' T hi hj hT p
    obtain ⟨t, ht, rfl⟩ := refs_at hi
    obtain ⟨u, hu, rfl⟩ := refs_at hj
    obtain ⟨c, hc, hct⟩ := h2.get ht
    obtain ⟨e, he, het⟩ := g2.get hu
    have s2 : Same H (upd H' T (.tup [.ref t, .ref u])) := p.same.trans (same_new hT)
    refine ⟨T, _, rfl, SqT.of upd_same, rfl, _, _, rfl, _, _, rfl, rfl, rfl, tyes ?_⟩
    refine ⟨_, rfl, t, _, _, _, rfl, rfl, SqT.of (s2 _ _ hct), at0, _, rfl, u, _, _, _, rfl, rfl, SqT.of (s2 _ _ het), at1, (by show 2 ≤ sizeLine; exact small (by omega)), fun T2 hT2 => ?_⟩
    obtain ⟨vs, hv, tv⟩ := p.lst
    have hv2 : (upd H' T (.tup [.ref t, .ref u])) D = some (.lst (refs vs)) := by rw [upd_ne (ne_of_none hv hT)]; exact hv
    refine ⟨refs vs, by rw [upd_ne (ne_of_none hv2 hT2)]; exact hv2, ?_, ?_⟩
    · rw [refs_len, tv.len, List.length_take, List.length_map, List.length_zip]
      exact small' (by omega)
    · rw [take_snoc (both_get hc he)]
      exact p.turn (x := (c.1, e.2)) hD (same_new hT) hT2 hv
  · intro H' p
    rw [List.take_of_length_le (by rw [refs_len, refs_len, h2.len, g2.len, List.length_map, List.length_zip]; exact Nat.le_refl _)] at p
    obtain ⟨vs, hv, tv⟩ := p.lst
    have ha := p.same _ _ h1
    have hb := p.same _ _ g1
    refine ⟨_, rfl, a, _, rfl, .inl (SqL.of ha), _, rfl, b, _, rfl, .inl (SqL.of hb), _, _, rfl, rfl, _, rfl, ?_⟩
    rw [refs_len, refs_len, h2.len, g2.len]
    have hd : ((E.length : Nat) : Int) < ((C.length : Nat) : Int) ↔ E.length < C.length := by omega
    have fin : ∀ (q : Addr) (ss : List Addr) (G : Con), H' q = some (.lst (refs ss)) → TupsAt H' ss G → G.length ≤ 1000 → jn C E = (C.zip E).map (fun x => (x.1.1, x.2.2)) ++ G.drop (C.zip E).length →
        (tRet (tOp rCat (tVar 2) (tSl (rSlL K) (tVar 3) (tPart (tLen K (tVar 2))) tNoPart))) { nx := nx, rt := Q } [some (.ref a), some (.ref b), some (.ref D), some (.ref q), none, none] H' := by
      intro q ss G hq tq hG e
      refine ⟨_, rfl, _, rfl, _, rfl, D, _, rfl, .inl (SqL.of hv), _, rfl, q, _, rfl, SqL.of hq, fun P hP => ?_⟩
      rw [refs_len, cut_drop]
      have hv2 : (upd H' P (.lst (refs (ss.drop vs.length)))) D = some (.lst (refs vs)) := by rw [upd_ne (ne_of_none hv hP)]; exact hv
      refine ⟨D, P, _, _, rfl, rfl, hv2, upd_same, ?_, fun R hR => ?_⟩
      · rw [refs_len, refs_len, List.length_drop, tq.len, tv.len, List.length_map, List.length_zip]
        exact small (by omega)
      · have s1 : Same H' (upd (upd H' P (.lst (refs (ss.drop vs.length)))) R (.lst (refs vs ++ refs (ss.drop vs.length)))) := (same_new hP).trans (same_new hR)
        refine k R _ (p.same.trans s1) ((p.same.trans (same_new hP)).free hR) ⟨vs ++ ss.drop vs.length, by rw [upd_same, refs_append], ?_⟩
        have el : vs.length = (C.zip E).length := by rw [tv.len, List.length_map]
        rw [e, ← el]
        refine TupsAt.append (tv.mono ?_) ((tq.mono ?_).drop _)
        · exact fun _ _ z => s1 _ _ z
        · exact fun _ _ z => s1 _ _ z
    refine ite2 (fun hc => ?_) (fun hc => ?_)
    · have hc : E.length < C.length := hd.mp (of_decide_eq_true hc)
      exact ⟨_, rfl, fin a us C ha (h2.mono fun _ _ z => p.same _ _ z) hl (by rw [jn, if_pos hc])⟩
    · have hc : ¬ E.length < C.length := fun z => hc (decide_eq_true (hd.mpr z))
      exact ⟨_, rfl, fin b ws E hb (g2.mono fun _ _ z => p.same _ _ z) hl' (by rw [jn, if_neg hc])⟩

/-! ### the promises so far -/
def spMoved : Sp := fun vs H Q _ => ∃ (a : Addr) (m : Int) (E : Con), vs = [.ref a, .int m] ∧ ConAt H a E ∧ E.length ≤ 1000 ∧ ∀ b H', Same H H' → H b = none → ConAt H' b (shiftC m E) → Q (.ref b) H'
def spLeast : Sp := fun vs H Q _ => ∃ (a b : Addr) (C E : Con), vs = [.ref a, .ref b] ∧ ConAt H a C ∧ ConAt H b E ∧ C.length ≤ 1000 ∧ ∀ m H', Same H H' → IsMost (needs C E) m → Q (.int (m + m % 2)) H'
def spJoined : Sp := fun vs H Q _ => ∃ (a b : Addr) (C E : Con), vs = [.ref a, .ref b] ∧ ConAt H a C ∧ ConAt H b E ∧ C.length ≤ 1000 ∧ E.length ≤ 1000 ∧ ∀ c H', Same H H' → H c = none → ConAt H' c (jn C E) → Q (.ref c) H'

/-! ### Drawing -/
def df (o m : Addr) : List (Str × V) := [("outline", .ref o), ("moves", .ref m)]
theorem s_mo : (("moves" : Str) == ("outline" : Str)) = false := by decide +kernel
theorem df_o (o m : Addr) : (df o m).lookup ("outline" : Str) = some (.ref o) := by
  unfold df
  rw [List.lookup_cons, beq_self_eq_true]
theorem df_m (o m : Addr) : (df o m).lookup ("moves" : Str) = some (.ref m) := by
  unfold df
  rw [List.lookup_cons, s_mo, List.lookup_cons, beq_self_eq_true]
theorem df_new (o m : Addr) : putF "moves" (.ref m) (putF "outline" (.ref o) []) = df o m := by
  have h1 : ¬ (("outline" : Str) = "moves") := by decide +kernel
  simp only [putF, if_neg h1]
  rfl
structure DrawAt (D : Addr) (H : Hp) (x : Addr) (E : Con) (ms : List Int) : Prop where
  ex : ∃ dx o m, H x = some (.ins D dx (df o m)) ∧ ConAt H o E ∧ H m = some (.lst (zs ms))
theorem DrawAt.same {D : Addr} {H H' : Hp} {x : Addr} {E : Con} {ms : List Int} (h : DrawAt D H x E ms) (s : Same H H') : DrawAt D H' x E ms := by
  obtain ⟨dx, o, m, h1, h2, h3⟩ := h.ex
  exact ⟨dx, o, m, s _ _ h1, h2.same s, s _ _ h3⟩
/-- what the walk asks of the classes -/
structure Txt (K : PySem.W.Frag) (C D : Addr) : Prop where
  cl : Cls K C
  nP : NoAttr K C "parents"
  nR : NoAttr K C "rows"
  nS : NoAttr K C "shut"
  nT : NoAttr K C "standing"
  cd : Cls K D
  nO : NoAttr K D "outline"
  nM : NoAttr K D "moves"
abbrev oNeg : V → Hp → VK → Prop := rU fun i => .int (-i)
abbrev tTru (K : PySem.W.Frag) (te : TE) : TT := fun σ H Q => te σ H fun x H' => ∃ k, TruV K x H' k ∧ Q k H'
def xDrawing (K : PySem.W.Frag) : TS :=
  tSeq (tAsg (tLst tNil) (gName 2))
  (tSeq (tAsg (tLst tNil) (gName 3))
  (tSeq (tFor (iList K (tVar 1)) (gName 4)
    (tSeq (tAsg (tCall spLeast [] E0 (tCons (tVar 2) (tCons (tFld K (tVar 4) "outline") tNil))) (gName 5))
    (tSeq (tAsg (tCall spJoined [] E0 (tCons (tVar 2) (tCons (tCall spMoved [] E0 (tCons (tFld K (tVar 4) "outline") (tCons (tVar 5) tNil))) tNil))) (gName 2))
    (tDrop (tBM K "list" rAppend (tVar 3) (tCons (tVar 5) tNil))))))
  (tSeq (tAsg (tIf (tTru K (tVar 3)) (tOp (rI CDiv fun i j => .int (i / j)) (tOp (rIxL K) (tVar 3) (tUn oNeg (tC (.int 1)))) (tC (.int 2))) (tC (.int 0))) (gName 6))
  (tSeq (sFld K (tVar 0) (tOp rCat (tLst (tCons (tTup (tCons (tC (.int 0)) (tCons (tC (.int 0)) tNil))) tNil)) (tCall spMoved [] E0 (tCons (tVar 2) (tCons (tUn oNeg (tVar 6)) tNil)))) "outline")
  (sFld K (tVar 0) (tLc (iList K (tVar 3)) (gName 5) tYes (tOp oSub (tVar 5) (tVar 6)) [5]) "moves")))))
/-- the outline and the moves of what has these children -/
def conOf (Es : List Con) : Con := (0, 0) :: shiftC (-(midOf (roots Es))) (whole Es)
def offOf (Es : List Con) : List Int := (roots Es).map fun s => s - midOf (roots Es)
structure KidsOk (Es : List Con) : Prop where
  h0 : ∀ E ∈ Es, H0 E
  ok : ∀ E ∈ Es, COk E
  len : ∀ E ∈ Es, E.length ≤ 500
  many : Es.length ≤ 500
theorem roots_snoc_len (l : List Con) : (roots l).length = l.length := roots_length l
theorem zs_snoc (l : List Int) (x : Int) : zs (l ++ [x]) = zs l ++ [.int x] := by show List.map V.int (l ++ [x]) = _; rw [List.map_append]; rfl
theorem rd_drawing {K : PySem.W.Frag} {C Dc : Addr} (T : Txt K C Dc) {H : Hp} {Q : VK} {x dx l : Addr} {ys : List Addr} {Es : List Con} (hx : H x = some (.ins Dc dx [])) (hl : H l = some (.lst (refs ys))) (hn : ys.length = Es.length)
    (hy : ∀ (i : Nat) y E, ys[i]? = some y → Es[i]? = some E → ∃ ms, DrawAt Dc H y E ms) (ok : KidsOk Es)
    (k : ∀ H', DrawAt Dc H' x (conOf Es) (offOf Es) → (∀ b o, H b = some o → b ≠ x → H' b = some o) → Q .non H') :
    xDrawing K { nx := fun _ H' => Q .non H', rt := Q } [some (.ref x), some (.ref l), none, none, none, none, none] H := by
  refine ⟨small (by show 0 ≤ 100000; omega), fun lo hlo => ⟨small (by show 0 ≤ 100000; omega), fun lm hlm => ?_⟩⟩
  have s1 : Same H (upd (upd H lo (.lst [])) lm (.lst [])) := (same_new hlo).trans (same_new hlm)
  have flm : H lm = none := (same_new hlo).free hlm
  have nlm : lo ≠ lm := ne_of_none (upd_same (H := H) (a := lo) (o := .lst [])) hlm
  refine ⟨_, rfl, l, rfl, ⟨_, SqL.of (s1 _ _ hl)⟩, ?_⟩
  refine for_list (K := K) (a := l) (xs := refs ys) (fun i σ H2 => ∃ (po : Addr) (v4 v5 : Option V), σ = [some (.ref x), some (.ref l), some (.ref po), some (.ref lm), v4, v5, none] ∧ Same H H2 ∧ po ≠ lm ∧
      ConAt H2 po (whole (Es.take i)) ∧ H2 lm = some (.lst (zs (roots (Es.take i)))))
    ⟨lo, none, none, rfl, s1, nlm, ⟨[], by rw [upd_ne nlm, upd_same]; rfl, TupsAt.nil _⟩, by rw [upd_same]; rfl⟩ (fun i σ H2 _ ⟨_, _, _, _, s2, _⟩ => SqL.of (s2 _ _ hl)) ?_ ?_
  · rintro i y σ H2 hi ⟨po, v4, v5, rfl, s2, nl, hc, hm⟩
    obtain ⟨z, hz, rfl⟩ := refs_at hi
    obtain ⟨E, hE⟩ : ∃ E, Es[i]? = some E := by
      have := (List.getElem?_eq_some_iff.mp hz).1
      rw [hn] at this
      exact ⟨_, List.getElem?_eq_getElem this⟩
    have hEm : E ∈ Es := List.mem_of_getElem? hE
    obtain ⟨ms, D0⟩ := hy i z E hz hE
    obtain ⟨dz, o, m, z1, z2, z3⟩ := (D0.same s2).ex
    have lenW : (whole (Es.take i)).length ≤ 500 := whole_take_len ok.len i
    refine ⟨_, rfl, _, rfl, z, Dc, dz, _, _, rfl, z1, T.cd, T.nO, df_o _ _, po, o, _, E, rfl, hc, z2, by omega, fun mm H3 s3 hmost => ?_⟩
    refine ⟨_, rfl, _, rfl, z, Dc, dz, _, _, rfl, s3 _ _ z1, T.cd, T.nO, df_o _ _, _, rfl, o, _, E, rfl, z2.same s3, Nat.le_trans (ok.len E hEm) (by omega), fun b H4 s4 fb hb => ?_⟩
    refine ⟨po, b, _, _, rfl, (hc.same s3).same s4, hb, by omega, by rw [shiftC_length]; have := ok.len E hEm; omega, fun c H5 s5 fc hcc => ?_⟩
    have s35 : Same H2 H5 := (s3.trans s4).trans s5
    have hm5 : H5 lm = some (.lst (zs (roots (Es.take i)))) := s35 _ _ hm
    have hcm : c ≠ lm := fun e => by rw [e, s4 _ _ (s3 _ _ hm)] at fc; cases fc
    refine ⟨_, rfl, .inl ⟨rfl, _, SqL.of hm5⟩, _, rfl, lm, _, _, rfl, rfl, hm5, ?_, ?_⟩
    · rw [zs_len, roots_length, List.length_take]
      have := ok.many
      exact small' (by omega)
    · have et : Es.take (i + 1) = Es.take i ++ [E] := take_snoc hE
      have sub : ∀ F ∈ Es.take i ++ [E], F ∈ Es := fun F hF => by rw [← et] at hF; exact List.mem_of_mem_take hF
      obtain ⟨e1, e2⟩ := step_child (fun F hF => ok.h0 F (sub F hF)) (fun F hF => ok.ok F (sub F hF)) hmost
      refine ⟨c, _, _, rfl, Same.own flm (s2.trans s35), hcm, ?_, ?_⟩
      · rw [et, e2]
        obtain ⟨us, u1, u2⟩ := hcc
        refine ⟨us, by rw [upd_ne hcm]; exact u1, u2.mono fun t w e => ?_⟩
        rw [upd_ne (ne_of e hm5 (by intro z; cases z))]
        exact e
      · rw [upd_same, et, e1, zs_snoc]
  · rintro σ H2 ⟨po, v4, v5, rfl, s2, nl, hc, hm⟩
    rw [refs_len, hn, List.take_length] at hc hm
    have lenW : (whole Es).length ≤ 500 := by
      have := whole_take_len ok.len Es.length
      rwa [List.take_length] at this
    -- middle
    have fin : ∀ v5, (tSeq (sFld K (tVar 0) (tOp rCat (tLst (tCons (tTup (tCons (tC (.int 0)) (tCons (tC (.int 0)) tNil))) tNil)) (tCall spMoved [] E0 (tCons (tVar 2) (tCons (tUn oNeg (tVar 6)) tNil)))) "outline")
        (sFld K (tVar 0) (tLc (iList K (tVar 3)) (gName 5) tYes (tOp oSub (tVar 5) (tVar 6)) [5]) "moves")) { nx := fun _ H' => Q .non H', rt := Q }
        [some (.ref x), some (.ref l), some (.ref po), some (.ref lm), v4, v5, some (.int (midOf (roots Es)))] H2 := by
      intro v5
      refine ⟨small (by show 2 ≤ 100000; omega), fun t0 ht0 => ⟨small (by show 1 ≤ 100000; omega), fun l0 hl0 => ?_⟩⟩
      have s3 : Same H2 (upd (upd H2 t0 (.tup [.int 0, .int 0])) l0 (.lst [.ref t0])) := (same_new ht0).trans (same_new hl0)
      refine ⟨_, rfl, _, rfl, _, rfl, po, _, whole Es, rfl, hc.same s3, by omega, fun b H3 s4 fb hb => ?_⟩
      have hl0' : H3 l0 = some (.lst [.ref t0]) := s4 _ _ upd_same
      have ht0' : H3 t0 = some (pT (0, 0)) := s4 _ _ (by rw [upd_ne (ne_of_none upd_same hl0)]; exact upd_same)
      obtain ⟨us, u1, u2⟩ := hb
      refine ⟨l0, b, _, _, rfl, rfl, hl0', u1, ?_, fun r hr => ?_⟩
      · rw [refs_len, u2.len, shiftC_length]
        exact small (by show 1 + _ ≤ 100000; omega)
      have s5 : Same H (upd H3 r (.lst ([V.ref t0] ++ refs us))) := (s2.trans (s3.trans s4)).trans (same_new hr)
      have hx5 := s5 _ _ hx
      have fr : H2 r = none := (s3.trans s4).free hr
      refine ⟨_, rfl, x, Dc, dx, [], rfl, hx5, T.cd, T.nO, by show 0 < 1000; decide, ?_⟩
      -- moves
      have hxr : x ≠ r := ne_of_none (s2 _ _ hx) fr
      have hlm3 : H3 lm = some (.lst (zs (roots Es))) := s4 _ _ (s3 _ _ hm)
      have hlmx : lm ≠ x := ne_of hm (s2 _ _ hx) (by intro z; cases z)
      have hlmr : lm ≠ r := ne_of_none hlm3 hr
      refine ⟨_, rfl, lm, rfl, ⟨_, SqL.of (by rw [upd_ne hlmx, upd_ne hlmr]; exact hlm3)⟩, fun D hD => ?_⟩
      refine lc_list (K := K) (a := lm) (xs := zs (roots Es)) (fun i H' => MadeZ (upd (upd H3 r (.lst ([V.ref t0] ++ refs us))) x (.ins Dc dx (putF "outline" (.ref r) []))) H' D ((offOf Es).take i)) (MadeZ.start hD)
        (fun i H' _ p => SqL.of (p.same _ _ (by rw [upd_ne hlmx, upd_ne hlmr]; exact hlm3))) ?_ ?_
      · intro i y H' hi p
        obtain ⟨z, hz, rfl⟩ := zs_at hi
        refine ⟨rfl, tyes ?_⟩
        refine ⟨_, rfl, _, rfl, _, _, rfl, rfl, _, p.lst, ?_, ?_⟩
        · rw [zs_len, List.length_take, offOf, List.length_map, roots_length]
          have := ok.many
          exact small' (by omega)
        · have e : (offOf Es)[i]? = some (z - midOf (roots Es)) := by rw [offOf, List.getElem?_map, hz]; rfl
          rw [take_snoc e]
          exact p.turn hD (fun _ _ z => z)
      · intro H' p
        rw [List.take_of_length_le (by rw [zs_len, offOf, List.length_map]; exact Nat.le_refl _)] at p
        have hx6 : H' x = some (.ins Dc dx (putF "outline" (.ref r) [])) := p.same _ _ upd_same
        refine ⟨_, rfl, x, Dc, dx, _, rfl, hx6, T.cd, T.nM, by show 1 < 1000; decide, ?_⟩
        have hDx : D ≠ x := fun e => by rw [e, upd_same] at hD; cases hD
        have keep : ∀ b o, H3 b = some o → b ≠ x → (upd H' x (.ins Dc dx (putF "moves" (.ref D) (putF "outline" (.ref r) [])))) b = some o := fun b o e hb => by
          rw [upd_ne hb]
          exact p.same _ _ (by rw [upd_ne hb, upd_ne (ne_of_none e hr)]; exact e)
        have hrx : r ≠ x := hxr.symm
        refine k _ ⟨dx, r, D, by rw [upd_same, df_new], ⟨t0 :: us, ?_, ?_⟩, ?_⟩ fun b o e hb => keep b o (s4 _ _ (s3 _ _ (s2 _ _ e))) hb
        · rw [upd_ne hrx]
          exact p.same _ _ (by rw [upd_ne hrx]; exact upd_same)
        · have q1 : ∀ t w, H3 t = some (pT w) → (upd H' x (.ins Dc dx (putF "moves" (.ref D) (putF "outline" (.ref r) [])))) t = some (pT w) := fun t w e =>
            keep t _ e (ne_of e (s4 _ _ (s3 _ _ (s2 _ _ hx))) (by intro z; cases z))
          exact TupsAt.append (us := [t0]) (F := [(0, 0)]) (TupsAt.snoc (us := []) (F := []) (TupsAt.nil _) (q1 _ _ ht0')) (u2.mono q1)
        · rw [upd_ne hDx]
          exact p.lst
    have he : zs (roots Es) = [] ↔ Es = [] := by
      rw [zs, List.map_eq_nil_iff]
      constructor
      · intro h
        exact List.length_eq_zero_iff.mp ((roots_length Es).symm.trans (by rw [h]; rfl))
      · intro h; rw [h]; rfl
    refine ⟨_, rfl, _, .inl ⟨_, SqL.of hm, rfl⟩, ?_⟩
    cases hEs : zs (roots Es) with
    | nil =>
      refine iteF ?_
      have := fin v5
      rw [he.mp hEs, midOf_nil] at this
      exact this
    | cons y r =>
      refine iteT ?_
      obtain ⟨init, v, e⟩ : ∃ init v, roots Es = init ++ [v] := by
        cases h : (roots Es).reverse with
        | nil =>
          have h : roots Es = [] := by simpa using h
          rw [h] at hEs
          cases hEs
        | cons v r' =>
          refine ⟨r'.reverse, v, ?_⟩
          have := congrArg List.reverse h
          rwa [List.reverse_reverse, List.reverse_cons] at this
      have hat : atI (zs (roots Es)) (-1) = some (.int v) := by
        rw [e, zs_snoc]
        exact atI_last _ _
      refine ⟨_, rfl, _, rfl, lm, _, _, _, rfl, rfl, SqL.of hm, hat, _, _, rfl, rfl, ⟨by decide, by decide⟩, ?_⟩
      have := fin v5
      rw [midOf_snoc e] at this
      exact this
def spDrawing (Dc : Addr) : Sp := fun vs H Q _ => ∃ (x dx l : Addr) (ys : List Addr) (Es : List Con), vs = [.ref x, .ref l] ∧ H x = some (.ins Dc dx []) ∧ H l = some (.lst (refs ys)) ∧ ys.length = Es.length ∧
  (∀ (i : Nat) y E, ys[i]? = some y → Es[i]? = some E → ∃ ms, DrawAt Dc H y E ms) ∧ KidsOk Es ∧ ∀ H', DrawAt Dc H' x (conOf Es) (offOf Es) → (∀ b o, H b = some o → b ≠ x → H' b = some o) → Q .non H'
end TW
namespace TW
open PySem L2 WT
open Kh309 (Abs)

def xDrawn (K : PySem.W.Frag) (Dc : Addr) : TS :=
  tSeq (tAsg tDNewK (gName 2))
  (tSeq (tFor (iRev K (tCons (tVar 0) tNil)) (gName 3)
    (sDPut (tVar 2) (tVar 3) (tMake Dc (spDrawing Dc) [] E0 (tCons (tLc (iList K (tDGet (tVar 1) (tVar 3))) (gName 8) tYes (tDGet (tVar 2) (tVar 8)) [8]) tNil))))
  (tSeq (tAsg (tCB (rMin K) (tCons (tLc (iList K (tFld K (tDGet (tVar 2) (tC (.int 0))) "outline")) (gTup K 2 (gCons (gName 10) (gCons (gName 11) gNil))) tYes (tVar 10) [10, 11]) tNil)) (gName 4))
  (tSeq (tAsg (tDisp [(tC (.int 0), tTup (tCons (tC (.int 0)) (tCons (tUn oNeg (tVar 4)) tNil)))]) (gName 5))
  (tSeq (tFor (iList K (tVar 0)) (gName 3)
    (tSeq (tAsg (tOp (rIxT K) (tDGet (tVar 5) (tVar 3)) (tC (.int 0))) (gName 6))
    (tSeq (tAsg (tOp (rIxT K) (tDGet (tVar 5) (tVar 3)) (tC (.int 1))) (gName 7))
    (tFor (iZip K (tCons (tDGet (tVar 1) (tVar 3)) (tCons (tFld K (tDGet (tVar 2) (tVar 3)) "moves") tNil))) (gTup K 2 (gCons (gName 8) (gCons (gName 9) gNil)))
      (sDPut (tVar 5) (tVar 8) (tTup (tCons (tOp oAdd (tVar 6) (tC (.int 1))) (tCons (tOp oAdd (tVar 7) (tVar 9)) tNil))))))))
  (tRet (tVar 5))))))

theorem DGet.of {H : Hp} {d : Addr} {kvs : List (Key × V)} {n : Nat} {v : V} (h : H d = some (.dK kvs)) (e : valV kvs (kN n) = some v) : DGet H d (.int (n : Int)) (some v) := by
  rw [← e]
  exact DGet.k (k := kN n) h
theorem DrawAt.updD {D : Addr} {H : Hp} {x : Addr} {E : Con} {ms : List Int} {d : Addr} {kd kd' : List (Key × V)} (h : DrawAt D H x E ms) (hd : H d = some (.dK kd)) : DrawAt D (upd H d (.dK kd')) x E ms := by
  obtain ⟨dx, o, m, h1, ⟨us, h2, h3⟩, h4⟩ := h.ex
  refine ⟨dx, o, m, by rw [upd_ne (ne_of h1 hd (by intro z; cases z))]; exact h1, ⟨us, by rw [upd_ne (ne_of h2 hd (by intro z; cases z))]; exact h2, h3.mono fun t w e => ?_⟩, by rw [upd_ne (ne_of h4 hd (by intro z; cases z))]; exact h4⟩
  rw [upd_ne (ne_of e hd (by intro z; cases z))]
  exact e
/-- what drawings holds -/
structure DrawsAt (D : Addr) (H : Hp) (kids : Kids) (f : Nat → Option V) (v : Nat) : Prop where
  ex : ∃ y, f v = some (.ref y) ∧ DrawAt D H y (con (full kids v)) (offs ((kids v).map (full kids)))
theorem con_full {kids : Kids} (F : Forest kids) {v : Nat} (hv : v < 128) : con (full kids v) = conOf (cons ((kids v).map (full kids))) := by
  rw [F.full_eq hv, con]
  rfl
theorem full_height {kids : Kids} (F : Forest kids) {v : Nat} (hv : v < 128) : (con (full kids v)).length ≤ 500 := by
  rw [con_length]
  have h1 := F.size_le hv 128
  have h2 := height_lt (grose kids 128 v)
  have h1 : (full kids v).size ≤ 128 := h1
  have h2 : (full kids v).height < (full kids v).size := h2
  omega
theorem kids_ok {kids : Kids} (F : Forest kids) (v : Nat) : KidsOk (cons ((kids v).map (full kids))) := by
  refine ⟨cons_h0 _, cons_ok _, fun E hE => ?_, ?_⟩
  · rw [cons_map] at hE
    obtain ⟨c, hc, rfl⟩ := List.mem_map.mp hE
    obtain ⟨n, hn, rfl⟩ := List.mem_map.mp hc
    exact full_height F (F.lt _ _ hn)
  · rw [cons_length, List.length_map]
    have := pigeon 128 _ (F.nd v) fun c hc => F.lt v c hc
    omega
theorem cons_at {kids : Kids} {v i c : Nat} (h : (kids v)[i]? = some c) : (cons ((kids v).map (full kids)))[i]? = some (con (full kids c)) := by
  rw [cons_map, List.getElem?_map, List.getElem?_map, h]
  rfl
def adr : Option V → Addr
  | some (.ref y) => y
  | _ => 0
/-- what the dict of rows holds of each node -/
def RowsAt (H : Hp) (d : Addr) (nodes : List Nat) (kids : Kids) : Prop := ∃ kv, H d = some (.dK kv) ∧ ∀ n ∈ nodes, ∃ r, valV kv (kN n) = some (.ref r) ∧ H r = some (.lst (nVs (kids n)))
/-- a spot as it's to be -/
def SpotAt (H : Hp) (f : Nat → Option V) (S : List Kh309.Shown) (c : Nat) : Prop := ∃ (t : Addr) (l : Nat) (p : Int), f c = some (.ref t) ∧ H t = some (.tup [.int (l : Int), .int p]) ∧ ⟨c, l, p⟩ ∈ S
theorem SpotAt.mono {H H' : Hp} {f f' : Nat → Option V} {S : List Kh309.Shown} {c : Nat} (h : SpotAt H f S c) (k : ∀ t xs, H t = some (.tup xs) → H' t = some (.tup xs)) (e : f' c = f c) : SpotAt H' f' S c := by
  obtain ⟨t, l, p, h1, h2, h3⟩ := h
  exact ⟨t, l, p, e.trans h1, k _ _ h2, h3⟩
theorem rd_drawn {K : PySem.W.Frag} {C Dc : Addr} (T : Txt K C Dc) {kids : Kids} (F : Forest kids) (hr : ∀ p, 0 ∉ kids p) {H : Hp} {nx : St → Hp → Prop} {Q : VK} {ln d : Addr} (hln : H ln = some (.lst (nVs (full kids 0).flat)))
    (hd : RowsAt H d (full kids 0).flat kids)
    (k : ∀ (sp : Addr) kvs f H', Same H H' → H' sp = some (.dK kvs) → Tab kvs f → (∀ n ∈ (full kids 0).flat, SpotAt H' f (shows 0 (edge (full kids 0)) (full kids 0)) n) → Q (.ref sp) H') :
    xDrawn K Dc { nx := nx, rt := Q } [some (.ref ln), some (.ref d), none, none, none, none, none, none, none, none, none, none] H := by
  obtain ⟨kv, hkv, hrow⟩ := hd
  have hlt : ∀ n ∈ (full kids 0).flat, n < 128 := fun n hn => F.flat_lt (by omega) hn
  have hnd := F.flat_nodup 128 0
  have hsz : (full kids 0).size ≤ 128 := F.size_le (by omega) 128
  have hlen : (full kids 0).flat.length ≤ 128 := by rw [flat_length]; exact hsz
  intro dd hdd
  -- drawings, from the lowest up
  refine ⟨_, rfl, ln, nVs (full kids 0).flat, rfl, SqL.of (same_new hdd _ _ hln), ?_⟩
  have t0 : Tab ([] : List (Key × V)) (fun _ => none) := ⟨List.nodup_nil, fun k hk => absurd hk (by simp), fun n => rfl⟩
  refine for_rev (K := K) (a := ln) (xs := nVs (full kids 0).flat) (fun i σ H2 => ∃ (kd : List (Key × V)) (f : Nat → Option V) (v3 : Option V), σ = [some (.ref ln), some (.ref d), some (.ref dd), v3, none, none, none, none, none, none, none, none] ∧
      Same H H2 ∧ H2 dd = some (.dK kd) ∧ Tab kd f ∧ ∀ j x, (full kids 0).flat.length - i ≤ j → (full kids 0).flat[j]? = some x → DrawsAt Dc H2 kids f x)
    ⟨[], fun _ => none, none, rfl, same_new hdd, upd_same, t0, fun j x hj hx => ?_⟩ (fun i σ H2 ⟨_, _, _, _, s2, _⟩ => SqL.of (s2 _ _ hln)) ?_ ?_
  · have := (List.getElem?_eq_some_iff.mp hx).1
    omega
  · rintro i y σ H2 hi hiy ⟨kd, f, v3, rfl, s2, hkd, tab, hdr⟩
    obtain ⟨x, hx, rfl⟩ := ints_at hiy
    rw [ints_len] at hx hi
    have hxm : x ∈ (full kids 0).flat := List.mem_of_getElem? hx
    have hx128 := hlt x hxm
    obtain ⟨r, hr1, hr2⟩ := hrow x hxm
    have kidat : ∀ c ∈ kids x, DrawsAt Dc H2 kids f c := fun c hc => by
      obtain ⟨j, hj, hjc⟩ := behind F (by omega) hr hx hc
      exact hdr j c (by omega) hjc
    refine ⟨_, rfl, _, rfl, d, _, rfl, DGet.of (s2 _ _ hkv) hr1, r, rfl, ⟨_, SqL.of (s2 _ _ hr2)⟩, fun L hL => ?_⟩
    refine lc_list (K := K) (a := r) (xs := nVs (kids x)) (fun j H3 => Same H2 H3 ∧ H3 L = some (.lst (refs (((kids x).map fun c => adr (f c)).take j)))) ⟨same_new hL, by rw [upd_same]; rfl⟩
      (fun j H3 _ p => SqL.of (p.1 _ _ (s2 _ _ hr2))) ?_ ?_
    · rintro j y H3 hj ⟨s3, h3⟩
      obtain ⟨c, hc, rfl⟩ := ints_at hj
      obtain ⟨yc, e1, D1⟩ := (kidat c (List.mem_of_getElem? hc)).ex
      refine ⟨rfl, tyes ?_⟩
      refine ⟨_, rfl, _, rfl, dd, _, rfl, DGet.of (s3 _ _ hkd) ((tab.val c).trans e1), _, h3, ?_, ?_, ?_⟩
      · rw [refs_len, List.length_take, List.length_map]
        have := (kids_ok F x).many
        rw [cons_length, List.length_map] at this
        exact small' (by omega)
      · exact Same.own hL s3
      · have e : ((kids x).map fun c => adr (f c))[j]? = some yc := by
          rw [List.getElem?_map, hc]
          show some (adr (f c)) = _
          rw [e1]; rfl
        rw [upd_same, take_snoc e, refs_append]
        rfl
    · rintro H3 ⟨s3, h3⟩
      rw [List.take_of_length_le (by rw [ints_len, List.length_map]; exact Nat.le_refl _)] at h3
      intro z dz nz ndz ndx
      have s4 : Same H3 (upd (upd H3 dz (.own z)) z (.ins Dc dz [])) := fun b o e => by
        rw [upd_ne (ne_of_none e nz), upd_ne (ne_of_none e ndz)]
        exact e
      refine ⟨z, dz, L, (kids x).map (fun c => adr (f c)), cons ((kids x).map (full kids)), rfl, upd_same, s4 _ _ h3, by rw [List.length_map, cons_length, List.length_map], fun j y E hy hE => ?_, kids_ok F x, fun H5 D5 k5 => ⟨rfl, ?_⟩⟩
      · rw [List.getElem?_map] at hy
        obtain ⟨c, hc, e⟩ := Option.map_eq_some_iff.mp hy
        rw [cons_at hc] at hE
        cases hE
        obtain ⟨yc, e1, D1⟩ := (kidat c (List.mem_of_getElem? hc)).ex
        rw [e1] at e
        cases e
        exact ⟨_, (D1.same s3).same s4⟩
      · have s5 : Same H3 H5 := fun b o e => k5 b o (s4 b o e) (ne_of_none e nz)
        have hkd5 : H5 dd = some (.dK kd) := s5 _ _ (s3 _ _ hkd)
        refine ⟨_, rfl, _, rfl, dd, _, rfl, DPut.k (k := kN x) hkd5 tab.small, ?_⟩
        refine ⟨_, _, _, rfl, Same.own hdd (s2.trans (s3.trans s5)), upd_same, tab.put hx128 (.ref z), fun j w hj hw => ?_⟩
        by_cases hwx : w = x
        · subst hwx
          refine ⟨z, if_pos rfl, ?_⟩
          rw [con_full F hx128]
          exact D5.updD hkd5
        · have hj' : (full kids 0).flat.length - i ≤ j := by
            have : j ≠ (full kids 0).flat.length - 1 - i := fun e => hwx (by rw [e, hx] at hw; exact (Option.some.inj hw).symm)
            omega
          obtain ⟨y, e1, D1⟩ := (hdr j w hj' hw).ex
          exact ⟨y, by rw [if_neg hwx]; exact e1, ((D1.same s3).same s5).updD hkd5⟩
  · rintro σ H2 ⟨kd, f, v3, rfl, s2, hkd, tab, hdr⟩
    rw [ints_len] at hdr
    have hdr : ∀ x ∈ (full kids 0).flat, DrawsAt Dc H2 kids f x := fun x hx => by
      obtain ⟨j, place⟩ := List.mem_iff_getElem?.mp hx
      exact hdr j x (by omega) place
    have hroot : (0 : Nat) ∈ (full kids 0).flat := by rw [flat_full F (by omega)]; simp
    have hr0 : (full kids 0).flat[0]? = some 0 := by rw [flat_full F (by omega)]; rfl
    obtain ⟨y0, e0, D0⟩ := (hdr 0 hroot).ex
    obtain ⟨dx0, o0, m0, z1, ⟨us, z2, z3⟩, z4⟩ := D0.ex
    -- leftmost
    refine ⟨_, rfl, dd, _, rfl, DGet.of (n := 0) hkd ((tab.val 0).trans e0), y0, Dc, dx0, _, _, rfl, z1, T.cd, T.nO, df_o _ _, o0, rfl, ⟨_, SqL.of z2⟩, fun L hL => ?_⟩
    refine lc_list (K := K) (a := o0) (xs := refs us) (fun i H' => MadeZ H2 H' L (((con (full kids 0)).map (·.1)).take i)) (MadeZ.start hL) (fun i H' _ p => SqL.of (p.same _ _ z2)) ?_ ?_
    · intro i x H' hi p
      obtain ⟨t, ht, rfl⟩ := refs_at hi
      obtain ⟨c, hc, hct⟩ := z3.get ht
      refine ⟨t, _, rfl, SqT.of (p.same _ _ hct), rfl, _, _, rfl, _, _, rfl, rfl, rfl, tyes ?_⟩
      refine ⟨_, rfl, _, p.lst, ?_, ?_⟩
      · rw [zs_len, List.length_take, List.length_map]
        have := full_height F (v := 0) (by omega)
        exact small' (by omega)
      · have e : ((con (full kids 0)).map (·.1))[i]? = some c.1 := by rw [List.getElem?_map, hc]; rfl
        rw [take_snoc e]
        exact p.turn hL (fun _ _ z => z)
    intro H3 p3
    rw [List.take_of_length_le (by rw [refs_len, z3.len, List.length_map]; exact Nat.le_refl _)] at p3
    refine ⟨L, _, rfl, SqL.of p3.lst, ?_, fun m hm1 hm2 => ?_⟩
    · rw [List.length_map, con_length]; omega
    have hedge := edge_eq hsz hm1 hm2
    -- spots
    intro sp hsp
    rw [tPairs]
    refine ⟨_, rfl, _, rfl, small (by show 2 ≤ 100000; omega), fun t0' ht0 => ?_⟩
    show tPairs [] _ _ _
    rw [tPairs]
    have hspt : sp ≠ t0' := ne_of_none upd_same ht0
    refine ⟨by rw [upd_ne hspt]; exact upd_same, [(kN 0, .ref t0')], rfl, by show 1 ≤ 15; decide, ?_⟩
    -- from here on: what was there ahead of spots is kept
    have base : ∀ b o, H3 b = some o → (upd (upd (upd H3 sp (.dK [])) t0' (.tup [.int 0, .int (-m)])) sp (.dK (mergeK [] [(kN 0, .ref t0')]))) b = some o := fun b o e => by
      rw [upd_ne (ne_of_none e hsp)]
      have e2 : (upd H3 sp (.dK [])) b = some o := by rw [upd_ne (ne_of_none e hsp)]; exact e
      rw [upd_ne (ne_of_none e2 ht0)]
      exact e2
    have hS0 : ⟨0, 0, edge (full kids 0)⟩ ∈ shows 0 (edge (full kids 0)) (full kids 0) := by
      have := shows_root (r := full kids 0) 0 (edge (full kids 0))
      rwa [full_label] at this
    refine ⟨_, rfl, ln, rfl, ⟨_, SqL.of (base _ _ (p3.same _ _ (s2 _ _ hln)))⟩, ?_⟩
    refine for_list (K := K) (a := ln) (xs := nVs (full kids 0).flat) (fun i σ H4 => ∃ (ks : List (Key × V)) (g : Nat → Option V) (v3 v6 v7 v8 v9 : Option V),
        σ = [some (.ref ln), some (.ref d), some (.ref dd), v3, some (.int m), some (.ref sp), v6, v7, v8, v9, none, none] ∧ Same H3 H4 ∧ H4 sp = some (.dK ks) ∧ Tab ks g ∧
        ∀ c, (c = 0 ∨ ∃ j q, j < i ∧ (full kids 0).flat[j]? = some q ∧ c ∈ kids q) → SpotAt H4 g (shows 0 (edge (full kids 0)) (full kids 0)) c)
      ⟨_, _, _, _, _, _, _, rfl, base, upd_same, Tab.one _, fun c hc => ?_⟩ (fun i σ H4 _ ⟨_, _, _, _, _, _, _, _, s4, _⟩ => SqL.of (s4 _ _ (p3.same _ _ (s2 _ _ hln)))) ?_ ?_
    · rcases hc with rfl | ⟨j, q, hj, _⟩
      · refine ⟨t0', 0, edge (full kids 0), if_pos rfl, ?_, hS0⟩
        rw [upd_ne hspt.symm, upd_same, hedge]
        rfl
      · omega
    · rintro i y σ H4 hi ⟨ks, g, v3, v6, v7, v8, v9, rfl, s4, hks, tabs, hsv⟩
      obtain ⟨x, hx, rfl⟩ := ints_at hi
      have hxm : x ∈ (full kids 0).flat := List.mem_of_getElem? hx
      have hx128 := hlt x hxm
      obtain ⟨t, l, pl, g1, g2, g3⟩ := hsv x (by
        rcases ahead hx with ⟨_, rfl⟩ | ⟨j, q, h1, h2, h3⟩
        · exact .inl rfl
        · exact .inr ⟨j, q, h1, h2, h3⟩)
      obtain ⟨r, hr1, hr2⟩ := hrow x hxm
      obtain ⟨yx, ex, Dx⟩ := (hdr x hxm).ex
      obtain ⟨dxx, ox, mx, w1, _, w4⟩ := ((Dx.same p3.same).same s4).ex
      have hr4 : H4 r = some (.lst (nVs (kids x))) := s4 _ _ (p3.same _ _ (s2 _ _ hr2))
      refine ⟨_, rfl, _, rfl, sp, _, rfl, DGet.of hks ((tabs.val x).trans g1), t, _, _, _, rfl, rfl, SqT.of g2, at0, ?_⟩
      refine ⟨_, rfl, _, rfl, sp, _, rfl, DGet.of hks ((tabs.val x).trans g1), t, _, _, _, rfl, rfl, SqT.of g2, at1, ?_⟩
      refine ⟨_, rfl, _, rfl, d, _, rfl, DGet.of (s4 _ _ (p3.same _ _ (s2 _ _ hkv))) hr1, _, rfl, _, rfl, dd, _, rfl, DGet.of (s4 _ _ (p3.same _ _ hkd)) ((tab.val x).trans ex), yx, Dc, dxx, _, _, rfl, w1, T.cd, T.nM, df_m _ _, r, mx, _, _, rfl, SqL.of hr4, SqL.of w4, ?_⟩
      have fsp4 : H3 sp = none := hsp
      refine for_zip (K := K) (a := r) (b := mx) (xs := nVs (kids x)) (ys := zs (offs ((kids x).map (full kids)))) (fun j σ H5 => ∃ (ks : List (Key × V)) (g : Nat → Option V) (v8 v9 : Option V),
          σ = [some (.ref ln), some (.ref d), some (.ref dd), some (.int (x : Int)), some (.int m), some (.ref sp), some (.int (l : Int)), some (.int pl), v8, v9, none, none] ∧ Same H3 H5 ∧ H5 r = some (.lst (nVs (kids x))) ∧ H5 mx = some (.lst (zs (offs ((kids x).map (full kids))))) ∧ H5 sp = some (.dK ks) ∧ Tab ks g ∧
          ∀ c, ((c = 0 ∨ ∃ j q, j < i ∧ (full kids 0).flat[j]? = some q ∧ c ∈ kids q) ∨ ∃ j', j' < j ∧ (kids x)[j']? = some c) → SpotAt H5 g (shows 0 (edge (full kids 0)) (full kids 0)) c)
        ⟨ks, g, v8, v9, rfl, s4, hr4, w4, hks, tabs, fun c hc => ?_⟩ (fun j σ H5 ⟨_, _, _, _, _, _, q1, q2, _⟩ => ⟨SqL.of q1, SqL.of q2⟩) ?_ ?_
      · rcases hc with hc | ⟨j', hj', _⟩
        · exact hsv c hc
        · omega
      · rintro j cx ox' σ H5 TT hcx hox hT ⟨ks, g, v8, v9, rfl, s5, q1, q2, hks, tabs, hsv⟩
        obtain ⟨c, hc, rfl⟩ := ints_at hcx
        obtain ⟨o, ho, rfl⟩ := zs_at hox
        have hc128 : c < 128 := F.lt _ _ (List.mem_of_getElem? hc)
        refine ⟨TT, _, rfl, SqT.of upd_same, rfl, _, _, rfl, _, _, rfl, rfl, ?_⟩
        refine ⟨_, rfl, _, _, rfl, rfl, _, rfl, _, rfl, _, _, rfl, rfl, small (by show 2 ≤ 100000; omega), fun t2 ht2 => ?_⟩
        have s6 : Same H5 (upd (upd H5 TT (.tup [nV c, .int o])) t2 (.tup [.int ((l : Int) + 1), .int (pl + o)])) := (same_new hT).trans (same_new ht2)
        refine ⟨_, rfl, _, rfl, sp, _, rfl, DPut.k (k := kN c) (s6 _ _ hks) tabs.small, ?_⟩
        have s7 : ∀ b u, H5 b = some u → b ≠ sp → (upd (upd (upd H5 TT (.tup [nV c, .int o])) t2 (.tup [.int ((l : Int) + 1), .int (pl + o)])) sp (.dK (putK ks (kN c) (.ref t2)))) b = some u := fun b u e hb => by
          rw [upd_ne hb]
          exact s6 _ _ e
        have nsp : ∀ b u, H5 b = some u → u ≠ .dK ks → b ≠ sp := fun b u e hu => ne_of e hks hu
        refine ⟨_, _, _, _, rfl, fun b u e => s7 b u (s5 _ _ e) (ne_of_none e fsp4), s7 _ _ q1 (nsp _ _ q1 (by intro z; cases z)), s7 _ _ q2 (nsp _ _ q2 (by intro z; cases z)), upd_same, tabs.put hc128 (.ref t2), fun e he => ?_⟩
        by_cases hec : e = c
        · subst hec
          have hl2 : t2 ≠ sp := fun z => by
            have := s6 _ _ hks
            rw [← z, upd_same] at this
            cases this
          refine ⟨t2, l + 1, pl + o, if_pos rfl, by rw [upd_ne hl2, upd_same]; rfl, ?_⟩
          exact shows_child F (full kids 0) 0 0 _ (by omega) rfl x l pl g3 j e o hc ho
        · have : SpotAt H5 g (shows 0 (edge (full kids 0)) (full kids 0)) e := hsv e (by
            rcases he with he | ⟨j', hj', he⟩
            · exact .inl he
            · refine .inr ⟨j', ?_, he⟩
              have : j' ≠ j := fun z => hec (by rw [z, hc] at he; exact (Option.some.inj he).symm)
              omega)
          exact this.mono (fun b xs q => s7 b _ q (nsp _ _ q (by intro z; cases z))) (if_neg hec)
      · rintro σ H5 ⟨ks, g, v8, v9, rfl, s5, q1, q2, hks, tabs, hsv⟩
        refine ⟨ks, g, _, _, _, _, _, rfl, s5, hks, tabs, fun c hc => hsv c ?_⟩
        rcases hc with hc | ⟨j, q, hj, hq, hcq⟩
        · exact .inl (.inl hc)
        · by_cases hji : j = i
          · subst hji
            rw [hx] at hq
            cases hq
            obtain ⟨j', hj'⟩ := List.mem_iff_getElem?.mp hcq
            refine .inr ⟨j', ?_, hj'⟩
            have := (List.getElem?_eq_some_iff.mp hj').1
            rw [ints_len, zs_len, offs_length, List.length_map]
            omega
          · exact .inl (.inr ⟨j, q, by omega, hq, hcq⟩)
    · rintro σ H4 ⟨ks, g, v3, v6, v7, v8, v9, rfl, s4, hks, tabs, hsv⟩
      refine ⟨_, rfl, ?_⟩
      refine k sp ks g H4 (s2.trans (p3.same.trans s4)) hks tabs fun n hn => hsv n ?_
      obtain ⟨j, hj⟩ := List.mem_iff_getElem?.mp hn
      rcases ahead hj with ⟨_, rfl⟩ | ⟨j', q, h1, h2, h3⟩
      · exact .inl rfl
      · refine .inr ⟨j', q, ?_, h2, h3⟩
        have := (List.getElem?_eq_some_iff.mp h2).1
        rw [ints_len]
        exact this
end TW
namespace TW
open PySem L2 WT
open Kh309 (Abs)

theorem disp1 {tk tv : TE} {σ : St} {H : Hp} {Q : List (V × V) → Hp → Prop} : tPairs [(tk, tv)] σ H Q = (tk σ H fun x H1 => tv σ H1 fun y H2 => Q [(x, y)] H2) := by
  simp only [tPairs]
/-! ### begin -/
theorem begun_row (v : Nat) : Kh309.begun.row v = if v = 0 then some [] else none := by
  cases v with
  | zero => rfl
  | succ n =>
    rw [if_neg (by omega)]
    show (some [] :: List.replicate 127 none).getD (n + 1) none = none
    rw [List.getD_eq_getElem?_getD, List.getElem?_cons_succ, List.getElem?_replicate]
    split <;> rfl
theorem begun_there (v : Nat) : Kh309.begun.there v = decide (v = 0) := by
  rw [Abs.there, begun_row]
  by_cases h : v = 0
  · rw [if_pos h, decide_eq_true h]; rfl
  · rw [if_neg h, decide_eq_false h]; rfl
theorem begun_kids (v : Nat) : Kh309.begun.children v = [] := by
  rw [Abs.children, begun_row]
  split <;> rfl
def xBegin (K : PySem.W.Frag) : TS := tSeq (sFld K (tVar 0) (tDisp [(tC (.int 0), tC .non)]) "parents") (tSeq (sFld K (tVar 0) (tDisp [(tC (.int 0), tLst tNil)]) "rows")
  (tSeq (sFld K (tVar 0) tDNewK "shut") (tSeq (sFld K (tVar 0) (tC (.int 0)) "standing") (tRet (tC (.int 0))))))
def FsOk (fs : List (Str × V)) : Prop := fs = [] ∨ ∃ dp dr ds st, fs = tf dp dr ds st
theorem FsOk.put {fs : List (Str × V)} (h : FsOk fs) (dp dr ds : Addr) : putF "standing" (.int 0) (putF "shut" (.ref ds) (putF "rows" (.ref dr) (putF "parents" (.ref dp) fs))) = tf dp dr ds 0 := by
  rcases h with rfl | ⟨a, b, c, s, rfl⟩
  · exact tf_new dp dr ds 0
  · rw [tf_putP, tf_putR, tf_putS]
    exact tf_putT _ _ _ _ 0
theorem FsOk.len {fs : List (Str × V)} (h : FsOk fs) : fs.length ≤ 4 := by
  rcases h with rfl | ⟨a, b, c, s, rfl⟩
  · show 0 ≤ 4; omega
  · show 4 ≤ 4; omega
theorem rd_begin {K : PySem.W.Frag} {C D : Addr} (T : Txt K C D) {H : Hp} {nx : St → Hp → Prop} {Q : VK} {p dx : Addr} {fs : List (Str × V)} (hp : H p = some (.ins C dx fs)) (hf : FsOk fs)
    (k : ∀ t' H', TreeAt C H' p t' Kh309.begun → (∀ b o, H b = some o → b ≠ p → H' b = some o ∧ ¬ Own p t' Kh309.begun b) → Q (.int 0) H') : xBegin K { nx := nx, rt := Q } [some (.ref p)] H := by
  have l0 := hf.len
  intro dp hdp
  rw [disp1]
  refine ⟨upd_same, [(kN 0, .non)], rfl, by show 1 ≤ 15; decide, ?_⟩
  rw [upd_upd]
  have pdp : p ≠ dp := ne_of_none hp hdp
  refine ⟨_, rfl, p, C, dx, fs, rfl, by rw [upd_ne pdp]; exact hp, T.cl, T.nP, by omega, ?_⟩
  -- rows
  intro dr hdr
  rw [disp1]
  refine ⟨small (by show 0 ≤ 100000; omega), fun lr hlr => ?_⟩
  have drlr : dr ≠ lr := ne_of_none upd_same hlr
  refine ⟨by rw [upd_ne drlr]; exact upd_same, [(kN 0, .ref lr)], rfl, by show 1 ≤ 15; decide, ?_⟩
  have l1 := length_putF "parents" (V.ref dp) fs
  have hdr' : (upd H dp (.dK (mergeK [] [(kN 0, .non)]))) dr = none := by
    have : dr ≠ p := fun e => by rw [e, upd_same] at hdr; cases hdr
    rwa [upd_ne this] at hdr
  have fdr : H dr = none := (same_new hdp).free hdr'
  have dpdr : dp ≠ dr := ne_of_none upd_same hdr'
  have pdr : p ≠ dr := ne_of_none hp fdr
  have plr : p ≠ lr := fun e => by
    rw [← e, upd_ne pdr, upd_same] at hlr
    cases hlr
  have dplr : dp ≠ lr := fun e => by
    rw [← e, upd_ne dpdr, upd_ne pdp.symm, upd_same] at hlr
    cases hlr
  have flr : H lr = none := by
    rw [upd_ne drlr.symm, upd_ne plr.symm, upd_ne dplr.symm] at hlr
    exact hlr
  refine ⟨_, rfl, p, C, dx, _, rfl, by rw [upd_ne pdr, upd_ne plr, upd_ne pdr, upd_same], T.cl, T.nR, by omega, ?_⟩
  -- shut
  intro ds hds
  have l2 := length_putF "rows" (V.ref dr) (putF "parents" (V.ref dp) fs)
  have pds : p ≠ ds := fun e => by rw [← e, upd_same] at hds; cases hds
  have drds : dr ≠ ds := fun e => by rw [← e, upd_ne pdr.symm, upd_same] at hds; cases hds
  have lrds : lr ≠ ds := fun e => by rw [← e, upd_ne plr.symm, upd_ne drlr.symm, upd_same] at hds; cases hds
  have dpds : dp ≠ ds := fun e => by rw [← e, upd_ne pdp.symm, upd_ne dpdr, upd_ne dplr, upd_ne dpdr, upd_ne pdp.symm, upd_same] at hds; cases hds
  have fds : H ds = none := by
    rw [upd_ne pds.symm, upd_ne drds.symm, upd_ne lrds.symm, upd_ne drds.symm, upd_ne pds.symm, upd_ne dpds.symm] at hds
    exact hds
  refine ⟨_, rfl, p, C, dx, _, rfl, by rw [upd_ne pds, upd_same], T.cl, T.nS, by omega, ?_⟩
  have l3 := length_putF "shut" (V.ref ds) (putF "rows" (V.ref dr) (putF "parents" (V.ref dp) fs))
  refine ⟨_, rfl, p, C, dx, _, rfl, upd_same, T.cl, T.nT, by omega, ?_⟩
  refine k ⟨dx, dp, dr, ds, mergeK [] [(kN 0, .non)], mergeK [] [(kN 0, .ref lr)], [], fun _ => lr⟩ _ ?_ ?_
  · refine ⟨begun_wf, ?_, ?_, ?_, ?_, dpdr, dpds, drds, (Tab.one _).congr fun n => ?_, (Tab.one _).congr fun n => ?_, ⟨List.nodup_nil, fun k hk => absurd hk (by simp), fun n => rfl⟩, fun n hn => ?_, fun m n hm hn _ => ?_⟩
    · rw [upd_same, hf.put]
      rfl
    · show _ = some (HO.dK (mergeK [] [(kN 0, .non)]))
      rw [upd_ne pdp.symm, upd_ne pdp.symm, upd_ne dpds, upd_ne pdp.symm, upd_ne dpdr, upd_ne dplr, upd_ne dpdr, upd_ne pdp.symm, upd_same]
    · show _ = some (HO.dK (mergeK [] [(kN 0, .ref lr)]))
      rw [upd_ne pdr.symm, upd_ne pdr.symm, upd_ne drds, upd_ne pdr.symm, upd_same]
    · show _ = some (HO.dK [])
      rw [upd_ne pds.symm, upd_ne pds.symm, upd_same]
    · rw [fP, begun_there]
      by_cases h : n = 0
      · subst h
        rw [pV, begun_wf.parent_root]
        rfl
      · rw [if_neg h, decide_eq_false h]
        rfl
    · rw [fR, begun_there]
      by_cases h : n = 0
      · subst h; rfl
      · rw [if_neg h, decide_eq_false h]; rfl
    · rw [begun_kids]
      show _ = some (HO.lst [])
      rw [upd_ne plr.symm, upd_ne plr.symm, upd_ne lrds, upd_ne plr.symm, upd_ne drlr.symm, upd_same]
    · rw [begun_there] at hm hn
      have := of_decide_eq_true hm
      have := of_decide_eq_true hn
      omega
  · intro b o e hb
    have b1 : b ≠ dp := ne_of_none e hdp
    have b2 : b ≠ dr := ne_of_none e fdr
    have b3 : b ≠ lr := ne_of_none e flr
    have b4 : b ≠ ds := ne_of_none e fds
    refine ⟨?_, ?_⟩
    · rw [upd_ne hb, upd_ne hb, upd_ne b4, upd_ne hb, upd_ne b2, upd_ne b3, upd_ne b2, upd_ne hb, upd_ne b1]
      exact e
    · rintro (h | h | h | h | ⟨n, _, h⟩)
      · exact hb h
      · exact b1 h
      · exact b2 h
      · exact b4 h
      · exact b3 h
def spBegin (C : Addr) : Sp := fun vs H Q _ => ∃ (p dx : Addr) (fs : List (Str × V)), vs = [.ref p] ∧ H p = some (.ins C dx fs) ∧ FsOk fs ∧
  ∀ t' H', TreeAt C H' p t' Kh309.begun → (∀ b o, H b = some o → b ≠ p → H' b = some o ∧ ¬ Own p t' Kh309.begun b) → Q (.int 0) H'
/-! ### __init__ -/
def xInit (C : Addr) : TS := tDrop (tMeth C "begin" (spBegin C) [] E0 (tVar 0) tNil)
theorem rd_init {C : Addr} {H : Hp} {Q : VK} {p dx : Addr} (hp : H p = some (.ins C dx []))
    (k : ∀ t' H', TreeAt C H' p t' Kh309.begun → (∀ b o, H b = some o → b ≠ p → H' b = some o ∧ ¬ Own p t' Kh309.begun b) → Q .non H') : xInit C { nx := fun _ H' => Q .non H', rt := Q } [some (.ref p)] H :=
  ⟨_, rfl, p, dx, [], rfl, hp, rfl, p, dx, [], rfl, hp, .inl rfl, fun t' H' a b => k t' H' a b⟩
def spInit (C : Addr) : Sp := fun vs H Q _ => ∃ (p dx : Addr), vs = [.ref p] ∧ H p = some (.ins C dx []) ∧
  ∀ t' H', TreeAt C H' p t' Kh309.begun → (∀ b o, H b = some o → b ≠ p → H' b = some o ∧ ¬ Own p t' Kh309.begun b) → Q .non H'

/-! ### least_free -/
def xLeastFree (K : PySem.W.Frag) : TS := tSeq (tAsg (tC (.int 0)) (gName 1)) (tSeq (tWhile (tB (tDIn (tVar 1) (tFld K (tVar 0) "parents"))) (tAsg (tOp oAdd (tVar 1) (tC (.int 1))) (gName 1))) (tRet (tVar 1)))
theorem DGet.node {H : Hp} {d : Addr} {kvs : List (Key × V)} (n : Nat) (h : H d = some (.dK kvs)) : DGet H d (.int (n : Int)) (valV kvs (kN n)) := DGet.k (k := kN n) h
theorem rd_leastFree {K : PySem.W.Frag} {C D : Addr} (T : Txt K C D) {H : Hp} {nx : St → Hp → Prop} {Q : VK} {p : Addr} {t : Tr} {a : Abs} (A : TreeAt C H p t a) {v : Nat} (hv : leastFree a = some v)
    (k : Q (.int (v : Int)) H) : xLeastFree K { nx := nx, rt := Q } [some (.ref p), none] H := by
  obtain ⟨h1, h2, h3⟩ := leastFree_some hv
  refine ⟨fun m σ H' => ∃ n : Nat, m = v - n ∧ n ≤ v ∧ H' = H ∧ σ = [some (.ref p), some (.int (n : Int))], ⟨v, 0, rfl, by omega, rfl, rfl⟩, ?_⟩
  rintro m σ H' ⟨n, rfl, hn, rfl, rfl⟩
  refine ⟨_, rfl, _, rfl, p, C, t.dx, _, _, rfl, A.ob, T.cl, T.nP, tf_p _ _ _ _, t.dp, _, rfl, DGet.node n A.hp, _, rfl, ?_⟩
  rw [A.isThere]
  by_cases hnv : n = v
  · subst hnv
    rw [h2]
    refine iteF ?_
    exact ⟨_, rfl, k⟩
  · rw [h3 n (by omega)]
    refine iteT ⟨fun σ' H' => ∃ m', m' < v - n ∧ _, fun _ _ h => h, ?_⟩
    refine ⟨_, rfl, _, _, rfl, rfl, v - (n + 1), by omega, n + 1, rfl, by omega, rfl, ?_⟩
    show [some (V.ref p), some (V.int ((n : Int) + 1))] = _
    have : ((n + 1 : Nat) : Int) = (n : Int) + 1 := by omega
    rw [this]
def spLeastFree (C : Addr) : Sp := fun vs H Q _ => ∃ (p : Addr) (t : Tr) (a : Abs) (v : Nat), vs = [.ref p] ∧ TreeAt C H p t a ∧ leastFree a = some v ∧ Q (.int (v : Int)) H

/-! ### what a call promises -/
def Done (C p : Addr) (t : Tr) (a : Abs) (H : Hp) (c : Kh309.Call) (Q : VK) : Prop := ∀ t' H', TreeAt C H' p t' (Kh309.doing a c).1 → Kept p t a H t' (Kh309.doing a c).1 H' → Q (.int (Kh309.doing a c).2.value) H'
theorem Done.use {C p : Addr} {t : Tr} {a : Abs} {H : Hp} {c : Kh309.Call} {Q : VK} (k : Done C p t a H c Q) {a' : Abs} {z : Int} (e : Kh309.doing a c = (a', Kh309.say z)) :
    ∀ t' H', TreeAt C H' p t' a' → Kept p t a H t' a' H' → Q (.int z) H' := by
  rw [Done, e] at k
  exact k
/-! ### add -/
def rLenD : List V → Hp → VK → Prop := fun xs H Q => ∃ a kvs, xs = [V.ref a] ∧ H a = some (.dK kvs) ∧ Q (.int kvs.length) H
def xAdd (K : PySem.W.Frag) (C : Addr) : TS := tSeq (tIfS (tB (tDNotIn (tVar 1) (tFld K (tVar 0) "parents"))) (tRet (tC (.int (-2)))) tNext)
  (tSeq (tIfS (tTest (tOp rEq (tCB rLenD (tCons (tFld K (tVar 0) "parents") tNil)) (tC (.int 128)))) (tRet (tC (.int (-28)))) tNext)
  (tSeq (tAsg (tMeth C "least_free" (spLeastFree C) [] E0 (tVar 0) tNil) (gName 2))
  (tSeq (sDPut (tFld K (tVar 0) "parents") (tVar 2) (tVar 1))
  (tSeq (sDPut (tFld K (tVar 0) "rows") (tVar 2) (tLst tNil))
  (tSeq (tDrop (tBM K "list" rAppend (tDGet (tFld K (tVar 0) "rows") (tVar 1)) (tCons (tVar 2) tNil)))
  (tRet (tVar 2)))))))
theorem TreeAt.full {C : Addr} {H : Hp} {p : Addr} {t : Tr} {a : Abs} (A : TreeAt C H p t a) : t.kp.length = 128 ↔ leastFree a = none := by
  obtain ⟨ns, h1, h2, h3, _⟩ := A.tp.nodes
  rw [leastFree_none, ← count_all A.wf h1 fun n => by
    rw [h3, fP]
    cases a.there n <;> simp, h2]
theorem s_nolf : ∀ dp dr ds st, (tf dp dr ds st).lookup ("least_free" : Str) = none := fun dp dr ds st => tf_no _ _ _ _ (by decide +kernel) (by decide +kernel) (by decide +kernel) (by decide +kernel)
theorem rd_add {K : PySem.W.Frag} {C D : Addr} (T : Txt K C D) {H : Hp} {nx : St → Hp → Prop} {Q : VK} {p : Addr} {t : Tr} {a : Abs} (A : TreeAt C H p t a) (n : Nat) (k : Done C p t a H (.add n) Q) :
    xAdd K C { nx := nx, rt := Q } [some (.ref p), some (.int (n : Int)), none] H := by
  refine ⟨_, rfl, _, rfl, p, C, t.dx, _, _, rfl, A.ob, T.cl, T.nP, tf_p _ _ _ _, t.dp, _, rfl, DGet.node n A.hp, _, rfl, ?_⟩
  rw [A.isThere]
  cases hn : a.there n with
  | false =>
    refine iteT ?_
    have e : Kh309.doing a (.add n) = (a, Kh309.say (-2)) := by simp only [Kh309.doing, hn, if_true]
    exact k.use e t H A (Kept.refl (Same.refl H))
  | true =>
    refine iteF ?_
    refine ⟨_, rfl, p, C, t.dx, _, _, rfl, A.ob, T.cl, T.nP, tf_p _ _ _ _, t.dp, _, rfl, A.hp, rfl, _, rfl, ?_⟩
    cases hf : leastFree a with
    | none =>
      have hl := A.full.mpr hf
      rw [decide_eq_true (by rw [hl]; rfl)]
      refine iteT ?_
      have e : Kh309.doing a (.add n) = (a, Kh309.say (-28)) := by
        have hf : (List.range Kh309.MANY).find? (fun v => !a.there v) = none := hf
        simp only [Kh309.doing, hn, hf]
        rfl
      exact k.use e t H A (Kept.refl (Same.refl H))
    | some v =>
      have hl : t.kp.length ≠ 128 := fun e => by rw [A.full.mp e] at hf; cases hf
      rw [decide_eq_false (fun e => hl (by injection e with e; omega))]
      refine iteF ?_
      obtain ⟨hv1, hv2, _⟩ := leastFree_some hf
      refine ⟨_, rfl, p, t.dx, _, rfl, A.ob, s_nolf _ _ _ _, p, t, a, v, rfl, A, hf, ?_⟩
      have e : Kh309.doing a (.add n) = (added a n v, Kh309.say v) := by
        have hf : (List.range Kh309.MANY).find? (fun v => !a.there v) = some v := hf
        simp only [Kh309.doing, hn, hf]
        rfl
      have pp : p ≠ t.dp := ne_of A.ob A.hp (by intro z; cases z)
      have pr : p ≠ t.dr := ne_of A.ob A.hr (by intro z; cases z)
      have ps : p ≠ t.ds := ne_of A.ob A.hs (by intro z; cases z)
      refine ⟨_, rfl, _, rfl, p, C, t.dx, _, _, rfl, A.ob, T.cl, T.nP, tf_p _ _ _ _, _, rfl, t.dp, _, rfl, DPut.k (k := kN v) A.hp A.tp.small, ?_⟩
      have ob1 : (upd H t.dp (.dK (putK t.kp (kN v) (.int (n : Int))))) p = some (.ins C t.dx (tf t.dp t.dr t.ds a.stands)) := by rw [upd_ne pp]; exact A.ob
      refine ⟨small (by show 0 ≤ 100000; omega), fun lv hlv => ?_⟩
      have hlp : lv ≠ t.dp := fun e => by rw [e, upd_same] at hlv; cases hlv
      have flv : H lv = none := by rwa [upd_ne hlp] at hlv
      have ob2 := same_new (o := .lst []) hlv _ _ ob1
      have hr2 : (upd (upd H t.dp (.dK (putK t.kp (kN v) (.int (n : Int))))) lv (.lst [])) t.dr = some (.dK t.kr) := by rw [upd_ne (ne_of_none A.hr flv), upd_ne A.n1.symm]; exact A.hr
      refine ⟨_, rfl, p, C, t.dx, _, _, rfl, ob2, T.cl, T.nR, tf_r _ _ _ _, _, rfl, t.dr, _, rfl, DPut.k (k := kN v) hr2 A.tr.small, ?_⟩
      have ob3 : (upd (upd (upd H t.dp (.dK (putK t.kp (kN v) (.int (n : Int))))) lv (.lst [])) t.dr (.dK (putK t.kr (kN v) (.ref lv)))) p = some (.ins C t.dx (tf t.dp t.dr t.ds a.stands)) := by rw [upd_ne pr]; exact ob2
      have hnv : n ≠ v := fun e => by rw [e, hv2] at hn; cases hn
      have hrow : valV (putK t.kr (kN v) (.ref lv)) (kN n) = some (.ref (t.ra n)) := by rw [(A.tr.put hv1 (.ref lv)).val, if_neg hnv, fR, if_pos hn]
      have hrn := A.lst n hn
      have rp : ∀ x, a.there x = true → t.ra x ≠ t.dp := fun x hx => ne_of (A.lst x hx) A.hp (by intro z; cases z)
      have rr : ∀ x, a.there x = true → t.ra x ≠ t.dr := fun x hx => ne_of (A.lst x hx) A.hr (by intro z; cases z)
      have rs : ∀ x, a.there x = true → t.ra x ≠ t.ds := fun x hx => ne_of (A.lst x hx) A.hs (by intro z; cases z)
      have rl : ∀ x, a.there x = true → t.ra x ≠ lv := fun x hx => ne_of_none (A.lst x hx) flv
      have hrn3 : ∀ x, a.there x = true → (upd (upd (upd H t.dp (.dK (putK t.kp (kN v) (.int (n : Int))))) lv (.lst [])) t.dr (.dK (putK t.kr (kN v) (.ref lv)))) (t.ra x) = some (.lst (nVs (a.children x))) := fun x hx => by
        rw [upd_ne (rr x hx), upd_ne (rl x hx), upd_ne (rp x hx)]
        exact A.lst x hx
      refine ⟨_, rfl, p, C, t.dx, _, _, rfl, ob3, T.cl, T.nR, tf_r _ _ _ _, _, rfl, t.dr, _, rfl, DGet.of upd_same hrow, .inl ⟨rfl, _, SqL.of (hrn3 n hn)⟩, _, rfl, t.ra n, _, _, rfl, rfl, hrn3 n hn, ?_, ?_⟩
      · rw [ints_len]
        have := A.kids_len n
        exact small' (by omega)
      refine ⟨_, rfl, ?_⟩
      have k := k.use e
      have lvp : lv ≠ p := (ne_of_none A.ob flv).symm
      have lvr : lv ≠ t.dr := (ne_of_none A.hr flv).symm
      have lvs : lv ≠ t.ds := (ne_of_none A.hs flv).symm
      have pn : p ≠ t.ra n := ne_of A.ob hrn (by intro z; cases z)
      have wf' := added_wf A.wf hn hv1 hv2
      have th := added_there A.wf hn hv1 hv2
      refine k ⟨t.dx, t.dp, t.dr, t.ds, putK t.kp (kN v) (.int (n : Int)), putK t.kr (kN v) (.ref lv), t.ks, fun m => if m = v then lv else t.ra m⟩ _ ?_ ?_
      · refine ⟨wf', ?_, ?_, ?_, ?_, A.n1, A.n2, A.n3, (A.tp.put hv1 _).congr fun m => ?_, (A.tr.put hv1 _).congr fun m => ?_, A.ts.congr fun m => rfl, fun m hm => ?_, fun x y hx hy hxy => ?_⟩
        · rw [upd_ne pn]; exact ob3
        · show _ = some (HO.dK (putK t.kp (kN v) (.int (n : Int))))
          rw [upd_ne (rp n hn).symm, upd_ne A.n1, upd_ne hlp.symm, upd_same]
        · show _ = some (HO.dK (putK t.kr (kN v) (.ref lv)))
          rw [upd_ne (rr n hn).symm, upd_same]
        · show _ = some (HO.dK t.ks)
          rw [upd_ne (rs n hn).symm, upd_ne A.n3.symm, upd_ne lvs.symm, upd_ne A.n2.symm]
          exact A.hs
        · unfold fP
          rw [th]
          by_cases h : m = v
          · subst h
            rw [if_pos rfl, if_pos rfl, if_pos rfl, pV, added_parent_new A.wf hn hv1 hv2]
          · rw [if_neg h, if_neg h]
            by_cases h2 : a.there m = true
            · rw [if_pos h2, if_pos h2, pV, pV, added_parent A.wf hn hv1 hv2 m h2]
            · rw [if_neg h2, if_neg h2]
        · unfold fR
          rw [th]
          show _ = if (if m = v then true else a.there m) = true then some (V.ref (if m = v then lv else t.ra m)) else none
          by_cases h : m = v
          · subst h; rw [if_pos rfl, if_pos rfl, if_pos rfl, if_pos rfl]
          · rw [if_neg h, if_neg h, if_neg h]
        · rw [added_kids A.wf hn hv1 hv2]
          rw [th] at hm
          show (upd _ _ _) (if m = v then lv else t.ra m) = _
          by_cases h : m = v
          · rw [if_pos h, if_pos h, upd_ne (rl n hn).symm, upd_ne lvr, upd_same]
            rfl
          · rw [if_neg h] at hm
            rw [if_neg h, if_neg h]
            by_cases h2 : m = n
            · subst h2
              rw [if_pos rfl, upd_same, ints_append]
              rfl
            · rw [if_neg h2, upd_ne (fun z => h2 (A.inj _ _ hm hn z))]
              exact hrn3 m hm
        · rw [th] at hx hy
          have hxy : (if x = v then lv else t.ra x) = (if y = v then lv else t.ra y) := hxy
          by_cases h1 : x = v
          · by_cases h2 : y = v
            · omega
            · rw [if_pos h1, if_neg h2] at hxy
              rw [if_neg h2] at hy
              exact absurd hxy.symm (rl y hy)
          · rw [if_neg h1] at hx
            by_cases h2 : y = v
            · rw [if_neg h1, if_pos h2] at hxy
              exact absurd hxy (rl x hx)
            · rw [if_neg h1, if_neg h2] at hxy
              rw [if_neg h2] at hy
              exact A.inj _ _ hx hy hxy
      · intro b o eb hb
        have b1 : b ≠ p := fun z => hb (.inl z)
        have b2 : b ≠ t.dp := fun z => hb (.inr (.inl z))
        have b3 : b ≠ t.dr := fun z => hb (.inr (.inr (.inl z)))
        have b4 : b ≠ t.ds := fun z => hb (.inr (.inr (.inr (.inl z))))
        have b5 : ∀ x, a.there x = true → b ≠ t.ra x := fun x hx z => hb (.inr (.inr (.inr (.inr ⟨x, hx, z⟩))))
        have b6 : b ≠ lv := ne_of_none eb flv
        refine ⟨by rw [upd_ne (b5 n hn), upd_ne b3, upd_ne b6, upd_ne b2]; exact eb, ?_⟩
        rintro (h | h | h | h | ⟨x, hx, h⟩)
        · exact b1 h
        · exact b2 h
        · exact b3 h
        · exact b4 h
        · have h : b = if x = v then lv else t.ra x := h
          have hx : (added a n v).there x = true := hx
          rw [th] at hx
          by_cases h2 : x = v
          · rw [if_pos h2] at h; exact b6 h
          · rw [if_neg h2] at h hx; exact b5 x hx h
end TW
namespace TW
open PySem L2 WT
open Kh309 (Abs)

/-! ### stands_within -/
def xWithin (K : PySem.W.Frag) : TS := tSeq (tAsg (tFld K (tVar 0) "standing") (gName 2))
  (tSeq (tWhile (tAnd (tTest (tOp rNe (tVar 2) (tVar 1))) (tTest (tOp rNe (tVar 2) (tC (.int 0))))) (tAsg (tDGet (tFld K (tVar 0) "parents") (tVar 2)) (gName 2)))
  (tRet (tOp rEq (tVar 2) (tVar 1))))
theorem dec_nat (m n : Nat) : decide (V.int (m : Int) = V.int (n : Int)) = decide (m = n) := by
  by_cases h : m = n
  · rw [decide_eq_true h, decide_eq_true (by rw [h])]
  · rw [decide_eq_false h, decide_eq_false (fun e => h (by injection e with e; omega))]
theorem rd_within {K : PySem.W.Frag} {C D : Addr} (T : Txt K C D) {H : Hp} {nx : St → Hp → Prop} {Q : VK} {p : Addr} {t : Tr} {a : Abs} (A : TreeAt C H p t a) {n : Nat} (hn : a.there n = true)
    (k : Q (.bl ((a.below n).contains a.stands)) H) : xWithin K { nx := nx, rt := Q } [some (.ref p), some (.int (n : Int)), none] H := by
  have hn128 := A.wf.lt hn
  refine ⟨_, rfl, p, C, t.dx, _, _, rfl, A.ob, T.cl, T.nT, tf_t _ _ _ _, ?_⟩
  refine ⟨fun m σ H' => ∃ h : Nat, m = A.wf.depth h ∧ a.there h = true ∧ (Desc a.children n a.stands ↔ Desc a.children n h) ∧ H' = H ∧ σ = [some (.ref p), some (.int (n : Int)), some (.int (h : Int))],
    ⟨_, a.stands, rfl, A.wf.stands, Iff.rfl, rfl, rfl⟩, ?_⟩
  rintro m σ H' ⟨h, rfl, hh, hd, rfl, rfl⟩
  refine ⟨_, rfl, _, rfl, rfl, _, rfl, ?_⟩
  rw [dec_nat]
  have fin : ∀ b : Bool, decide (h = n) = b → (a.below n).contains a.stands = b → Q (.bl b) H' := fun b _ e => by rw [← e]; exact k
  have done : ∀ b : Bool, decide (h = n) = b → (a.below n).contains a.stands = b →
      (tRet (tOp rEq (tVar 2) (tVar 1))) { nx := nx, rt := Q } [some (.ref p), some (.int (n : Int)), some (.int (h : Int))] H' := fun b e1 e2 => by
    refine ⟨_, rfl, _, rfl, rfl, ?_⟩
    show Q (.bl (decide (V.int (h : Int) = V.int (n : Int)))) H'
    rw [dec_nat, e1]
    exact fin b e1 e2
  by_cases hhn : h = n
  · rw [decide_eq_true hhn]
    refine iteF ?_
    refine iteF ?_
    refine done true (decide_eq_true hhn) ?_
    rw [A.wf.below_iff hn128, hd, hhn]
    exact .refl
  · rw [decide_eq_false hhn]
    refine iteT ?_
    refine ⟨_, rfl, rfl, _, rfl, ?_⟩
    have e0 : decide (V.int (h : Int) = V.int 0) = decide (h = 0) := dec_nat h 0
    rw [e0]
    by_cases h0 : h = 0
    · rw [decide_eq_true h0]
      refine iteF ?_
      refine done false (decide_eq_false hhn) ?_
      have : ¬ Desc a.children n a.stands := by
        rw [hd, h0]
        exact up_root A.wf (by omega)
      cases q : (a.below n).contains a.stands with
      | false => rfl
      | true => exact absurd ((A.wf.below_iff hn128).mp q) this
    · rw [decide_eq_false h0]
      refine iteT ⟨fun σ' H' => ∃ m', m' < A.wf.depth h ∧ _, fun _ _ h => h, ?_⟩
      obtain ⟨q, hq⟩ := A.wf.par h hh h0
      have hpar : pV a h = .int (q : Int) := by rw [pV, A.wf.parent_of hq]
      refine ⟨_, rfl, p, C, t.dx, _, _, rfl, A.ob, T.cl, T.nP, tf_p _ _ _ _, _, rfl, t.dp, _, rfl, DGet.of A.hp (A.parOf hh), ?_⟩
      refine ⟨A.wf.depth q, A.wf.depth_lt hq, q, rfl, WF.pthere hq, ?_, rfl, ?_⟩
      · rw [hd]
        exact up_step A.wf hhn hq
      · rw [hpar]
        rfl
def spWithin (C : Addr) : Sp := fun vs H Q _ => ∃ (p : Addr) (t : Tr) (a : Abs) (n : Nat), vs = [.ref p, .int (n : Int)] ∧ TreeAt C H p t a ∧ a.there n = true ∧ Q (.bl ((a.below n).contains a.stands)) H

/-! ### all_within -/
def xAllW (K : PySem.W.Frag) : TS := tSeq (tAsg (tLst tNil) (gName 2)) (tSeq (tAsg (tLst (tCons (tVar 1) tNil)) (gName 3))
  (tSeq (tWhile (tTru K (tVar 3)) (tSeq (tAsg (tBM0 K "list" rPop (tVar 3)) (gName 4)) (tSeq (tDrop (tBM K "list" rAppend (tVar 2) (tCons (tVar 4) tNil)))
    (tDrop (tBM K "list" rExtend (tVar 3) (tCons (tDGet (tFld K (tVar 0) "rows") (tVar 4)) tNil))))))
  (tRet (tVar 2))))
/-- the rows of what's below v -/
structure RowsOf (C : Addr) (H : Hp) (p : Addr) (a : Abs) (v : Nat) : Prop where
  ex : ∃ dx dp dr ds st kr, ∃ ra : Nat → Addr, H p = some (.ins C dx (tf dp dr ds st)) ∧ H dr = some (.dK kr) ∧ ∀ x, Desc a.children v x → valV kr (kN x) = some (.ref (ra x)) ∧ H (ra x) = some (.lst (nVs (a.children x)))
theorem last_or {α : Type} (l : List α) : l = [] ∨ ∃ r x, l = r ++ [x] := by
  cases h : l.reverse with
  | nil => left; simpa using h
  | cons x r =>
    right
    refine ⟨r.reverse, x, ?_⟩
    have := congrArg List.reverse h
    rwa [List.reverse_reverse, List.reverse_cons] at this
theorem ints_last (l : List Nat) (x : Nat) : (nVs (l ++ [x]))[(nVs (l ++ [x])).length - 1]? = some (.int (x : Int)) := by
  rw [ints_len, ints_get, List.length_append]
  show (l ++ [x])[l.length + 1 - 1]?.map nV = _
  rw [Nat.add_sub_cancel, List.getElem?_append_right (Nat.le_refl _), Nat.sub_self]
  rfl
theorem ints_init (l : List Nat) (x : Nat) : (nVs (l ++ [x])).dropLast = nVs l := by
  rw [ints_append]
  show (nVs l ++ [nV x]).dropLast = _
  rw [List.dropLast_concat]
theorem ints_snoc (l : List Nat) (x : Nat) : nVs l ++ [V.int (x : Int)] = nVs (l ++ [x]) := by rw [ints_append]; rfl
theorem rd_allW {K : PySem.W.Frag} {C D : Addr} (T : Txt K C D) {H : Hp} {nx : St → Hp → Prop} {Q : VK} {p : Addr} {a : Abs} (wf : WF a) {v : Nat} (hv : a.there v = true) (R : RowsOf C H p a v)
    (k : ∀ l found H', Same H H' → H l = none → H' l = some (.lst (nVs found)) → found.Perm (a.below v) → Q (.ref l) H') : xAllW K { nx := nx, rt := Q } [some (.ref p), some (.int (v : Int)), none, none, none] H := by
  obtain ⟨dx, dp, dr, ds, st, kr, ra, hp, hdr, hrow⟩ := R.ex
  have hv128 := wf.lt hv
  refine ⟨small (by show 0 ≤ 100000; omega), fun lf hlf => ⟨_, rfl, small (by show 1 ≤ 100000; omega), fun lw hlw => ?_⟩⟩
  have nfw : lf ≠ lw := ne_of_none upd_same hlw
  have fw : H lw = none := (same_new hlf).free hlw
  refine ⟨fun m σ H' => ∃ (found ws : List Nat) (v4 : Option V), m = (belows a ws).length ∧ σ = [some (.ref p), some (.int (v : Int)), some (.ref lf), some (.ref lw), v4] ∧ Same H H' ∧ H' lf = some (.lst (nVs found)) ∧ H' lw = some (.lst (nVs ws)) ∧ Walked a v found ws,
    ⟨_, [], [v], none, rfl, rfl, (same_new hlf).trans (same_new hlw), by rw [upd_ne nfw, upd_same]; rfl, by rw [upd_same]; rfl, Walked.start v⟩, ?_⟩
  rintro m σ H' ⟨found, ws, v4, rfl, rfl, s, hf, hw, W⟩
  refine ⟨_, rfl, _, .inl ⟨_, SqL.of hw, rfl⟩, ?_⟩
  rcases last_or ws with rfl | ⟨r, x, rfl⟩
  · refine iteF ?_
    refine ⟨_, rfl, k lf found H' s hlf hf W.end_⟩
  · have hne : (!(nVs (r ++ [x])).isEmpty) = true := by rw [ints_append]; cases nVs r <;> rfl
    rw [hne]
    refine iteT ⟨fun σ' H' => ∃ m', m' < (belows a (r ++ [x])).length ∧ _, fun _ _ h => h, ?_⟩
    have hxt := W.mem wf hv (x := x) (by simp)
    have hx128 := wf.lt hxt
    have hxd : Desc a.children v x := by
      have hm : x ∈ a.below v := W.perm.mem_iff.mp (by
        rw [List.mem_append, belows, List.mem_flatMap]
        refine .inr ⟨x, by simp, ?_⟩
        rw [below_eq, full, grose, Rose.flat]
        simp)
      exact (wf.below_iff hv128).mp (by simpa using hm)
    obtain ⟨hr1, hr2⟩ := hrow x hxd
    have hlen := W.len
    have hbl := below_le wf hv128
    refine ⟨_, rfl, .inl ⟨rfl, _, SqL.of hw⟩, lw, _, _, rfl, rfl, hw, ints_last r x, ?_⟩
    rw [ints_init]
    have hf1 : (upd H' lw (.lst (nVs r))) lf = some (.lst (nVs found)) := by rw [upd_ne nfw]; exact hf
    refine ⟨_, rfl, .inl ⟨rfl, _, SqL.of hf1⟩, _, rfl, lf, _, _, rfl, rfl, hf1, ?_, ?_⟩
    · rw [ints_len]
      exact small' (by omega)
    rw [ints_snoc]
    have s1 : Same H (upd (upd H' lw (.lst (nVs r))) lf (.lst (nVs (found ++ [x])))) := Same.own hlf (Same.own fw s)
    have hw1 : (upd (upd H' lw (.lst (nVs r))) lf (.lst (nVs (found ++ [x])))) lw = some (.lst (nVs r)) := by rw [upd_ne nfw.symm, upd_same]
    have hrl := walked_len wf W
    refine ⟨_, rfl, .inl ⟨rfl, _, SqL.of hw1⟩, _, rfl, p, C, dx, _, _, rfl, s1 _ _ hp, T.cl, T.nR, tf_r _ _ _ _, _, rfl, dr, _, rfl, DGet.of (s1 _ _ hdr) hr1, lw, ra x, _, _, rfl, rfl, hw1, s1 _ _ hr2, ?_, ?_⟩
    · rw [ints_len, ints_len]
      have h1 := pigeon 128 _ (wf.nd x) fun c hc => wf.forest.lt x c hc
      rw [List.length_append] at hrl
      exact small (by omega)
    · rw [← ints_append]
      refine ⟨(belows a (r ++ a.children x)).length, by rw [belows_snoc wf r hx128]; omega, found ++ [x], r ++ a.children x, _, rfl, rfl, Same.own fw s1, by rw [upd_ne nfw, upd_same], upd_same, W.turn wf hx128⟩
where
  walked_len {a : Abs} (wf : WF a) {v : Nat} {found ws : List Nat} (W : Walked a v found ws) : ws.length ≤ (a.below v).length := by
    have h1 := W.len
    have h2 : ∀ l : List Nat, l.length ≤ (belows a l).length := by
      intro l
      induction l with
      | nil => exact Nat.zero_le _
      | cons x l ih =>
        rw [belows, List.flatMap_cons, List.length_append, List.length_cons]
        have : 1 ≤ (a.below x).length := by
          rw [below_eq, full, grose, Rose.flat, List.length_cons]; omega
        rw [belows] at ih
        omega
    have := h2 ws
    omega
def spAllW (C : Addr) : Sp := fun vs H Q _ => ∃ (p : Addr) (a : Abs) (v : Nat), vs = [.ref p, .int (v : Int)] ∧ WF a ∧ a.there v = true ∧ RowsOf C H p a v ∧
  ∀ l found H', Same H H' → H l = none → H' l = some (.lst (nVs found)) → found.Perm (a.below v) → Q (.ref l) H'

/-! ### forget -/
def xForget (K : PySem.W.Frag) : TS := tSeq (tDrop (tDPop1 (tFld K (tVar 0) "parents") (tVar 1))) (tSeq (tDrop (tDPop1 (tFld K (tVar 0) "rows") (tVar 1))) (tDrop (tDPop2 (tFld K (tVar 0) "shut") (tVar 1) (tC .non))))
structure DictsAt (C : Addr) (H : Hp) (p dx dp dr ds : Addr) (st : Nat) (kp kr ks : List (Key × V)) : Prop where
  ob : H p = some (.ins C dx (tf dp dr ds st))
  hp : H dp = some (.dK kp)
  hr : H dr = some (.dK kr)
  hs : H ds = some (.dK ks)
  n1 : dp ≠ dr
  n2 : dp ≠ ds
  n3 : dr ≠ ds
theorem rd_forget {K : PySem.W.Frag} {C D : Addr} (T : Txt K C D) {H : Hp} {Q : VK} {p dx dp dr ds : Addr} {st : Nat} {kp kr ks : List (Key × V)} (A : DictsAt C H p dx dp dr ds st kp kr ks) {n : Nat} {v1 v2 : V}
    (h1 : valV kp (kN n) = some v1) (h2 : valV kr (kN n) = some v2)
    (k : ∀ H', DictsAt C H' p dx dp dr ds st (dropK kp (kN n)) (dropK kr (kN n)) (dropK ks (kN n)) → (∀ b, b ≠ dp → b ≠ dr → b ≠ ds → H' b = H b) → Q .non H') :
    xForget K { nx := fun _ H' => Q .non H', rt := Q } [some (.ref p), some (.int (n : Int))] H := by
  have pp : p ≠ dp := ne_of A.ob A.hp (by intro z; cases z)
  have pr : p ≠ dr := ne_of A.ob A.hr (by intro z; cases z)
  have ps : p ≠ ds := ne_of A.ob A.hs (by intro z; cases z)
  refine ⟨_, rfl, p, C, dx, _, _, rfl, A.ob, T.cl, T.nP, tf_p _ _ _ _, dp, rfl, .inl ⟨_, .inl A.hp⟩, _, rfl, kp, kN n, v1, A.hp, rfl, h1, ?_⟩
  have ob1 : (upd H dp (.dK (dropK kp (kN n)))) p = _ := (upd_ne pp).trans A.ob
  have hr1 : (upd H dp (.dK (dropK kp (kN n)))) dr = _ := (upd_ne A.n1.symm).trans A.hr
  refine ⟨_, rfl, p, C, dx, _, _, rfl, ob1, T.cl, T.nR, tf_r _ _ _ _, dr, rfl, .inl ⟨_, .inl hr1⟩, _, rfl, kr, kN n, v2, hr1, rfl, h2, ?_⟩
  have ob2 : (upd (upd H dp (.dK (dropK kp (kN n)))) dr (.dK (dropK kr (kN n)))) p = _ := (upd_ne pr).trans ob1
  have hs2 : (upd (upd H dp (.dK (dropK kp (kN n)))) dr (.dK (dropK kr (kN n)))) ds = some (.dK ks) := by rw [upd_ne A.n3.symm, upd_ne A.n2.symm]; exact A.hs
  refine ⟨_, rfl, p, C, dx, _, _, rfl, ob2, T.cl, T.nS, tf_s _ _ _ _, ds, rfl, .inl ⟨_, .inl hs2⟩, _, rfl, ks, kN n, hs2, rfl, fun v _ => ?_, fun hno => ?_⟩
  · refine k _ ⟨by rw [upd_ne ps]; exact ob2, by rw [upd_ne A.n2, upd_ne A.n1, upd_same], by rw [upd_ne A.n3, upd_same], upd_same, A.n1, A.n2, A.n3⟩ fun b b1 b2 b3 => by rw [upd_ne b3, upd_ne b2, upd_ne b1]
  · refine k _ ⟨ob2, by rw [upd_ne A.n1, upd_same], upd_same, ?_, A.n1, A.n2, A.n3⟩ fun b b1 b2 b3 => by rw [upd_ne b2, upd_ne b1]
    rw [dropK_no (valV_not hno)]
    exact hs2
def spForget (C : Addr) : Sp := fun vs H Q _ => ∃ (p dx dp dr ds : Addr) (st : Nat) (kp kr ks : List (Key × V)) (n : Nat) (v1 v2 : V), vs = [.ref p, .int (n : Int)] ∧ DictsAt C H p dx dp dr ds st kp kr ks ∧ valV kp (kN n) = some v1 ∧ valV kr (kN n) = some v2 ∧
  ∀ H', DictsAt C H' p dx dp dr ds st (dropK kp (kN n)) (dropK kr (kN n)) (dropK ks (kN n)) → (∀ b, b ≠ dp → b ≠ dr → b ≠ ds → H' b = H b) → Q .non H'

/-! ### drop -/
def rRemove : V → List V → Hp → VK → Prop := fun x vs H Q => ∃ (l : Addr) (xs : List V) (y : V) (j : Nat) (z : V), x = .ref l ∧ vs = [y] ∧ H l = some (.lst xs) ∧ flatV y = true ∧ xs.all flatV = true ∧ xs[j]? = some z ∧ eqV z y = true ∧
  (∀ (m : Nat) (z' : V), m < j → xs[m]? = some z' → eqV z' y = false) ∧ Q .non (upd H l (.lst (xs.eraseIdx j)))
def xDrop (K : PySem.W.Frag) (C : Addr) : TS := tSeq (tIfS (tB (tDNotIn (tVar 1) (tFld K (tVar 0) "parents"))) (tRet (tC (.int (-2)))) tNext)
  (tSeq (tIfS (tTest (tOp rEq (tVar 1) (tC (.int 0)))) (tRet (tC (.int (-22)))) tNext)
  (tSeq (tAsg (tDGet (tFld K (tVar 0) "parents") (tVar 1)) (gName 2))
  (tSeq (tIfS (tB (tMeth C "stands_within" (spWithin C) [] E0 (tVar 0) (tCons (tVar 1) tNil))) (sFld K (tVar 0) (tVar 2) "standing") tNext)
  (tSeq (tDrop (tBM K "list" rRemove (tDGet (tFld K (tVar 0) "rows") (tVar 2)) (tCons (tVar 1) tNil)))
  (tSeq (tAsg (tMeth C "all_within" (spAllW C) [] E0 (tVar 0) (tCons (tVar 1) tNil)) (gName 3))
  (tSeq (tFor (iList K (tVar 3)) (gName 4) (tDrop (tMeth C "forget" (spForget C) [] E0 (tVar 0) (tCons (tVar 4) tNil))))
  (tRet (tLen K (tVar 3)))))))))
theorem no_m {m : Str} (h : (m == ("parents" : Str)) = false ∧ (m == ("rows" : Str)) = false ∧ (m == ("shut" : Str)) = false ∧ (m == ("standing" : Str)) = false) (dp dr ds : Addr) (st : Nat) : (tf dp dr ds st).lookup m = none := tf_no _ _ _ _ h.1 h.2.1 h.2.2.1 h.2.2.2
theorem no_sw (dp dr ds : Addr) (st : Nat) : (tf dp dr ds st).lookup ("stands_within" : Str) = none := no_m (by decide +kernel) _ _ _ _
theorem no_aw (dp dr ds : Addr) (st : Nat) : (tf dp dr ds st).lookup ("all_within" : Str) = none := no_m (by decide +kernel) _ _ _ _
theorem no_fg (dp dr ds : Addr) (st : Nat) : (tf dp dr ds st).lookup ("forget" : Str) = none := no_m (by decide +kernel) _ _ _ _
theorem flat_ints (l : List Nat) : (nVs l).all flatV = true := by
  rw [List.all_eq_true]
  intro x hx
  obtain ⟨n, _, rfl⟩ := List.mem_map.mp hx
  rfl
theorem erase_filter : ∀ (l : List Nat) (j v : Nat), l.Nodup → l[j]? = some v → l.eraseIdx j = l.filter (· != v)
  | [], j, v, _, h => by simp at h
  | x :: l, 0, v, hn, h => by
    have h : x = v := by simpa using h
    subst h
    rw [List.nodup_cons] at hn
    rw [List.filter_cons, if_neg (by simp)]
    show l = _
    rw [List.filter_eq_self.mpr]
    intro y hy
    have : y ≠ x := fun e => hn.1 (e ▸ hy)
    simpa using this
  | x :: l, j + 1, v, hn, h => by
    rw [List.nodup_cons] at hn
    have h : l[j]? = some v := by simpa using h
    have : x ≠ v := fun e => hn.1 (e ▸ List.mem_of_getElem? h)
    rw [List.filter_cons, if_pos (by simpa using this), List.eraseIdx_cons_succ, erase_filter l j v hn.2 h]
theorem ints_erase (l : List Nat) (j : Nat) : (nVs l).eraseIdx j = nVs (l.eraseIdx j) := by
  unfold nVs
  revert j
  induction l with
  | nil => exact fun _ => rfl
  | cons x l ih =>
    intro j
    cases j with
    | zero => rfl
    | succ j => rw [List.map_cons, List.eraseIdx_cons_succ, List.eraseIdx_cons_succ, List.map_cons, ih]
theorem dropped_shut {a : Abs} (v p n : Nat) : (dropped a v p).isShut n = (a.isShut n && !(a.below v).contains n) := by
  rw [Abs.isShut, Abs.isShut, dropped, Bool.eq_iff_iff, List.contains_iff_mem, List.mem_filter, Bool.and_eq_true, List.contains_iff_mem]
theorem TreeAt.stand {C : Addr} {H : Hp} {p : Addr} {t : Tr} {a : Abs} (A : TreeAt C H p t a) {s : Nat} (hs : a.there s = true) : TreeAt C (upd H p (.ins C t.dx (tf t.dp t.dr t.ds s))) p t { a with stands := s } := by
  have pp : p ≠ t.dp := ne_of A.ob A.hp (by intro z; cases z)
  have pr : p ≠ t.dr := ne_of A.ob A.hr (by intro z; cases z)
  have ps : p ≠ t.ds := ne_of A.ob A.hs (by intro z; cases z)
  exact ⟨A.wf.rest rfl A.wf.shut hs, upd_same, (upd_ne pp.symm).trans A.hp, (upd_ne pr.symm).trans A.hr, (upd_ne ps.symm).trans A.hs, A.n1, A.n2, A.n3, A.tp, A.tr, A.ts,
    fun n hn => (upd_ne (ne_of (A.lst n hn) A.ob (by intro z; cases z))).trans (A.lst n hn), A.inj⟩
theorem rd_drop {K : PySem.W.Frag} {C D : Addr} (T : Txt K C D) {H : Hp} {nx : St → Hp → Prop} {Q : VK} {p : Addr} {t : Tr} {a : Abs} (A : TreeAt C H p t a) (v : Nat) (k : Done C p t a H (.drop v) Q) :
    xDrop K C { nx := nx, rt := Q } [some (.ref p), some (.int (v : Int)), none, none, none] H := by
  refine ⟨_, rfl, _, rfl, p, C, t.dx, _, _, rfl, A.ob, T.cl, T.nP, tf_p _ _ _ _, t.dp, _, rfl, DGet.node v A.hp, _, rfl, ?_⟩
  rw [A.isThere]
  cases hv : a.there v with
  | false =>
    refine iteT ?_
    have e : Kh309.doing a (.drop v) = (a, Kh309.say (-2)) := by simp only [Kh309.doing, hv, if_true]
    exact k.use e t H A (Kept.refl (Same.refl H))
  | true =>
    refine iteF ?_
    refine ⟨_, rfl, rfl, _, rfl, ?_⟩
    have e0 : decide (V.int (v : Int) = V.int 0) = decide (v = 0) := dec_nat v 0
    rw [e0]
    by_cases h0 : v = 0
    · rw [decide_eq_true h0]
      refine iteT ?_
      have e : Kh309.doing a (.drop v) = (a, Kh309.say (-22)) := by
        subst h0
        simp only [Kh309.doing, hv, A.wf.parent_root]
        rfl
      exact k.use e t H A (Kept.refl (Same.refl H))
    · rw [decide_eq_false h0]
      refine iteF ?_
      obtain ⟨q, hq⟩ := A.wf.par v hv h0
      have hqt := WF.pthere hq
      have hpar : pV a v = .int (q : Int) := by rw [pV, A.wf.parent_of hq]
      have hv128 := A.wf.lt hv
      have e : Kh309.doing a (.drop v) = (dropped a v q, Kh309.say (a.below v).length) := by
        simp only [Kh309.doing, hv, A.wf.parent_of hq]
        rfl
      refine ⟨_, rfl, p, C, t.dx, _, _, rfl, A.ob, T.cl, T.nP, tf_p _ _ _ _, _, rfl, t.dp, _, rfl, DGet.of A.hp (A.parOf hv), ?_⟩
      rw [hpar]
      refine ⟨_, rfl, p, t.dx, _, rfl, A.ob, no_sw _ _ _ _, _, rfl, p, t, a, v, rfl, A, hv, _, rfl, ?_⟩
      -- the rest, wherever one stands then
      have rest : ∀ H1, TreeAt C H1 p t { a with stands := (dropped a v q).stands } → (∀ b, b ≠ p → H1 b = H b) →
          (tSeq (tDrop (tBM K "list" rRemove (tDGet (tFld K (tVar 0) "rows") (tVar 2)) (tCons (tVar 1) tNil)))
          (tSeq (tAsg (tMeth C "all_within" (spAllW C) [] E0 (tVar 0) (tCons (tVar 1) tNil)) (gName 3))
          (tSeq (tFor (iList K (tVar 3)) (gName 4) (tDrop (tMeth C "forget" (spForget C) [] E0 (tVar 0) (tCons (tVar 4) tNil))))
          (tRet (tLen K (tVar 3)))))) { nx := nx, rt := Q } [some (.ref p), some (.int (v : Int)), some (.int (q : Int)), none, none] H1 := by
        intro H1 B keep1
        obtain ⟨j, hj⟩ : ∃ j : Nat, (a.children q)[j]? = some v := List.mem_iff_getElem?.mp hq
        have hrq : H1 (t.ra q) = some (.lst (nVs (a.children q))) := B.lst q hqt
        refine ⟨_, rfl, p, C, t.dx, _, _, rfl, B.ob, T.cl, T.nR, tf_r _ _ _ _, _, rfl, t.dr, _, rfl, DGet.of B.hr (A.rowOf hqt), .inl ⟨rfl, _, SqL.of hrq⟩, _, rfl, t.ra q, _, _, j, .int (v : Int), rfl, rfl, hrq, rfl, flat_ints _, by rw [ints_get, hj]; rfl, by show ((v : Int) == (v : Int)) = true; exact beq_self_eq_true _, fun m z' hm hz => ?_, ?_⟩
        · obtain ⟨w, hw, rfl⟩ := ints_at hz
          show ((w : Int) == (v : Int)) = false
          refine beq_eq_false_iff_ne.mpr fun ewv => ?_
          have : w = v := by omega
          subst this
          have := nd_at (A.wf.nd q) hw hj
          omega
        rw [ints_erase, erase_filter _ _ _ (A.wf.nd q) hj]
        have pq : p ≠ t.ra q := ne_of B.ob hrq (by intro z; cases z)
        have qp : t.dp ≠ t.ra q := ne_of B.hp hrq (by intro z; cases z)
        have qr : t.dr ≠ t.ra q := ne_of B.hr hrq (by intro z; cases z)
        have qs : t.ds ≠ t.ra q := ne_of B.hs hrq (by intro z; cases z)
        have ob2 : (upd H1 (t.ra q) (.lst (nVs ((a.children q).filter (· != v))))) p = _ := (upd_ne pq).trans B.ob
        have noq : ∀ x, Desc a.children v x → x ≠ q := fun x hx e => by
          obtain ⟨d, hd⟩ := A.wf.deep
          have h1 := hd q v hq
          rcases A.wf.forest.anti hd hx with h2 | h2
          · rw [e] at h2; rw [h2] at h1; omega
          · rw [e] at h2; omega
        have dth : ∀ x, Desc a.children v x → a.there x = true := fun x hx => desc_there A.wf hv hx
        refine ⟨_, rfl, p, t.dx, _, rfl, ob2, no_aw _ _ _ _, _, rfl, p, a, v, rfl, A.wf, hv, ⟨t.dx, t.dp, t.dr, t.ds, _, t.kr, t.ra, ob2, (upd_ne qr).trans B.hr, fun x hx => ⟨A.rowOf (dth x hx), ?_⟩⟩, fun l gone H3 s3 fl hl pm => ?_⟩
        · rw [upd_ne (fun z => noq x hx (A.inj _ _ (dth x hx) hqt z))]
          exact B.lst x (dth x hx)
        have gm : ∀ x, x ∈ gone ↔ Desc a.children v x := fun x => by rw [pm.mem_iff, ← A.wf.below_iff hv128, List.contains_iff_mem]
        have gnd : gone.Nodup := pm.nodup_iff.mpr (below_nodup A.wf v)
        have glen : gone.length = (a.below v).length := pm.length_eq
        have gle : gone.length ≤ 128 := by rw [glen]; exact below_le A.wf hv128
        refine ⟨_, rfl, l, rfl, ⟨_, SqL.of hl⟩, ?_⟩
        have D0 : DictsAt C H3 p t.dx t.dp t.dr t.ds (dropped a v q).stands t.kp t.kr t.ks := ⟨s3 _ _ ob2, s3 _ _ ((upd_ne qp).trans B.hp), s3 _ _ ((upd_ne qr).trans B.hr), s3 _ _ ((upd_ne qs).trans B.hs), B.n1, B.n2, B.n3⟩
        have nl1 : l ≠ t.dp := ne_of hl D0.hp (by intro z; cases z)
        have nl2 : l ≠ t.dr := ne_of hl D0.hr (by intro z; cases z)
        have nl3 : l ≠ t.ds := ne_of hl D0.hs (by intro z; cases z)
        have cut : ∀ (f : Nat → Option V) (i x : Nat) (kv : List (Key × V)), gone[i]? = some x → Tab kv (fun m => if m ∈ gone.take i then none else f m) → Tab (dropK kv (kN x)) (fun m => if m ∈ gone.take (i + 1) then none else f m) := by
          intro f i x kv hi tb
          refine (tb.drop x).congr fun m => ?_
          rw [take_snoc hi]
          by_cases h1 : m = x
          · rw [if_pos h1, if_pos (by rw [h1]; simp)]
          · rw [if_neg h1]
            by_cases h2 : m ∈ gone.take i
            · rw [if_pos h2, if_pos (List.mem_append.mpr (.inl h2))]
            · rw [if_neg h2, if_neg (fun h => (List.mem_append.mp h).elim h2 fun h => h1 (List.mem_singleton.mp h))]
        refine for_list (K := K) (a := l) (xs := nVs gone) (fun i σ H4 => ∃ (kp kr ks : List (Key × V)) (v4 : Option V), σ = [some (.ref p), some (.int (v : Int)), some (.int (q : Int)), some (.ref l), v4] ∧
            DictsAt C H4 p t.dx t.dp t.dr t.ds (dropped a v q).stands kp kr ks ∧ Tab kp (fun m => if m ∈ gone.take i then none else fP a m) ∧ Tab kr (fun m => if m ∈ gone.take i then none else fR a t.ra m) ∧ Tab ks (fun m => if m ∈ gone.take i then none else fS a m) ∧
            ∀ b, b ≠ t.dp → b ≠ t.dr → b ≠ t.ds → H4 b = H3 b)
          ⟨t.kp, t.kr, t.ks, none, rfl, D0, A.tp.congr fun m => by simp, A.tr.congr fun m => by simp, A.ts.congr fun m => by simp, fun _ _ _ _ => rfl⟩ (fun i σ H4 _ ⟨_, _, _, _, _, _, _, _, _, hb⟩ => SqL.of ((hb l nl1 nl2 nl3).trans hl)) ?_ ?_
        · rintro i y σ H4 hi ⟨kp, kr, ks, v4, rfl, D4, tp, tr, ts, hb⟩
          obtain ⟨x, hx, rfl⟩ := ints_at hi
          have hxg : x ∉ gone.take i := fun hm => by
            obtain ⟨j', hj'⟩ := List.mem_iff_getElem?.mp hm
            have hl' := (List.getElem?_eq_some_iff.mp hj').1
            rw [List.length_take] at hl'
            rw [List.getElem?_take, if_pos (by omega)] at hj'
            have := nd_at gnd hj' hx
            omega
          have hxt := dth x ((gm x).mp (List.mem_of_getElem? hx))
          refine ⟨_, rfl, p, t.dx, _, rfl, D4.ob, no_fg _ _ _ _, _, rfl, p, t.dx, t.dp, t.dr, t.ds, _, kp, kr, ks, x, pV a x, .ref (t.ra x), rfl, D4, ?_, ?_, fun H5 D5 hb5 => ?_⟩
          · rw [tp.val, if_neg hxg, fP, if_pos hxt]
          · rw [tr.val, if_neg hxg, fR, if_pos hxt]
          · exact ⟨_, _, _, _, rfl, D5, cut _ _ _ _ hx tp, cut _ _ _ _ hx tr, cut _ _ _ _ hx ts, fun b b1 b2 b3 => (hb5 b b1 b2 b3).trans (hb b b1 b2 b3)⟩
        · rintro σ H4 ⟨kp, kr, ks, v4, rfl, D4, tp, tr, ts, hb⟩
          rw [ints_len, List.take_length] at tp tr ts
          have hl4 : H4 l = some (.lst (nVs gone)) := (hb l nl1 nl2 nl3).trans hl
          refine ⟨_, rfl, l, _, rfl, .inl (SqL.of hl4), ?_⟩
          rw [ints_len, glen]
          have th := dropped_there A.wf (v := v) hqt
          have ct : ∀ x, (a.below v).contains x = true ↔ x ∈ gone := fun x => by rw [A.wf.below_iff hv128, gm]
          have alive : ∀ x, (dropped a v q).there x = true → x ∉ gone ∧ a.there x = true := fun x hx => by
            rw [th] at hx
            split at hx
            · cases hx
            · rename_i hc
              exact ⟨fun m => hc ((ct x).mpr m), hx⟩
          have wf' := dropped_wf A.wf hq
          have hb' : ∀ b o, H3 b = some o → b ≠ t.dp → b ≠ t.dr → b ≠ t.ds → H4 b = some o := fun b o eb b1 b2 b3 => (hb b b1 b2 b3).trans eb
          refine k.use e ⟨t.dx, t.dp, t.dr, t.ds, kp, kr, ks, t.ra⟩ H4 ?_ ?_
          · refine ⟨wf', D4.ob, D4.hp, D4.hr, D4.hs, D4.n1, D4.n2, D4.n3, tp.congr fun m => ?_, tr.congr fun m => ?_, ts.congr fun m => ?_, fun m hm => ?_, fun x y hx hy hxy => A.inj _ _ (alive x hx).2 (alive y hy).2 hxy⟩
            · unfold fP
              rw [th]
              by_cases h : m ∈ gone
              · rw [if_pos h, if_pos ((ct m).mpr h)]; rfl
              · have h' : ¬ (a.below v).contains m = true := fun z => h ((ct m).mp z)
                rw [if_neg h, if_neg h']
                by_cases h2 : a.there m = true
                · rw [if_pos h2, if_pos h2, pV, pV, dropped_parent A.wf hq m (by rw [th, if_neg h']; exact h2)]
                · rw [if_neg h2, if_neg h2]
            · unfold fR
              rw [th]
              by_cases h : m ∈ gone
              · rw [if_pos h, if_pos ((ct m).mpr h)]; rfl
              · have h' : ¬ (a.below v).contains m = true := fun z => h ((ct m).mp z)
                rw [if_neg h, if_neg h']
            · unfold fS
              rw [dropped_shut]
              by_cases h : m ∈ gone
              · rw [if_pos h, (ct m).mpr h, Bool.not_true, Bool.and_false]; rfl
              · have h' : (a.below v).contains m = false := by
                  cases z : (a.below v).contains m with
                  | false => rfl
                  | true => exact absurd ((ct m).mp z) h
                rw [if_neg h, h', Bool.not_false, Bool.and_true]
            · obtain ⟨h1, h2⟩ := alive m hm
              have h' : ¬ (a.below v).contains m = true := fun z => h1 ((ct m).mp z)
              rw [dropped_kids A.wf hqt, if_neg h']
              have m1 : t.ra m ≠ t.dp := ne_of (A.lst m h2) A.hp (by intro z; cases z)
              have m2 : t.ra m ≠ t.dr := ne_of (A.lst m h2) A.hr (by intro z; cases z)
              have m3 : t.ra m ≠ t.ds := ne_of (A.lst m h2) A.hs (by intro z; cases z)
              refine hb' _ _ (s3 _ _ ?_) m1 m2 m3
              by_cases hmq : m = q
              · subst hmq
                rw [if_pos rfl, upd_same]
              · rw [if_neg hmq, upd_ne (fun z => hmq (A.inj _ _ h2 hqt z))]
                exact B.lst m h2
          · intro b o eb hbo
            have b1 : b ≠ p := fun z => hbo (.inl z)
            have b2 : b ≠ t.dp := fun z => hbo (.inr (.inl z))
            have b3 : b ≠ t.dr := fun z => hbo (.inr (.inr (.inl z)))
            have b4 : b ≠ t.ds := fun z => hbo (.inr (.inr (.inr (.inl z))))
            have b5 : ∀ x, a.there x = true → b ≠ t.ra x := fun x hx z => hbo (.inr (.inr (.inr (.inr ⟨x, hx, z⟩))))
            refine ⟨hb' b o (s3 _ _ ?_) b2 b3 b4, ?_⟩
            · rw [upd_ne (b5 q hqt), keep1 b b1]
              exact eb
            · rintro (h | h | h | h | ⟨x, hx, h⟩)
              · exact b1 h
              · exact b2 h
              · exact b3 h
              · exact b4 h
              · exact b5 x (alive x hx).2 h
      have est : (dropped a v q).stands = if (a.below v).contains a.stands = true then q else a.stands := rfl
      cases hc : (a.below v).contains a.stands with
      | true =>
        refine iteT ?_
        have e1 : (dropped a v q).stands = q := by rw [est, hc]; rfl
        refine ⟨_, rfl, _, rfl, p, C, t.dx, _, rfl, A.ob, T.cl, T.nT, tf_len _ _ _ _, ?_⟩
        refine rest _ ?_ fun b hb => upd_ne hb
        rw [e1]
        have := A.stand hqt
        rw [← tf_putT t.dp t.dr t.ds a.stands q] at this
        exact this
      | false =>
        refine iteF ?_
        have e1 : (dropped a v q).stands = a.stands := by rw [est, hc]; rfl
        refine rest H ?_ fun b hb => rfl
        rw [e1]
        exact A
end TW
namespace TW
open PySem L2 WT
open Kh309 (Abs)

/-! ### fold -/
abbrev oGt : R2 := rI0 fun i j => .bl (decide (j < i))
def xFold (K : PySem.W.Frag) (C : Addr) : TS := tSeq (tIfS (tB (tDNotIn (tVar 1) (tFld K (tVar 0) "parents"))) (tRet (tC (.int (-2)))) tNext)
  (tSeq (tIfS (tTest (tOp oGt (tVar 2) (tC (.int 1)))) (tRet (tC (.int (-22)))) tNext)
  (tSeq (tIfS (tTest (tOp rEq (tVar 2) (tC (.int 0)))) (tSeq (tDrop (tDPop2 (tFld K (tVar 0) "shut") (tVar 1) (tC .non))) (tRet (tC (.int 0)))) tNext)
  (tSeq (sDPut (tFld K (tVar 0) "shut") (tVar 1) (tC (.bl true)))
  (tSeq (tIfS (tB (tMeth C "stands_within" (spWithin C) [] E0 (tVar 0) (tCons (tVar 1) tNil))) (sFld K (tVar 0) (tVar 1) "standing") tNext)
  (tRet (tC (.int 0)))))))
theorem kids_congr {a b : Abs} (e : b.rows = a.rows) (v : Nat) : b.children v = a.children v := by rw [Abs.children, Abs.children, Abs.row, Abs.row, e]
theorem there_congr {a b : Abs} (e : b.rows = a.rows) (v : Nat) : b.there v = a.there v := by rw [Abs.there, Abs.there, Abs.row, Abs.row, e]
theorem parent_congr {a b : Abs} (e : b.rows = a.rows) (v : Nat) : b.parent v = a.parent v := by
  rw [Abs.parent, Abs.parent]
  congr 1
  funext p
  rw [kids_congr e]
theorem below_congr {a b : Abs} (e : b.rows = a.rows) (v : Nat) : b.below v = a.below v := by
  have h : b.children = a.children := funext fun v => kids_congr e v
  rw [below_eq, below_eq, h]
/-- the same rows, other things shut -/
theorem TreeAt.shutAs {C : Addr} {H : Hp} {p : Addr} {t : Tr} {a b : Abs} (A : TreeAt C H p t a) (er : b.rows = a.rows) (es : b.stands = a.stands) (hsh : ∀ v, b.isShut v = true → a.there v = true) {ks : List (Key × V)} (ts : Tab ks (fS b)) :
    TreeAt C (upd H t.ds (.dK ks)) p { t with ks := ks } b := by
  have ps : p ≠ t.ds := ne_of A.ob A.hs (by intro z; cases z)
  have th := there_congr er
  refine ⟨A.wf.rest er hsh (by rw [es]; exact A.wf.stands), by rw [upd_ne ps, es]; exact A.ob, (upd_ne A.n2).trans A.hp, (upd_ne A.n3).trans A.hr, upd_same, A.n1, A.n2, A.n3, A.tp.congr fun n => ?_, A.tr.congr fun n => ?_, ts, fun n hn => ?_, fun m n hm hn => ?_⟩
  · unfold fP; rw [th, pV, pV, parent_congr er]
  · unfold fR; rw [th]
  · rw [th] at hn
    rw [kids_congr er]
    exact (upd_ne (ne_of (A.lst n hn) A.hs (by intro z; cases z))).trans (A.lst n hn)
  · rw [th] at hm hn
    exact A.inj m n hm hn
theorem kept_own {p : Addr} {t : Tr} {a b : Abs} {H H' : Hp} {ks : List (Key × V)} (er : b.rows = a.rows) (h : ∀ c, c ≠ p → c ≠ t.ds → H' c = H c) : Kept p t a H { t with ks := ks } b H' := by
  intro c o ec hc
  have c1 : c ≠ p := fun z => hc (.inl z)
  have c4 : c ≠ t.ds := fun z => hc (.inr (.inr (.inr (.inl z))))
  refine ⟨(h c c1 c4).trans ec, ?_⟩
  rintro (z | z | z | z | ⟨x, hx, z⟩)
  · exact hc (.inl z)
  · exact hc (.inr (.inl z))
  · exact hc (.inr (.inr (.inl z)))
  · exact hc (.inr (.inr (.inr (.inl z))))
  · exact hc (.inr (.inr (.inr (.inr ⟨x, (there_congr er x).symm.trans hx, z⟩))))
theorem shut_on (a : Abs) (v n st : Nat) : Abs.isShut { a with shut := v :: a.shut.filter (· != v), stands := st } n = if n = v then true else a.isShut n := by
  rw [Abs.isShut, Abs.isShut]
  by_cases h : n = v
  · rw [if_pos h, h]; simp
  · rw [if_neg h, Bool.eq_iff_iff, List.contains_iff_mem, List.contains_iff_mem, List.mem_cons, List.mem_filter]
    constructor
    · rintro (e | e)
      · exact absurd e h
      · exact e.1
    · intro e
      exact .inr ⟨e, by simpa using h⟩
theorem shut_off (a : Abs) (v n st : Nat) : Abs.isShut { a with shut := a.shut.filter (· != v), stands := st } n = if n = v then false else a.isShut n := by
  rw [Abs.isShut, Abs.isShut]
  by_cases h : n = v
  · rw [if_pos h, h]; simp
  · rw [if_neg h, Bool.eq_iff_iff, List.contains_iff_mem, List.contains_iff_mem, List.mem_filter]
    exact ⟨fun e => e.1, fun e => ⟨e, by simpa using h⟩⟩
theorem rd_fold {K : PySem.W.Frag} {C D : Addr} (T : Txt K C D) {H : Hp} {nx : St → Hp → Prop} {Q : VK} {p : Addr} {t : Tr} {a : Abs} (A : TreeAt C H p t a) (v s : Nat) (k : Done C p t a H (.fold v s) Q) :
    xFold K C { nx := nx, rt := Q } [some (.ref p), some (.int (v : Int)), some (.int (s : Int))] H := by
  refine ⟨_, rfl, _, rfl, p, C, t.dx, _, _, rfl, A.ob, T.cl, T.nP, tf_p _ _ _ _, t.dp, _, rfl, DGet.node v A.hp, _, rfl, ?_⟩
  rw [A.isThere]
  cases hv : a.there v with
  | false =>
    refine iteT ?_
    have e : Kh309.doing a (.fold v s) = (a, Kh309.say (-2)) := by simp only [Kh309.doing, hv, if_true]
    exact k.use e t H A (Kept.refl (Same.refl H))
  | true =>
    refine iteF ?_
    have hv128 := A.wf.lt hv
    refine ⟨_, rfl, _, _, rfl, rfl, _, rfl, ?_⟩
    refine ite2 (fun hs => ?_) (fun hs => ?_)
    · have hs : 1 < s := by have := of_decide_eq_true hs; omega
      have e : Kh309.doing a (.fold v s) = (a, Kh309.say (-22)) := by
        simp only [Kh309.doing, hv, if_pos hs]
        rfl
      exact k.use e t H A (Kept.refl (Same.refl H))
    · have hs : ¬ 1 < s := fun z => hs (decide_eq_true (by omega))
      refine ⟨_, rfl, rfl, _, rfl, ?_⟩
      have e0 : decide (V.int (s : Int) = V.int 0) = decide (s = 0) := dec_nat s 0
      rw [e0]
      have ps : p ≠ t.ds := ne_of A.ob A.hs (by intro z; cases z)
      by_cases h0 : s = 0
      · rw [decide_eq_true h0]
        refine iteT ?_
        subst h0
        have e : Kh309.doing a (.fold v 0) = ({ a with shut := a.shut.filter (· != v), stands := a.stands }, Kh309.say 0) := by
          simp only [Kh309.doing, hv]
          rfl
        have k := k.use e
        have sf := shut_off a v (st := a.stands)
        have B : ∀ ks, Tab ks (fun m => if m = v then none else fS a m) → TreeAt C (upd H t.ds (.dK ks)) p { t with ks := ks } { a with shut := a.shut.filter (· != v), stands := a.stands } := fun ks tb =>
          A.shutAs (b := { a with shut := a.shut.filter (· != v), stands := a.stands }) rfl rfl (fun x hx => A.wf.shut x (by
            rw [sf] at hx
            split at hx
            · cases hx
            · exact hx)) (tb.congr fun m => by
            unfold fS
            rw [sf]
            by_cases h : m = v
            · rw [if_pos h, if_pos h]; rfl
            · rw [if_neg h, if_neg h])
        refine ⟨_, rfl, p, C, t.dx, _, _, rfl, A.ob, T.cl, T.nS, tf_s _ _ _ _, t.ds, rfl, .inl ⟨_, .inl A.hs⟩, _, rfl, t.ks, kN v, A.hs, rfl, fun z hz => ?_, fun hz => ?_⟩
        · exact k _ _ (B _ (A.ts.drop v)) (kept_own (b := { a with shut := a.shut.filter (· != v), stands := a.stands }) rfl fun c _ h => upd_ne h)
        · have same : upd H t.ds (.dK t.ks) = H := by
            funext b
            by_cases hb : b = t.ds
            · subst hb; rw [upd_same, A.hs]
            · rw [upd_ne hb]
          have := B t.ks (A.ts.congr fun m => by
            by_cases h : m = v
            · subst h
              rw [if_pos rfl, ← A.ts.val, hz]
            · rw [if_neg h])
          rw [same] at this
          exact k _ _ this (kept_own (b := { a with shut := a.shut.filter (· != v), stands := a.stands }) rfl fun c _ _ => rfl)
      · rw [decide_eq_false h0]
        refine iteF ?_
        have h1 : s = 1 := by omega
        subst h1
        refine ⟨_, rfl, p, C, t.dx, _, _, rfl, A.ob, T.cl, T.nS, tf_s _ _ _ _, _, rfl, t.ds, _, rfl, DPut.k (k := kN v) A.hs A.ts.small, ?_⟩
        have so := shut_on a v (st := a.stands)
        have B : TreeAt C (upd H t.ds (.dK (putK t.ks (kN v) (.bl true)))) p { t with ks := putK t.ks (kN v) (.bl true) } { a with shut := v :: a.shut.filter (· != v), stands := a.stands } :=
          A.shutAs (b := { a with shut := v :: a.shut.filter (· != v), stands := a.stands }) rfl rfl (fun x hx => by
            rw [so] at hx
            split at hx
            · rename_i h; rw [h]; exact hv
            · exact A.wf.shut x hx) ((A.ts.put hv128 _).congr fun m => by
            unfold fS
            rw [so]
            by_cases h : m = v
            · rw [if_pos h, if_pos h]; rfl
            · rw [if_neg h, if_neg h])
        have bc : ∀ b : Abs, b.rows = a.rows → b.below v = a.below v := fun b e => below_congr e v
        refine ⟨_, rfl, p, t.dx, _, rfl, B.ob, no_sw _ _ _ _, _, rfl, p, _, _, v, rfl, B, hv, _, rfl, ?_⟩
        rw [bc { a with shut := v :: a.shut.filter (· != v), stands := a.stands } rfl]
        have e : Kh309.doing a (.fold v 1) = ({ a with shut := v :: a.shut.filter (· != v), stands := if (a.below v).contains a.stands = true then v else a.stands }, Kh309.say 0) := by
          simp only [Kh309.doing, hv]
          simp
        have k := k.use e
        cases hc : (a.below v).contains a.stands with
        | true =>
          show if true = true then _ else _
          refine iteT ?_
          rw [hc, if_pos rfl] at k
          refine ⟨_, rfl, _, rfl, p, C, t.dx, _, rfl, B.ob, T.cl, T.nT, tf_len _ _ _ _, ?_⟩
          have B2 := B.stand (s := v) hv
          rw [← tf_putT t.dp t.dr t.ds a.stands v] at B2
          refine k _ _ B2 (kept_own (b := { a with shut := v :: a.shut.filter (· != v), stands := v }) rfl fun c h1 h2 => (upd_ne h1).trans (upd_ne h2))
        | false =>
          show if false = true then _ else _
          refine iteF ?_
          rw [hc, if_neg Bool.false_ne_true] at k
          exact k _ _ B (kept_own (b := { a with shut := v :: a.shut.filter (· != v), stands := a.stands }) rfl fun c _ h => upd_ne h)

/-! ### row_shown -/
def xRowShown (K : PySem.W.Frag) : TS := tRet (tIf (tB (tDIn (tVar 1) (tFld K (tVar 0) "shut"))) (tLst tNil) (tDGet (tFld K (tVar 0) "rows") (tVar 1)))
theorem rd_rowShown {K : PySem.W.Frag} {C D : Addr} (T : Txt K C D) {H : Hp} {nx : St → Hp → Prop} {Q : VK} {p : Addr} {t : Tr} {a : Abs} (A : TreeAt C H p t a) {n : Nat} (hn : a.there n = true)
    (k : ∀ r H', Same H H' → H' r = some (.lst (nVs (skids a n))) → Q (.ref r) H') : xRowShown K { nx := nx, rt := Q } [some (.ref p), some (.int (n : Int))] H := by
  refine ⟨_, rfl, _, rfl, p, C, t.dx, _, _, rfl, A.ob, T.cl, T.nS, tf_s _ _ _ _, t.ds, _, rfl, DGet.node n A.hs, _, rfl, ?_⟩
  rw [A.isShut]
  cases hs : a.isShut n with
  | true =>
    refine iteT ?_
    refine ⟨small (by show 0 ≤ 100000; omega), fun r hr => k r _ (same_new hr) ?_⟩
    rw [upd_same, skids, hs]
    rfl
  | false =>
    refine iteF ?_
    refine ⟨_, rfl, p, C, t.dx, _, _, rfl, A.ob, T.cl, T.nR, tf_r _ _ _ _, _, rfl, t.dr, _, rfl, DGet.of A.hr (A.rowOf hn), k _ _ (Same.refl H) ?_⟩
    rw [A.lst n hn, skids, hs]
    rfl
def spRow (C : Addr) : Sp := fun vs H Q _ => ∃ (p : Addr) (t : Tr) (a : Abs) (n : Nat), vs = [.ref p, .int (n : Int)] ∧ TreeAt C H p t a ∧ a.there n = true ∧ ∀ r H', Same H H' → H' r = some (.lst (nVs (skids a n))) → Q (.ref r) H'
theorem no_rs (dp dr ds : Addr) (st : Nat) : (tf dp dr ds st).lookup ("row_shown" : Str) = none := no_m (by decide +kernel) _ _ _ _

/-! ### all_shown -/
def tListRev (K : PySem.W.Frag) (te : TE) : TE := fun σ H Q => te σ H fun x H1 => ∃ a xs, x = .ref a ∧ SqL K H1 a xs ∧ ∀ l, H1 l = none → Q (.ref l) (upd H1 l (.lst xs.reverse))
def xAllShown (K : PySem.W.Frag) (C : Addr) : TS := tSeq (tAsg (tLst tNil) (gName 1)) (tSeq (tAsg (tLst (tCons (tC (.int 0)) tNil)) (gName 2))
  (tSeq (tWhile (tTru K (tVar 2)) (tSeq (tAsg (tBM0 K "list" rPop (tVar 2)) (gName 3)) (tSeq (tDrop (tBM K "list" rAppend (tVar 1) (tCons (tVar 3) tNil)))
    (tDrop (tBM K "list" rExtend (tVar 2) (tCons (tListRev K (tMeth C "row_shown" (spRow C) [] E0 (tVar 0) (tCons (tVar 3) tNil))) tNil))))))
  (tRet (tVar 1))))
theorem ints_rev (l : List Nat) : (nVs l).reverse = nVs l.reverse := by unfold nVs; rw [List.map_reverse]
theorem rd_allShown {K : PySem.W.Frag} {C D : Addr} (T : Txt K C D) {H : Hp} {nx : St → Hp → Prop} {Q : VK} {p : Addr} {t : Tr} {a : Abs} (A : TreeAt C H p t a)
    (k : ∀ l H', Same H H' → H l = none → H' l = some (.lst (nVs (sh a).flat)) → Q (.ref l) H') : xAllShown K C { nx := nx, rt := Q } [some (.ref p), none, none, none] H := by
  have F := A.wf.sforest
  have hsz : (full (skids a) 0).size ≤ 128 := F.size_le (by omega) 128
  refine ⟨small (by show 0 ≤ 100000; omega), fun lf hlf => ⟨small (by show 1 ≤ 100000; omega), fun lw hlw => ?_⟩⟩
  have nfw : lf ≠ lw := ne_of_none upd_same hlw
  have fw : H lw = none := (same_new hlf).free hlw
  refine ⟨fun m σ H' => ∃ (found ws : List Nat) (v4 : Option V), m = (walkP (skids a) ws).length ∧ σ = [some (.ref p), some (.ref lf), some (.ref lw), v4] ∧ Same H H' ∧ H' lf = some (.lst (nVs found)) ∧ H' lw = some (.lst (nVs ws)) ∧ PreWalk (skids a) 0 found ws,
    ⟨_, [], [0], none, rfl, rfl, (same_new hlf).trans (same_new hlw), by rw [upd_ne nfw, upd_same]; rfl, by rw [upd_same]; rfl, PreWalk.start 0⟩, ?_⟩
  rintro m σ H' ⟨found, ws, v4, rfl, rfl, s, hf, hw, W⟩
  refine ⟨_, rfl, _, .inl ⟨_, SqL.of hw, rfl⟩, ?_⟩
  rcases last_or ws with rfl | ⟨r, x, rfl⟩
  · refine iteF ?_
    refine ⟨_, rfl, k lf H' s hlf ?_⟩
    rw [hf, W.end_]
    rfl
  · have hne : (!(nVs (r ++ [x])).isEmpty) = true := by rw [ints_append]; cases nVs r <;> rfl
    rw [hne]
    refine iteT ⟨fun σ' H' => ∃ m', m' < (walkP (skids a) (r ++ [x])).length ∧ _, fun _ _ h => h, ?_⟩
    have hxd := W.mem F (x := x) (by simp)
    have hxt : a.there x = true := desc_there A.wf A.wf.root (sdesc hxd)
    have hx128 := A.wf.lt hxt
    have hlen := W.len
    have hwl := walkP_len (skids a) (r ++ [x])
    rw [List.length_append] at hwl
    refine ⟨_, rfl, .inl ⟨rfl, _, SqL.of hw⟩, lw, _, _, rfl, rfl, hw, ints_last r x, ?_⟩
    rw [ints_init]
    have hf1 : (upd H' lw (.lst (nVs r))) lf = some (.lst (nVs found)) := by rw [upd_ne nfw]; exact hf
    refine ⟨_, rfl, .inl ⟨rfl, _, SqL.of hf1⟩, _, rfl, lf, _, _, rfl, rfl, hf1, ?_, ?_⟩
    · rw [ints_len]
      exact small' (by omega)
    rw [ints_snoc]
    have s1 : Same H (upd (upd H' lw (.lst (nVs r))) lf (.lst (nVs (found ++ [x])))) := Same.own hlf (Same.own fw s)
    have hw1 : (upd (upd H' lw (.lst (nVs r))) lf (.lst (nVs (found ++ [x])))) lw = some (.lst (nVs r)) := by rw [upd_ne nfw.symm, upd_same]
    have A1 := A.same s1
    refine ⟨_, rfl, .inl ⟨rfl, _, SqL.of hw1⟩, _, rfl, p, t.dx, _, rfl, A1.ob, no_rs _ _ _ _, _, rfl, p, t, a, x, rfl, A1, hxt, fun rr H2 s2 hr2 => ?_⟩
    refine ⟨rr, _, rfl, SqL.of hr2, fun lv hlv => ?_⟩
    have hw2 := s2 _ _ hw1
    refine ⟨lw, lv, _, _, rfl, rfl, (upd_ne (ne_of_none hw2 hlv)).trans hw2, upd_same, ?_, ?_⟩
    · rw [List.length_reverse, ints_len, ints_len]
      have h1 := pigeon 128 _ (F.nd x) fun c hc => F.lt x c hc
      exact small (by omega)
    · rw [ints_rev, ← ints_append]
      have hf2 : (upd H2 lv (.lst (nVs (skids a x).reverse))) lf = some (.lst (nVs (found ++ [x]))) := by
        have := s2 _ _ (show (upd (upd H' lw (.lst (nVs r))) lf (.lst (nVs (found ++ [x])))) lf = _ from upd_same)
        exact (upd_ne (ne_of_none this hlv)).trans this
      refine ⟨(walkP (skids a) (r ++ (skids a x).reverse)).length, by rw [walkP_snoc F r hx128, List.length_cons]; omega, found ++ [x], r ++ (skids a x).reverse, _, rfl, rfl, Same.own fw ((s1.trans s2).trans (same_new hlv)), ?_, upd_same, W.turn F hx128⟩
      rw [upd_ne nfw]
      exact hf2
def spAllShown (C : Addr) : Sp := fun vs H Q _ => ∃ (p : Addr) (t : Tr) (a : Abs), vs = [.ref p] ∧ TreeAt C H p t a ∧ ∀ l H', Same H H' → H l = none → H' l = some (.lst (nVs (sh a).flat)) → Q (.ref l) H'
theorem no_as (dp dr ds : Addr) (st : Nat) : (tf dp dr ds st).lookup ("all_shown" : Str) = none := no_m (by decide +kernel) _ _ _ _

/-! ### drawn_nodes -/
def spDrawn : Sp := fun vs H Q _ => ∃ (ln d : Addr) (kids : Kids), vs = [.ref ln, .ref d] ∧ Forest kids ∧ (∀ p, 0 ∉ kids p) ∧ H ln = some (.lst (nVs (full kids 0).flat)) ∧ RowsAt H d (full kids 0).flat kids ∧
  ∀ (sp : Addr) kvs f H', Same H H' → H' sp = some (.dK kvs) → Tab kvs f → (∀ n ∈ (full kids 0).flat, SpotAt H' f (shows 0 (edge (full kids 0)) (full kids 0)) n) → Q (.ref sp) H'
def xDrawnNodes (K : PySem.W.Frag) (C : Addr) : TS := tSeq (tAsg (tMeth C "all_shown" (spAllShown C) [] E0 (tVar 0) tNil) (gName 1)) (tSeq (tAsg tDNewK (gName 2))
  (tSeq (tFor (iList K (tVar 1)) (gName 3) (sDPut (tVar 2) (tVar 3) (tMeth C "row_shown" (spRow C) [] E0 (tVar 0) (tCons (tVar 3) tNil))))
  (tSeq (tAsg (tCall spDrawn [] E0 (tCons (tVar 1) (tCons (tVar 2) tNil))) (gName 4))
  (tRet (tLc (iList K (tVar 1)) (gName 3) tYes (tTup (tCons (tVar 3) (tCons (tOp (rIxT K) (tDGet (tVar 4) (tVar 3)) (tC (.int 0))) (tCons (tOp (rIxT K) (tDGet (tVar 4) (tVar 3)) (tC (.int 1))) tNil)))) [3])))))
def sT (s : Kh309.Shown) : HO := .tup [.int (s.node : Int), .int (s.layer : Int), .int s.place]
/-- a list of what is shown -/
structure ShownAt (H : Hp) (l : Addr) (S : List Kh309.Shown) : Prop where
  ex : ∃ us, H l = some (.lst (refs us)) ∧ us.length = S.length ∧ ∀ (i : Nat) t, us[i]? = some t → ∃ s, S[i]? = some s ∧ H t = some (sT s)
theorem rd_drawnNodes {K : PySem.W.Frag} {C D : Addr} (T : Txt K C D) {H : Hp} {nx : St → Hp → Prop} {Q : VK} {p : Addr} {t : Tr} {a : Abs} (A : TreeAt C H p t a)
    (k : ∀ l H', Same H H' → ShownAt H' l a.show_ → Q (.ref l) H') : xDrawnNodes K C { nx := nx, rt := Q } [some (.ref p), none, none, none, none] H := by
  have F := A.wf.sforest
  have hsz : (full (skids a) 0).size ≤ 128 := F.size_le (by omega) 128
  have hlen : (full (skids a) 0).flat.length ≤ 128 := by rw [flat_length]; exact hsz
  have hr : ∀ q, 0 ∉ skids a q := fun q h => (A.wf.kid q 0 (skids_sub h)).2 rfl
  have hth : ∀ n ∈ (full (skids a) 0).flat, a.there n = true := fun n hn => desc_there A.wf A.wf.root (sdesc (F.mem_desc _ _ _ hn))
  refine ⟨_, rfl, p, t.dx, _, rfl, A.ob, no_as _ _ _ _, p, t, a, rfl, A, fun ln H1 s1 fln hln => ?_⟩
  intro d hd
  have s2 : Same H1 (upd H1 d (.dK [])) := same_new hd
  refine ⟨_, rfl, ln, rfl, ⟨_, SqL.of (s2 _ _ hln)⟩, ?_⟩
  have t0 : Tab ([] : List (Key × V)) (fun _ => none) := ⟨List.nodup_nil, fun k hk => absurd hk (by simp), fun n => rfl⟩
  refine for_list (K := K) (a := ln) (xs := nVs (full (skids a) 0).flat) (fun i σ H2 => ∃ (kv : List (Key × V)) (f : Nat → Option V) (v3 : Option V), σ = [some (.ref p), some (.ref ln), some (.ref d), v3, none] ∧ Same H1 H2 ∧ H2 d = some (.dK kv) ∧ Tab kv f ∧
      ∀ n ∈ (full (skids a) 0).flat.take i, ∃ r, f n = some (.ref r) ∧ H2 r = some (.lst (nVs (skids a n))))
    ⟨[], _, none, rfl, s2, upd_same, t0, fun n hn => by simp at hn⟩ (fun i σ H2 _ ⟨_, _, _, _, s, _⟩ => SqL.of (s _ _ hln)) ?_ ?_
  · rintro i y σ H2 hi ⟨kv, f, v3, rfl, s, hkv, tab, hrow⟩
    obtain ⟨x, hx, rfl⟩ := ints_at hi
    have hxt := hth x (List.mem_of_getElem? hx)
    have A2 := (A.same s1).same s
    refine ⟨_, rfl, p, t.dx, _, rfl, A2.ob, no_rs _ _ _ _, _, rfl, p, t, a, x, rfl, A2, hxt, fun r H3 s3 hr3 => ?_⟩
    have hkv3 := s3 _ _ hkv
    refine ⟨_, rfl, _, rfl, d, _, rfl, DPut.k (k := kN x) hkv3 tab.small, ?_⟩
    refine ⟨_, _, _, rfl, Same.own hd (s.trans s3), upd_same, tab.put (A.wf.lt hxt) (.ref r), fun n hn => ?_⟩
    rw [take_snoc hx] at hn
    by_cases hnx : n = x
    · subst hnx
      exact ⟨r, if_pos rfl, (upd_ne (ne_of hr3 hkv3 (by intro z; cases z))).trans hr3⟩
    · obtain ⟨q, e1, e2⟩ := hrow n ((List.mem_append.mp hn).resolve_right fun h => hnx (List.mem_singleton.mp h))
      exact ⟨q, by rw [if_neg hnx]; exact e1, (upd_ne (ne_of (s3 _ _ e2) hkv3 (by intro z; cases z))).trans (s3 _ _ e2)⟩
  · rintro σ H2 ⟨kv, f, v3, rfl, s, hkv, tab, hrow⟩
    rw [ints_len, List.take_length] at hrow
    refine ⟨_, rfl, _, rfl, ln, d, skids a, rfl, F, hr, s _ _ hln, ⟨kv, hkv, fun n hn => ?_⟩, fun sp kvs g H3 s3 hsp tb hspot => ?_⟩
    · obtain ⟨r, e1, e2⟩ := hrow n hn
      exact ⟨r, (tab.val n).trans e1, e2⟩
    have hln3 : H3 ln = some (.lst (nVs (full (skids a) 0).flat)) := s3 _ _ (s _ _ hln)
    refine ⟨_, rfl, ln, rfl, ⟨_, SqL.of hln3⟩, fun L hL => ?_⟩
    refine lc_list (K := K) (a := ln) (xs := nVs (full (skids a) 0).flat) (fun i H' => Same H3 H' ∧ ∃ us : List Addr, H' L = some (.lst (refs us)) ∧ us.length = i ∧ ∀ (j : Nat) t, us[j]? = some t → ∃ s, (a.show_)[j]? = some s ∧ H' t = some (sT s))
      ⟨same_new hL, [], upd_same, rfl, fun j t h => by simp at h⟩ (fun i H' _ q => SqL.of (q.1 _ _ hln3)) ?_ ?_
    · rintro i y H' hi ⟨s4, us, hu, hul, hus⟩
      obtain ⟨x, hx, rfl⟩ := ints_at hi
      have hxm := List.mem_of_getElem? hx
      obtain ⟨tt, l, pl, g1, g2, g3⟩ := hspot x hxm
      have hi128 := (List.getElem?_eq_some_iff.mp hx).1
      refine ⟨rfl, tyes ?_⟩
      have hg : DGet H' sp (.int (x : Int)) (some (.ref tt)) := DGet.of (s4 _ _ hsp) ((tb.val x).trans g1)
      refine ⟨_, rfl, _, rfl, _, rfl, sp, _, rfl, hg, tt, _, _, _, rfl, rfl, SqT.of (s4 _ _ g2), at0, _, rfl, _, rfl, sp, _, rfl, hg, tt, _, _, _, rfl, rfl, SqT.of (s4 _ _ g2), at1, small (by show 3 ≤ 100000; omega), fun T2 hT2 => ?_⟩
      refine ⟨refs us, (upd_ne (ne_of_none hu hT2)).trans hu, ?_, ?_, us ++ [T2], by rw [upd_same, refs_append]; rfl, by rw [List.length_append, hul]; rfl, fun j w hw => ?_⟩
      · rw [refs_len, hul]
        exact small' (by omega)
      · exact Same.own hL (s4.trans (same_new hT2))
      · have hLT : T2 ≠ L := fun e => by rw [e, hu] at hT2; cases hT2
        by_cases hj : j < us.length
        · rw [List.getElem?_append_left hj] at hw
          obtain ⟨s', e1, e2⟩ := hus j w hw
          refine ⟨s', e1, ?_⟩
          rw [upd_ne (ne_of e2 hu (by intro z; cases z)), upd_ne (ne_of_none e2 hT2)]
          exact e2
        · have hjl := (List.getElem?_eq_some_iff.mp hw).1
          rw [List.length_append] at hjl
          have hjl : j < us.length + 1 := hjl
          have ej : j = us.length := by omega
          rw [ej, List.getElem?_append_right (Nat.le_refl _), Nat.sub_self] at hw
          have hw : T2 = w := by simpa using hw
          subst hw
          refine ⟨⟨x, l, pl⟩, ?_, ?_⟩
          · rw [ej, hul, show_eq A.wf]
            exact shows_at (F.flat_nodup 128 0) g3 hx
          · rw [upd_ne hLT, upd_same]
            rfl
    · rintro H' ⟨s4, us, hu, hul, hus⟩
      refine k L H' (s1.trans (s.trans (s3.trans s4))) ⟨us, hu, ?_, hus⟩
      rw [hul, ints_len, show_eq A.wf]
      have := congrArg List.length (shows_nodes (sh a) 0 (edge (sh a)))
      rw [List.length_map] at this
      exact this.symm
def spDrawnNodes (C : Addr) : Sp := fun vs H Q _ => ∃ (p : Addr) (t : Tr) (a : Abs), vs = [.ref p] ∧ TreeAt C H p t a ∧ ∀ l H', Same H H' → ShownAt H' l a.show_ → Q (.ref l) H'
theorem no_dn (dp dr ds : Addr) (st : Nat) : (tf dp dr ds st).lookup ("drawn_nodes" : Str) = none := no_m (by decide +kernel) _ _ _ _
end TW
namespace TW
open PySem L2 WT
open Kh309 (Abs)

/-! ### beside -/
def oV : Option Nat → V
  | none => .non
  | some v => .int (v : Int)
def xBeside (K : PySem.W.Frag) : TS := tSeq (tIfS (tTest (tOp rEq (tFld K (tVar 0) "standing") (tC (.int 0)))) (tRet (tC .non)) tNext)
  (tSeq (tAsg (tDGet (tFld K (tVar 0) "rows") (tDGet (tFld K (tVar 0) "parents") (tFld K (tVar 0) "standing"))) (gName 2))
  (tSeq (tAsg (tOp oAdd (tBM K "list" (rIndex K) (tVar 2) (tCons (tFld K (tVar 0) "standing") tNil)) (tVar 1)) (gName 3))
  (tRet (tIf (tTest (tChain (rI0 fun i j => .bl (decide (i ≤ j))) (rI0 fun i j => .bl (decide (i < j))) (tC (.int 0)) (tVar 3) (tLen K (tVar 2)))) (tOp (rIxL K) (tVar 2) (tVar 3)) (tC .non)))))
theorem idx_at {l : List Nat} (hn : l.Nodup) {j v : Nat} (h : l[j]? = some v) : l.idxOf? v = some j := by
  obtain ⟨hj, e⟩ := List.getElem?_eq_some_iff.mp h
  have e2 : l = l.take j ++ v :: l.drop (j + 1) := by
    rw [← e, List.getElem_cons_drop, List.take_append_drop]
  have := idxOf_at hn e2
  rw [List.length_take] at this
  rw [this]
  congr 1
  omega
theorem rd_beside {K : PySem.W.Frag} {C D : Addr} (T : Txt K C D) {H : Hp} {nx : St → Hp → Prop} {Q : VK} {p : Addr} {t : Tr} {a : Abs} (A : TreeAt C H p t a) {s : Int} {b : Bool} (hs : (s = 1 ∧ b = true) ∨ (s = -1 ∧ b = false))
    (k : Q (oV (a.beside a.stands b)) H) : xBeside K { nx := nx, rt := Q } [some (.ref p), some (.int s), none, none] H := by
  have hst := A.wf.stands
  refine ⟨_, rfl, p, C, t.dx, _, _, rfl, A.ob, T.cl, T.nT, tf_t _ _ _ _, rfl, _, rfl, ?_⟩
  have e0 : decide (V.int (a.stands : Int) = V.int 0) = decide (a.stands = 0) := dec_nat a.stands 0
  rw [e0]
  by_cases h0 : a.stands = 0
  · rw [decide_eq_true h0]
    refine iteT ?_
    have e : a.beside a.stands b = none := by rw [Abs.beside, h0, A.wf.parent_root]
    rw [e] at k
    exact k
  · rw [decide_eq_false h0]
    refine iteF ?_
    obtain ⟨q, hq⟩ := A.wf.par a.stands hst h0
    have hqt := WF.pthere hq
    have hpar : pV a a.stands = .int (q : Int) := by rw [pV, A.wf.parent_of hq]
    obtain ⟨j, hj⟩ : ∃ j : Nat, (a.children q)[j]? = some a.stands := List.mem_iff_getElem?.mp hq
    have hjl := (List.getElem?_eq_some_iff.mp hj).1
    have hrow := A.lst q hqt
    refine ⟨_, rfl, p, C, t.dx, _, _, rfl, A.ob, T.cl, T.nR, tf_r _ _ _ _, _, rfl, p, C, t.dx, _, _, rfl, A.ob, T.cl, T.nP, tf_p _ _ _ _, _, rfl, p, C, t.dx, _, _, rfl, A.ob, T.cl, T.nT, tf_t _ _ _ _, t.dp, _, rfl, DGet.of A.hp (A.parOf hst), t.dr, .ref (t.ra q), rfl, ?_, ?_⟩
    · rw [hpar]
      exact DGet.of A.hr (A.rowOf hqt)
    refine ⟨_, rfl, .inl ⟨rfl, _, SqL.of hrow⟩, _, rfl, p, C, t.dx, _, _, rfl, A.ob, T.cl, T.nT, tf_t _ _ _ _, t.ra q, _, _, j, .int (a.stands : Int), rfl, rfl, SqL.of hrow, rfl, flat_ints _, by rw [ints_get, hj]; rfl, by show ((a.stands : Int) == (a.stands : Int)) = true; exact beq_self_eq_true _, fun m z' hm hz => ?_, _, rfl, _, _, rfl, rfl, ?_⟩
    · obtain ⟨w, hw, rfl⟩ := ints_at hz
      show ((w : Int) == (a.stands : Int)) = false
      refine beq_eq_false_iff_ne.mpr fun e => ?_
      have : w = a.stands := by omega
      subst this
      have := nd_at (A.wf.nd q) hw hj
      omega
    refine ⟨_, rfl, _, _, rfl, rfl, _, rfl, ?_⟩
    have eb : a.beside a.stands b = if b then (a.children q)[j + 1]? else if j = 0 then none else (a.children q)[j - 1]? := by
      rw [Abs.beside, A.wf.parent_of hq]
      simp only [idx_at (A.wf.nd q) hj, Option.getD_some]
    rw [eb] at k
    have fin : ∀ z : Int, (∀ v : Nat, 0 ≤ z → z < ((a.children q).length : Int) → (a.children q)[z.toNat]? = some v → Q (.int (v : Int)) H) → ((z < 0 ∨ ((a.children q).length : Int) ≤ z) → Q .non H) →
        if decide (0 ≤ z) = true then (tLen K (tVar 2)) [some (.ref p), some (.int s), some (.ref (t.ra q)), some (.int z)] H fun w' H4 => (rI0 fun i j => .bl (decide (i < j))) (.int z) w' H4 (fun x H' => ∃ k, x = .bl k ∧
            if k = true then (tOp (rIxL K) (tVar 2) (tVar 3)) [some (.ref p), some (.int s), some (.ref (t.ra q)), some (.int z)] H' Q else (tC .non) [some (.ref p), some (.int s), some (.ref (t.ra q)), some (.int z)] H' Q)
          else ∃ k, V.bl false = .bl k ∧ if k = true then (tOp (rIxL K) (tVar 2) (tVar 3)) [some (.ref p), some (.int s), some (.ref (t.ra q)), some (.int z)] H Q else (tC .non) [some (.ref p), some (.int s), some (.ref (t.ra q)), some (.int z)] H Q := by
      intro z h1 h2
      refine ite2 (fun hz => ?_) (fun hz => ?_)
      · have hz : 0 ≤ z := of_decide_eq_true hz
        refine ⟨_, rfl, t.ra q, _, rfl, .inl (SqL.of hrow), _, _, rfl, rfl, _, rfl, ?_⟩
        rw [ints_len]
        refine ite2 (fun hl => ?_) (fun hl => ?_)
        · have hl : z < ((a.children q).length : Int) := of_decide_eq_true hl
          have hlt : z.toNat < (a.children q).length := by omega
          have hv := List.getElem?_eq_getElem hlt
          refine ⟨_, rfl, _, rfl, t.ra q, _, _, _, rfl, rfl, SqL.of hrow, at_of (j := z.toNat) (v := .int (((a.children q)[z.toNat] : Nat) : Int)) (by omega) (by rw [ints_get, hv]; rfl), ?_⟩
          exact h1 _ hz hl hv
        · exact h2 (.inr (by
            have : ¬ z < ((a.children q).length : Int) := fun w => hl (decide_eq_true w)
            omega))
      · refine ⟨_, rfl, iteF ?_⟩
        exact h2 (.inl (by
          have : ¬ 0 ≤ z := fun w => hz (decide_eq_true w)
          omega))
    refine fin ((j : Int) + s) (fun v g1 g2 g3 => ?_) (fun g => ?_)
    · rcases hs with ⟨rfl, rfl⟩ | ⟨rfl, rfl⟩
      · rw [if_pos rfl] at k
        have e : ((j : Int) + 1).toNat = j + 1 := by omega
        rw [e] at g3
        rw [g3] at k
        exact k
      · rw [if_neg Bool.false_ne_true] at k
        have hj0 : j ≠ 0 := by omega
        have e : ((j : Int) + -1).toNat = j - 1 := by omega
        rw [e] at g3
        rw [if_neg hj0, g3] at k
        exact k
    · rcases hs with ⟨rfl, rfl⟩ | ⟨rfl, rfl⟩
      · rw [if_pos rfl, List.getElem?_eq_none (by omega)] at k
        exact k
      · rw [if_neg Bool.false_ne_true] at k
        have hj0 : j = 0 := by omega
        rw [if_pos hj0] at k
        exact k
def spBeside (C : Addr) : Sp := fun vs H Q _ => ∃ (p : Addr) (t : Tr) (a : Abs) (s : Int) (b : Bool), vs = [.ref p, .int s] ∧ TreeAt C H p t a ∧ ((s = 1 ∧ b = true) ∨ (s = -1 ∧ b = false)) ∧ Q (oV (a.beside a.stands b)) H
theorem no_bs (dp dr ds : Addr) (st : Nat) : (tf dp dr ds st).lookup ("beside" : Str) = none := no_m (by decide +kernel) _ _ _ _

/-! ### reached -/
def xReached (K : PySem.W.Frag) (C : Addr) : TS := tSeq (tIfS (tTest (tOp rEq (tVar 1) (tC (.int 0)))) (tRet (tDGet (tFld K (tVar 0) "parents") (tFld K (tVar 0) "standing"))) tNext)
  (tSeq (tIfS (tTest (tOp rEq (tVar 1) (tC (.int 1)))) (tSeq (tAsg (tMeth C "row_shown" (spRow C) [] E0 (tVar 0) (tCons (tFld K (tVar 0) "standing") tNil)) (gName 2)) (tRet (tIf (tTru K (tVar 2)) (tOp (rIxL K) (tVar 2) (tC (.int 0))) (tC .non)))) tNext)
  (tSeq (tIfS (tTest (tOp rEq (tVar 1) (tC (.int 2)))) (tRet (tMeth C "beside" (spBeside C) [] E0 (tVar 0) (tCons (tC (.int 1)) tNil))) tNext)
  (tRet (tMeth C "beside" (spBeside C) [] E0 (tVar 0) (tCons (tUn oNeg (tC (.int 1))) tNil)))))
theorem hitI {A B : Prop} {m n : Int} (h : m = n) (ha : A) : if decide (V.int m = V.int n) = true then A else B := by
  rw [decide_eq_true (by rw [h])]
  exact iteT ha
theorem skipI {A B : Prop} {m n : Int} (h : m ≠ n) (hb : B) : if decide (V.int m = V.int n) = true then A else B := by
  rw [decide_eq_false (fun e => h (by injection e))]
  exact iteF hb
theorem rd_reached {K : PySem.W.Frag} {C D : Addr} (T : Txt K C D) {H : Hp} {nx : St → Hp → Prop} {Q : VK} {p : Addr} {t : Tr} {a : Abs} (A : TreeAt C H p t a) {w : Nat} (hw : w ≤ 3)
    (k : ∀ H', Same H H' → Q (oV (a.way w)) H') : xReached K C { nx := nx, rt := Q } [some (.ref p), some (.int (w : Int)), none] H := by
  have hst := A.wf.stands
  refine ⟨_, rfl, rfl, _, rfl, ?_⟩
  match w, hw, k with
  | 0, _, k =>
    refine hitI rfl ?_
    refine ⟨_, rfl, p, C, t.dx, _, _, rfl, A.ob, T.cl, T.nP, tf_p _ _ _ _, _, rfl, p, C, t.dx, _, _, rfl, A.ob, T.cl, T.nT, tf_t _ _ _ _, t.dp, _, rfl, DGet.of A.hp (A.parOf hst), ?_⟩
    have e : pV a a.stands = oV (a.way 0) := by
      show pV a a.stands = oV (a.parent a.stands)
      rw [pV]
      cases a.parent a.stands <;> rfl
    rw [e]
    exact k H (Same.refl H)
  | 1, _, k =>
    refine skipI (by decide) ?_
    refine ⟨_, rfl, rfl, _, rfl, hitI rfl ?_⟩
    refine ⟨_, rfl, p, t.dx, _, rfl, A.ob, no_rs _ _ _ _, _, rfl, p, C, t.dx, _, _, rfl, A.ob, T.cl, T.nT, tf_t _ _ _ _, p, t, a, a.stands, rfl, A, hst, fun r H' s hr => ?_⟩
    refine ⟨_, rfl, _, .inl ⟨_, SqL.of hr, rfl⟩, ?_⟩
    have ew : a.way 1 = (skids a a.stands).head? := by
      show (if a.isShut a.stands then none else (a.children a.stands).head?) = _
      rw [skids]
      split <;> rfl
    have k := k H' s
    rw [ew] at k
    cases hsk : skids a a.stands with
    | nil =>
      rw [hsk] at k
      exact iteF k
    | cons c l =>
      rw [hsk] at k
      refine iteT ?_
      rw [hsk] at hr
      exact ⟨_, rfl, r, _, _, _, rfl, rfl, SqL.of hr, at_of (j := 0) rfl rfl, k⟩
  | 2, _, k =>
    refine skipI (by decide) ?_
    refine ⟨_, rfl, rfl, _, rfl, skipI (by decide) ?_⟩
    refine ⟨_, rfl, rfl, _, rfl, hitI rfl ?_⟩
    exact ⟨_, rfl, p, t.dx, _, rfl, A.ob, no_bs _ _ _ _, p, t, a, 1, true, rfl, A, .inl ⟨rfl, rfl⟩, k H (Same.refl H)⟩
  | 3, _, k =>
    refine skipI (by decide) ?_
    refine ⟨_, rfl, rfl, _, rfl, skipI (by decide) ?_⟩
    refine ⟨_, rfl, rfl, _, rfl, skipI (by decide) ?_⟩
    exact ⟨_, rfl, p, t.dx, _, rfl, A.ob, no_bs _ _ _ _, _, rfl, p, t, a, -1, false, rfl, A, .inr ⟨rfl, rfl⟩, k H (Same.refl H)⟩
  | n + 4, h, _ => exact absurd h (by omega)
def spReached (C : Addr) : Sp := fun vs H Q _ => ∃ (p : Addr) (t : Tr) (a : Abs) (w : Nat), vs = [.ref p, .int (w : Int)] ∧ TreeAt C H p t a ∧ w ≤ 3 ∧ ∀ H', Same H H' → Q (oV (a.way w)) H'
theorem no_rc (dp dr ds : Addr) (st : Nat) : (tf dp dr ds st).lookup ("reached" : Str) = none := no_m (by decide +kernel) _ _ _ _

/-! ### go -/
def xGo (K : PySem.W.Frag) (C : Addr) : TS := tSeq (tIfS (tTest (tOp oGt (tVar 1) (tC (.int 3)))) (tRet (tC (.int (-22)))) tNext)
  (tSeq (tAsg (tMeth C "reached" (spReached C) [] E0 (tVar 0) (tCons (tVar 1) tNil)) (gName 2))
  (tSeq (tIfS (tB (tIsN (tVar 2))) (tRet (tC (.int (-2)))) tNext)
  (tSeq (sFld K (tVar 0) (tVar 2) "standing")
  (tRet (tVar 2)))))
theorem kept_stand {p : Addr} {t : Tr} {a b : Abs} {H H' : Hp} (er : b.rows = a.rows) (h : ∀ c o, c ≠ p → H c = some o → H' c = some o) : Kept p t a H t b H' := by
  intro c o ec hc
  have c1 : c ≠ p := fun z => hc (.inl z)
  refine ⟨h c o c1 ec, ?_⟩
  rintro (z | z | z | z | ⟨x, hx, z⟩)
  · exact hc (.inl z)
  · exact hc (.inr (.inl z))
  · exact hc (.inr (.inr (.inl z)))
  · exact hc (.inr (.inr (.inr (.inl z))))
  · exact hc (.inr (.inr (.inr (.inr ⟨x, (there_congr er x).symm.trans hx, z⟩))))
theorem rd_go {K : PySem.W.Frag} {C D : Addr} (T : Txt K C D) {H : Hp} {nx : St → Hp → Prop} {Q : VK} {p : Addr} {t : Tr} {a : Abs} (A : TreeAt C H p t a) (w : Nat) (k : Done C p t a H (.go w) Q) :
    xGo K C { nx := nx, rt := Q } [some (.ref p), some (.int (w : Int)), none] H := by
  refine ⟨_, rfl, _, _, rfl, rfl, _, rfl, ?_⟩
  refine ite2 (fun hw => ?_) (fun hw => ?_)
  · have hw : 3 < w := by have := of_decide_eq_true hw; omega
    have e : Kh309.doing a (.go w) = (a, Kh309.say (-22)) := by simp only [Kh309.doing, if_pos hw]
    exact k.use e t H A (Kept.refl (Same.refl H))
  · have hw : ¬ 3 < w := fun z => hw (decide_eq_true (by omega))
    refine ⟨_, rfl, p, t.dx, _, rfl, A.ob, no_rc _ _ _ _, _, rfl, p, t, a, w, rfl, A, by omega, fun H' s => ?_⟩
    cases hy : a.way w with
    | none =>
      have e : Kh309.doing a (.go w) = (a, Kh309.say (-2)) := by simp only [Kh309.doing, if_neg hw, hy]
      refine ⟨_, rfl, _, rfl, iteT ?_⟩
      exact k.use e t H' (A.same s) (Kept.refl s)
    | some v =>
      have e : Kh309.doing a (.go w) = ({ a with stands := v }, Kh309.say v) := by simp only [Kh309.doing, if_neg hw, hy]
      have A' := A.same s
      refine ⟨_, rfl, _, rfl, iteF ?_⟩
      refine ⟨_, rfl, _, rfl, p, C, t.dx, _, rfl, A'.ob, T.cl, T.nT, tf_len _ _ _ _, ?_⟩
      have B := A'.stand (way_there A.wf hy)
      rw [← tf_putT t.dp t.dr t.ds a.stands v] at B
      exact ⟨_, rfl, k.use e t _ B (kept_stand (b := { a with stands := v }) rfl fun c o h ec => (upd_ne h).trans (s _ _ ec))⟩

/-! ### pick -/
def xPick (K : PySem.W.Frag) (C : Addr) : TS := tSeq (tFor (iList K (tMeth C "drawn_nodes" (spDrawnNodes C) [] E0 (tVar 0) tNil)) (gTup K 3 (gCons (gName 3) (gCons (gName 4) (gCons (gName 5) gNil))))
    (tIfS (tAnd (tTest (tOp rEq (tVar 4) (tVar 2))) (tTest (tOp (rIn K false) (tVar 5) (tTup (tCons (tVar 1) (tCons (tOp oSub (tVar 1) (tC (.int 1))) tNil))))))
      (tSeq (sFld K (tVar 0) (tVar 3) "standing") (tRet (tVar 3))) tNext))
  (tRet (tC (.int (-2))))
theorem find_at {α : Type} (f : α → Bool) : ∀ (l : List α) (i : Nat) (s : α), l[i]? = some s → f s = true → (∀ j s', j < i → l[j]? = some s' → f s' = false) → l.find? f = some s
  | [], i, s, h, _, _ => by simp at h
  | x :: l, 0, s, h, hf, _ => by
    have h : x = s := by simpa using h
    subst h
    rw [List.find?_cons, hf]
  | x :: l, i + 1, s, h, hf, hn => by
    rw [List.find?_cons, hn 0 x (by omega) rfl]
    exact find_at f l i s (by simpa using h) hf fun j s' hj hs => hn (j + 1) s' (by omega) (by simpa using hs)
theorem in_two (pl x : Int) : inV (.int pl) [.int x, .int (x - 1)] = (pl == x || pl == x - 1) := by
  show (x == pl || (x - 1 == pl || false)) = _
  rw [Bool.or_false, Bool.beq_comm (a := x), Bool.beq_comm (a := x - 1)]
theorem rd_pick {K : PySem.W.Frag} {C D : Addr} (T : Txt K C D) {H : Hp} {nx : St → Hp → Prop} {Q : VK} {p : Addr} {t : Tr} {a : Abs} (A : TreeAt C H p t a) (x : Int) (y : Nat) (k : Done C p t a H (.pick x y) Q) :
    xPick K C { nx := nx, rt := Q } [some (.ref p), some (.int x), some (.int (y : Int)), none, none, none] H := by
  refine ⟨_, rfl, p, t.dx, _, rfl, A.ob, no_dn _ _ _ _, p, t, a, rfl, A, fun l H1 s1 S => ?_⟩
  obtain ⟨us, hl, hul, hus⟩ := S.ex
  refine ⟨l, rfl, ⟨_, SqL.of hl⟩, ?_⟩
  let f : Kh309.Shown → Bool := fun p => p.layer == y && (p.place == x || p.place == x - 1)
  refine for_list (K := K) (a := l) (xs := refs us) (fun i σ H2 => ∃ (v3 v4 v5 : Option V), σ = [some (.ref p), some (.int x), some (.int (y : Int)), v3, v4, v5] ∧ Same H1 H2 ∧ ∀ j s', j < i → (a.show_)[j]? = some s' → f s' = false)
    ⟨none, none, none, rfl, Same.refl _, fun j s' hj => absurd hj (by omega)⟩ (fun i σ H2 _ ⟨_, _, _, _, s, _⟩ => SqL.of (s _ _ hl)) ?_ ?_
  · rintro i w σ H2 hi ⟨v3, v4, v5, rfl, s, hno⟩
    obtain ⟨tt, ht, rfl⟩ := refs_at hi
    obtain ⟨sn, hs, hts⟩ := hus i tt ht
    refine ⟨tt, _, rfl, SqT.of (s _ _ hts), rfl, _, _, rfl, _, _, rfl, _, _, rfl, rfl, ?_⟩
    refine ⟨_, rfl, _, rfl, rfl, _, rfl, ?_⟩
    rw [dec_nat]
    have next : ∀ H', Same H2 H' → f sn = false → ∃ (v3 v4 v5 : Option V), [some (V.ref p), some (.int x), some (.int (y : Int)), some (.int (sn.node : Int)), some (.int (sn.layer : Int)), some (.int sn.place)] = [some (.ref p), some (.int x), some (.int (y : Int)), v3, v4, v5] ∧ Same H1 H' ∧ ∀ j s', j < i + 1 → (a.show_)[j]? = some s' → f s' = false := by
      intro H' s' hf
      refine ⟨_, _, _, rfl, s.trans s', fun j s'' hj hjs => ?_⟩
      by_cases e : j = i
      · rw [e, hs] at hjs
        cases hjs
        exact hf
      · exact hno j s'' (by omega) hjs
    refine ite2 (fun hly => ?_) (fun hly => ?_)
    · have hly : sn.layer = y := of_decide_eq_true hly
      refine ⟨_, rfl, _, rfl, _, rfl, _, _, rfl, rfl, small (by show 2 ≤ 100000; omega), fun t2 ht2 => ?_⟩
      refine ⟨t2, _, rfl, .inr (SqT.of upd_same), rfl, rfl, _, rfl, ?_⟩
      show if (if false = true then _ else inV (.int sn.place) [.int x, .int (x - 1)]) = true then _ else _
      rw [if_neg Bool.false_ne_true, in_two]
      cases hin : (sn.place == x || sn.place == x - 1) with
      | true =>
        refine iteT ?_
        have hf : f sn = true := by show (sn.layer == y && (sn.place == x || sn.place == x - 1)) = true; rw [hin, hly]; simp
        have hfind : a.show_.find? f = some sn := find_at f _ i sn hs hf hno
        have e : Kh309.doing a (.pick x y) = ({ a with stands := sn.node }, Kh309.say sn.node) := by
          have hfind : a.show_.find? (fun p => p.layer == y && (p.place == x || p.place == x - 1)) = some sn := hfind
          simp only [Kh309.doing, hfind]
        have s2 : Same H (upd H2 t2 (.tup [.int x, .int (x - 1)])) := s1.trans (s.trans (same_new ht2))
        have A' := A.same s2
        have hth : a.there sn.node = true := by
          refine shown_there A.wf ?_
          rw [shown_eq, ← shows_nodes (sh a) 0 (edge (sh a)), ← show_eq A.wf]
          exact List.mem_map.mpr ⟨sn, List.mem_of_getElem? hs, rfl⟩
        refine ⟨_, rfl, _, rfl, p, C, t.dx, _, rfl, A'.ob, T.cl, T.nT, tf_len _ _ _ _, ?_⟩
        have B := A'.stand hth
        rw [← tf_putT t.dp t.dr t.ds a.stands sn.node] at B
        exact ⟨_, rfl, k.use e t _ B (kept_stand (b := { a with stands := sn.node }) rfl fun c o h ec => (upd_ne h).trans (s2 _ _ ec))⟩
      | false =>
        refine iteF ?_
        exact next _ (same_new ht2) (by show (sn.layer == y && (sn.place == x || sn.place == x - 1)) = false; rw [hin]; simp)
    · refine iteF ?_
      refine next _ (Same.refl _) ?_
      show (sn.layer == y && (sn.place == x || sn.place == x - 1)) = false
      have : (sn.layer == y) = false := by
        rw [beq_eq_false_iff_ne]
        exact fun z => hly (decide_eq_true z)
      rw [this, Bool.false_and]
  · rintro σ H2 ⟨v3, v4, v5, rfl, s, hno⟩
    have hfind : a.show_.find? f = none := by
      rw [List.find?_eq_none]
      intro s' hs'
      obtain ⟨j, hj⟩ := List.mem_iff_getElem?.mp hs'
      have := (List.getElem?_eq_some_iff.mp hj).1
      rw [hno j s' (by rw [refs_len, hul]; exact this) hj]
      decide
    have e : Kh309.doing a (.pick x y) = (a, Kh309.say (-2)) := by
      have hfind : a.show_.find? (fun p => p.layer == y && (p.place == x || p.place == x - 1)) = none := hfind
      simp only [Kh309.doing, hfind]
    exact k.use e t H2 (A.same (s1.trans s)) (Kept.refl (s1.trans s))

/-! ### at, show -/
def xAt (K : PySem.W.Frag) : TS := tRet (tFld K (tVar 0) "standing")
theorem rd_at {K : PySem.W.Frag} {C D : Addr} (T : Txt K C D) {H : Hp} {nx : St → Hp → Prop} {Q : VK} {p : Addr} {t : Tr} {a : Abs} (A : TreeAt C H p t a) (k : Done C p t a H .at_ Q) : xAt K { nx := nx, rt := Q } [some (.ref p)] H :=
  ⟨_, rfl, p, C, t.dx, _, _, rfl, A.ob, T.cl, T.nT, tf_t _ _ _ _, k t H A (Kept.refl (Same.refl H))⟩
def rExtendT (K : PySem.W.Frag) : V → List V → Hp → VK → Prop := fun x vs H Q => ∃ l b xs zs, x = .ref l ∧ vs = [.ref b] ∧ H l = some (.lst xs) ∧ SqT K H b zs ∧ xs.length + zs.length ≤ sizeLine ∧ Q .non (upd H l (.lst (xs ++ zs)))
def xShow (K : PySem.W.Frag) (C : Addr) : TS := tSeq (tAsg (tMeth C "drawn_nodes" (spDrawnNodes C) [] E0 (tVar 0) tNil) (gName 1)) (tSeq (tAsg (tLst (tCons (tLen K (tVar 1)) tNil)) (gName 2))
  (tSeq (tFor (iList K (tVar 1)) (gName 3) (tDrop (tBM K "list" (rExtendT K) (tVar 2) (tCons (tVar 3) tNil)))) (tRet (tVar 2))))
def three (S : List Kh309.Shown) : List Int := S.flatMap fun p => [(p.node : Int), (p.layer : Int), p.place]
theorem show_len {a : Abs} (wf : WF a) : a.show_.length ≤ 128 := by
  rw [show_eq wf]
  have := congrArg List.length (shows_nodes (sh a) 0 (edge (sh a)))
  rw [List.length_map, flat_length] at this
  rw [this]
  exact wf.sforest.size_le (by omega) 128
theorem three_len (S : List Kh309.Shown) : (three S).length = 3 * S.length := by
  unfold three
  induction S with
  | nil => rfl
  | cons s S ih => rw [List.flatMap_cons, List.length_append, ih]; show 3 + 3 * S.length = 3 * (S.length + 1); omega
theorem three_take {S : List Kh309.Shown} {i : Nat} {s : Kh309.Shown} (h : S[i]? = some s) : three (S.take (i + 1)) = three (S.take i) ++ [(s.node : Int), (s.layer : Int), s.place] := by
  rw [take_snoc h, three, List.flatMap_append]
  rfl
theorem zs_append (l m : List Int) : zs (l ++ m) = zs l ++ zs m := List.map_append ..
theorem rd_show {K : PySem.W.Frag} {C D : Addr} (T : Txt K C D) {H : Hp} {nx : St → Hp → Prop} {Q : VK} {p : Addr} {t : Tr} {a : Abs} (A : TreeAt C H p t a)
    (k : ∀ l H', Same H H' → H l = none → H' l = some (.lst (zs ((a.show_.length : Int) :: three a.show_))) → Q (.ref l) H') : xShow K C { nx := nx, rt := Q } [some (.ref p), none, none, none] H := by
  have hS := show_len A.wf
  refine ⟨_, rfl, p, t.dx, _, rfl, A.ob, no_dn _ _ _ _, p, t, a, rfl, A, fun l H1 s1 S => ?_⟩
  obtain ⟨us, hl, hul, hus⟩ := S.ex
  refine ⟨_, rfl, l, _, rfl, .inl (SqL.of hl), small (by show 1 ≤ 100000; omega), fun m hm => ?_⟩
  rw [refs_len, hul]
  have s2 : Same H1 (upd H1 m (.lst [.int (a.show_.length : Int)])) := same_new hm
  refine ⟨_, rfl, l, rfl, ⟨_, SqL.of (s2 _ _ hl)⟩, ?_⟩
  refine for_list (K := K) (a := l) (xs := refs us) (fun i σ H2 => ∃ (v3 : Option V), σ = [some (.ref p), some (.ref l), some (.ref m), v3] ∧ Same H1 H2 ∧ H2 m = some (.lst (zs ((a.show_.length : Int) :: three (a.show_.take i)))))
    ⟨none, rfl, s2, upd_same⟩ (fun i σ H2 _ ⟨_, _, s, _⟩ => SqL.of (s _ _ hl)) ?_ ?_
  · rintro i w σ H2 hi ⟨v3, rfl, s, hm2⟩
    obtain ⟨tt, ht, rfl⟩ := refs_at hi
    obtain ⟨sn, hs, hts⟩ := hus i tt ht
    refine ⟨_, rfl, .inl ⟨rfl, _, SqL.of hm2⟩, _, rfl, m, tt, _, _, rfl, rfl, hm2, SqT.of (s _ _ hts), ?_, ?_⟩
    · rw [zs_len, List.length_cons, three_len, List.length_take]
      show _ + 3 ≤ _
      exact small (by omega)
    · refine ⟨_, rfl, Same.own hm s, ?_⟩
      rw [upd_same, three_take hs]
      show some (HO.lst (zs (_ :: three (a.show_.take i)) ++ zs [(sn.node : Int), (sn.layer : Int), sn.place])) = _
      rw [← zs_append]
      rfl
  · rintro σ H2 ⟨v3, rfl, s, hm2⟩
    rw [refs_len, hul, List.take_length] at hm2
    exact ⟨_, rfl, k m H2 (s1.trans s) (s1.free hm) hm2⟩
end TW
namespace TW
open PySem L2 WT
open Kh309 (Abs Call)

/-! ### the promises of the calls -/
def spAdd (C : Addr) : Sp := fun vs H Q _ => ∃ (p : Addr) (t : Tr) (a : Abs) (n : Nat), vs = [.ref p, .int (n : Int)] ∧ TreeAt C H p t a ∧ Done C p t a H (.add n) Q
def spDrop (C : Addr) : Sp := fun vs H Q _ => ∃ (p : Addr) (t : Tr) (a : Abs) (n : Nat), vs = [.ref p, .int (n : Int)] ∧ TreeAt C H p t a ∧ Done C p t a H (.drop n) Q
def spFold (C : Addr) : Sp := fun vs H Q _ => ∃ (p : Addr) (t : Tr) (a : Abs) (n s : Nat), vs = [.ref p, .int (n : Int), .int (s : Int)] ∧ TreeAt C H p t a ∧ Done C p t a H (.fold n s) Q
def spGo (C : Addr) : Sp := fun vs H Q _ => ∃ (p : Addr) (t : Tr) (a : Abs) (n : Nat), vs = [.ref p, .int (n : Int)] ∧ TreeAt C H p t a ∧ Done C p t a H (.go n) Q
def spPick (C : Addr) : Sp := fun vs H Q _ => ∃ (p : Addr) (t : Tr) (a : Abs) (x : Int) (y : Nat), vs = [.ref p, .int x, .int (y : Int)] ∧ TreeAt C H p t a ∧ Done C p t a H (.pick x y) Q
def spAt (C : Addr) : Sp := fun vs H Q _ => ∃ (p : Addr) (t : Tr) (a : Abs), vs = [.ref p] ∧ TreeAt C H p t a ∧ Done C p t a H .at_ Q
def spShow (C : Addr) : Sp := fun vs H Q _ => ∃ (p : Addr) (t : Tr) (a : Abs), vs = [.ref p] ∧ TreeAt C H p t a ∧ ∀ l H', Same H H' → H l = none → H' l = some (.lst (zs ((a.show_.length : Int) :: three a.show_))) → Q (.ref l) H'

/-! ### answer -/
def codeOf : Call → Nat
  | .begin_ => 0
  | .add _ => 1
  | .drop _ => 2
  | .fold _ _ => 3
  | .go _ => 4
  | .pick _ _ => 5
  | .at_ => 6
  | .show_ => 7
def argsOf : Call → List Int
  | .begin_ => []
  | .add n => [(n : Int)]
  | .drop n => [(n : Int)]
  | .fold n s => [(n : Int), (s : Int)]
  | .go n => [(n : Int)]
  | .pick x y => [x, (y : Int)]
  | .at_ => []
  | .show_ => []
def tArg (K : PySem.W.Frag) (i : Int) : TE := tOp (rIxL K) (tVar 2) (tC (.int i))
def tIs (j : Int) : TT := tTest (tOp rEq (tVar 1) (tC (.int j)))
def xAnswer (K : PySem.W.Frag) (C : Addr) : TS :=
  tSeq (tIfS (tIs 0) (tRet (tLst (tCons (tMeth C "begin" (spBegin C) [] E0 (tVar 0) tNil) tNil))) tNext)
  (tSeq (tIfS (tIs 1) (tRet (tLst (tCons (tMeth C "add" (spAdd C) [] E0 (tVar 0) (tCons (tArg K 0) tNil)) tNil))) tNext)
  (tSeq (tIfS (tIs 2) (tRet (tLst (tCons (tMeth C "drop" (spDrop C) [] E0 (tVar 0) (tCons (tArg K 0) tNil)) tNil))) tNext)
  (tSeq (tIfS (tIs 3) (tRet (tLst (tCons (tMeth C "fold" (spFold C) [] E0 (tVar 0) (tCons (tArg K 0) (tCons (tArg K 1) tNil))) tNil))) tNext)
  (tSeq (tIfS (tIs 4) (tRet (tLst (tCons (tMeth C "go" (spGo C) [] E0 (tVar 0) (tCons (tArg K 0) tNil)) tNil))) tNext)
  (tSeq (tIfS (tIs 5) (tRet (tLst (tCons (tMeth C "pick" (spPick C) [] E0 (tVar 0) (tCons (tArg K 0) (tCons (tArg K 1) tNil))) tNil))) tNext)
  (tSeq (tIfS (tIs 6) (tRet (tLst (tCons (tMeth C "at" (spAt C) [] E0 (tVar 0) tNil) tNil))) tNext)
  (tRet (tMeth C "show" (spShow C) [] E0 (tVar 0) tNil))))))))
/-- what is there beside the tree stays; l is none of it -/
def Kept2 (p : Addr) (t : Tr) (a : Abs) (H : Hp) (l : Addr) (t' : Tr) (a' : Abs) (H' : Hp) : Prop := ∀ b o, H b = some o → ¬ Own p t a b → H' b = some o ∧ ¬ Own p t' a' b ∧ b ≠ l
theorem TreeAt.notOwn {C : Addr} {H : Hp} {p : Addr} {t : Tr} {a : Abs} (A : TreeAt C H p t a) {l : Addr} (h : H l = none) : ¬ Own p t a l := by
  rintro (e | e | e | e | ⟨n, hn, e⟩)
  · rw [e, A.ob] at h; cases h
  · rw [e, A.hp] at h; cases h
  · rw [e, A.hr] at h; cases h
  · rw [e, A.hs] at h; cases h
  · rw [e, A.lst n hn] at h; cases h
def spAnswer (C : Addr) : Sp := fun vs H Q _ => ∃ (p ln : Addr) (t : Tr) (a : Abs) (c : Call), vs = [.ref p, .int (codeOf c : Int), .ref ln] ∧ H ln = some (.lst (zs (argsOf c))) ∧ ¬ Own p t a ln ∧ TreeAt C H p t a ∧
  ∀ l t' H', TreeAt C H' p t' (Kh309.doing a c).1 → Kept2 p t a H l t' (Kh309.doing a c).1 H' → H' l = some (.lst (zs (ans (Kh309.doing a c).2))) → ¬ Own p t' (Kh309.doing a c).1 l → Q (.ref l) H'
theorem no_call (dp dr ds : Addr) (st : Nat) : (tf dp dr ds st).lookup ("begin" : Str) = none ∧ (tf dp dr ds st).lookup ("add" : Str) = none ∧ (tf dp dr ds st).lookup ("drop" : Str) = none ∧ (tf dp dr ds st).lookup ("fold" : Str) = none ∧
    (tf dp dr ds st).lookup ("go" : Str) = none ∧ (tf dp dr ds st).lookup ("pick" : Str) = none ∧ (tf dp dr ds st).lookup ("at" : Str) = none ∧ (tf dp dr ds st).lookup ("show" : Str) = none :=
  ⟨no_m (by decide +kernel) _ _ _ _, no_m (by decide +kernel) _ _ _ _, no_m (by decide +kernel) _ _ _ _, no_m (by decide +kernel) _ _ _ _, no_m (by decide +kernel) _ _ _ _, no_m (by decide +kernel) _ _ _ _, no_m (by decide +kernel) _ _ _ _, no_m (by decide +kernel) _ _ _ _⟩
theorem ans_one {a : Abs} {c : Call} (h : c ≠ .show_) : ans (Kh309.doing a c).2 = [(Kh309.doing a c).2.value] := by
  have : (Kh309.doing a c).2.out = [] := by
    cases c with
    | begin_ => rfl
    | add p =>
      rw [Kh309.doing]
      split
      · rfl
      · split <;> rfl
    | drop p =>
      rw [Kh309.doing]
      split
      · rfl
      · split <;> rfl
    | fold v s =>
      rw [Kh309.doing]
      split
      · rfl
      · split <;> rfl
    | go w =>
      rw [Kh309.doing]
      split
      · rfl
      · split <;> rfl
    | pick x y =>
      rw [Kh309.doing]
      split <;> rfl
    | at_ => rfl
    | show_ => exact absurd rfl h
  rw [ans, this]
  rfl
theorem rd_answer {K : PySem.W.Frag} {C D : Addr} (T : Txt K C D) {H : Hp} {nx : St → Hp → Prop} {Q : VK} {p ln : Addr} {t : Tr} {a : Abs} (A : TreeAt C H p t a) (c : Call) (hln : H ln = some (.lst (zs (argsOf c)))) (hno : ¬ Own p t a ln)
    (k : ∀ l t' H', TreeAt C H' p t' (Kh309.doing a c).1 → Kept2 p t a H l t' (Kh309.doing a c).1 H' → H' l = some (.lst (zs (ans (Kh309.doing a c).2))) → ¬ Own p t' (Kh309.doing a c).1 l → Q (.ref l) H') :
    xAnswer K C { nx := nx, rt := Q } [some (.ref p), some (.int (codeOf c : Int)), some (.ref ln)] H := by
  obtain ⟨m0, m1, m2, m3, m4, m5, m6, m7⟩ := no_call t.dp t.dr t.ds a.stands
  have sk : ∀ {j : Int} {tb : TS} {r : TS} {z : Int}, z ≠ j → r { nx := nx, rt := Q } [some (.ref p), some (.int z), some (.ref ln)] H → (tSeq (tIfS (tIs j) tb tNext) r) { nx := nx, rt := Q } [some (.ref p), some (.int z), some (.ref ln)] H := by
    intro j tb r z h hr
    exact ⟨_, rfl, rfl, _, rfl, skipI h hr⟩
  -- one number is answered
  have one : c ≠ .show_ → ∀ t' H', TreeAt C H' p t' (Kh309.doing a c).1 → Kept p t a H t' (Kh309.doing a c).1 H' → ([V.int (Kh309.doing a c).2.value].length ≤ sizeLine ∧ ∀ l, H' l = none → Q (.ref l) (upd H' l (.lst [V.int (Kh309.doing a c).2.value]))) := by
    intro hc t' H' A' kp
    refine ⟨small (by show 1 ≤ 100000; omega), fun l hl => ?_⟩
    have s := same_new (o := .lst [V.int (Kh309.doing a c).2.value]) hl
    refine k l t' _ (A'.same s) (fun b o e hb => ?_) (by rw [upd_same, ans_one hc]; rfl) (A'.notOwn hl)
    obtain ⟨h1, h2⟩ := kp b o e hb
    exact ⟨s _ _ h1, h2, ne_of_none h1 hl⟩
  have e0 : ∀ (x : Int) r, atI (zs (x :: r)) 0 = some (.int x) := fun x r => atI_nat (j := 0) rfl
  have e1 : ∀ (x y : Int) r, atI (zs (x :: y :: r)) 1 = some (.int y) := fun x y r => atI_nat (j := 1) rfl
  cases c with
  | begin_ =>
    refine ⟨_, rfl, rfl, _, rfl, hitI rfl ?_⟩
    refine ⟨_, rfl, p, t.dx, _, rfl, A.ob, m0, p, t.dx, _, rfl, A.ob, .inr ⟨_, _, _, _, rfl⟩, fun t' H' A' kp => ?_⟩
    exact one (by intro z; cases z) t' H' A' fun b o e hb => kp b o e fun z => hb (.inl z)
  | add n =>
    refine sk (by simp [codeOf]) ⟨_, rfl, rfl, _, rfl, hitI rfl ?_⟩
    exact ⟨_, rfl, p, t.dx, _, rfl, A.ob, m1, _, rfl, ln, _, _, _, rfl, rfl, SqL.of hln, e0 _ _, p, t, a, n, rfl, A, one (by intro z; cases z)⟩
  | drop n =>
    refine sk (by simp [codeOf]) (sk (by simp [codeOf]) ⟨_, rfl, rfl, _, rfl, hitI rfl ?_⟩)
    exact ⟨_, rfl, p, t.dx, _, rfl, A.ob, m2, _, rfl, ln, _, _, _, rfl, rfl, SqL.of hln, e0 _ _, p, t, a, n, rfl, A, one (by intro z; cases z)⟩
  | fold n s =>
    refine sk (by simp [codeOf]) (sk (by simp [codeOf]) (sk (by simp [codeOf]) ⟨_, rfl, rfl, _, rfl, hitI rfl ?_⟩))
    exact ⟨_, rfl, p, t.dx, _, rfl, A.ob, m3, _, rfl, ln, _, _, _, rfl, rfl, SqL.of hln, e0 _ _, _, rfl, ln, _, _, _, rfl, rfl, SqL.of hln, e1 _ _ _, p, t, a, n, s, rfl, A, one (by intro z; cases z)⟩
  | go n =>
    refine sk (by simp [codeOf]) (sk (by simp [codeOf]) (sk (by simp [codeOf]) (sk (by simp [codeOf]) ⟨_, rfl, rfl, _, rfl, hitI rfl ?_⟩)))
    exact ⟨_, rfl, p, t.dx, _, rfl, A.ob, m4, _, rfl, ln, _, _, _, rfl, rfl, SqL.of hln, e0 _ _, p, t, a, n, rfl, A, one (by intro z; cases z)⟩
  | pick x y =>
    refine sk (by simp [codeOf]) (sk (by simp [codeOf]) (sk (by simp [codeOf]) (sk (by simp [codeOf]) (sk (by simp [codeOf]) ⟨_, rfl, rfl, _, rfl, hitI rfl ?_⟩))))
    exact ⟨_, rfl, p, t.dx, _, rfl, A.ob, m5, _, rfl, ln, _, _, _, rfl, rfl, SqL.of hln, e0 _ _, _, rfl, ln, _, _, _, rfl, rfl, SqL.of hln, e1 _ _ _, p, t, a, x, y, rfl, A, one (by intro z; cases z)⟩
  | at_ =>
    refine sk (by simp [codeOf]) (sk (by simp [codeOf]) (sk (by simp [codeOf]) (sk (by simp [codeOf]) (sk (by simp [codeOf]) (sk (by simp [codeOf]) ⟨_, rfl, rfl, _, rfl, hitI rfl ?_⟩)))))
    exact ⟨_, rfl, p, t.dx, _, rfl, A.ob, m6, p, t, a, rfl, A, one (by intro z; cases z)⟩
  | show_ =>
    refine sk (by simp [codeOf]) (sk (by simp [codeOf]) (sk (by simp [codeOf]) (sk (by simp [codeOf]) (sk (by simp [codeOf]) (sk (by simp [codeOf]) (sk (by simp [codeOf]) ?_))))))
    refine ⟨_, rfl, p, t.dx, _, rfl, A.ob, m7, p, t, a, rfl, A, fun l H' s hl hl' => ?_⟩
    exact k l t H' (A.same s) (fun b o e hb => ⟨s _ _ e, hb, ne_of_none e hl⟩) hl' (A.notOwn hl)

/-! ### answers -/
def behindOf (n : Nat) : Nat := [0, 1, 1, 2, 1, 2, 0, 0].getD n 0
/-- NUMBERS_BEHIND[..] -/
def tTab (te : TE) : TE := fun σ H Q => te σ H fun x H1 => ∃ n : Nat, n < 8 ∧ x = .int (n : Int) ∧ Q (.int (behindOf n : Int)) H1
def xAnswers (K : PySem.W.Frag) (C : Addr) : TS := tSeq (tAsg (tMake C (spInit C) [] E0 tNil) (gName 1)) (tSeq (tAsg (tLst tNil) (gName 2)) (tSeq (tAsg (tC (.int 0)) (gName 3))
  (tSeq (tWhile (tTest (tOp (rI0 fun i j => .bl (decide (i < j))) (tVar 3) (tLen K (tVar 0))))
    (tSeq (tAsg (tOp (rIxL K) (tVar 0) (tVar 3)) (gName 4))
    (tSeq (tAsg (tOp oAdd (tOp oAdd (tVar 3) (tC (.int 1))) (tTab (tVar 4))) (gName 5))
    (tSeq (tAsg (tCall (spAnswer C) [] E0 (tCons (tVar 1) (tCons (tVar 4) (tCons (tSl (rSlL K) (tVar 0) (tPart (tOp oAdd (tVar 3) (tC (.int 1)))) (tPart (tVar 5))) tNil)))) (gName 6))
    (tSeq (tDrop (tBM K "list" rAppend (tVar 2) (tCons (tLen K (tVar 6)) tNil)))
    (tSeq (tDrop (tBM K "list" rExtend (tVar 2) (tCons (tVar 6) tNil)))
    (tAsg (tVar 5) (gName 3))))))))
  (tRet (tVar 2)))))
theorem code_lt (c : Call) : codeOf c < 8 := by cases c <;> simp [codeOf]
theorem behind_args (c : Call) : behindOf (codeOf c) = (argsOf c).length := by cases c <;> rfl
theorem rest_step {ns : List Int} {i : Nat} {c : Call} {l : List Call} (r : Rest ns i (c :: l)) : ns[i]? = some (codeOf c : Int) ∧ (ns.drop (i + 1)).take (argsOf c).length = argsOf c ∧ Rest ns (i + 1 + (argsOf c).length) l := by
  obtain ⟨le, sc⟩ := r
  have key : ∀ r', ns.drop i = (codeOf c : Int) :: (argsOf c ++ r') → Script r' l → ns[i]? = some (codeOf c : Int) ∧ (ns.drop (i + 1)).take (argsOf c).length = argsOf c ∧ Rest ns (i + 1 + (argsOf c).length) l := by
    intro r' e s'
    have h1 : ns[i]? = some (codeOf c : Int) := by
      have := congrArg (fun l => l[0]?) e
      simp only [List.getElem?_drop, List.getElem?_cons_zero] at this
      simpa using this
    have h2 : ns.drop (i + 1) = argsOf c ++ r' := by
      have := congrArg (fun l => l.drop 1) e
      simp only [List.drop_drop] at this
      simpa using this
    have h3 := congrArg List.length e
    rw [List.length_drop, List.length_cons, List.length_append] at h3
    refine ⟨h1, ?_, by omega, ?_⟩
    · rw [h2, List.take_left]
    · rw [← List.drop_drop, h2, List.drop_left]
      exact s'
  generalize hd : ns.drop i = m at sc key
  cases sc with
  | begin_ s => exact key _ rfl s
  | add h1 h2 s => exact key _ (by show _ = 1 :: [((Int.toNat _ : Nat) : Int)] ++ _; rw [Int.toNat_of_nonneg h1]; rfl) s
  | drop h1 h2 s => exact key _ (by show _ = 2 :: [((Int.toNat _ : Nat) : Int)] ++ _; rw [Int.toNat_of_nonneg h1]; rfl) s
  | fold h1 h2 h3 h4 s => exact key _ (by show _ = 3 :: [((Int.toNat _ : Nat) : Int), ((Int.toNat _ : Nat) : Int)] ++ _; rw [Int.toNat_of_nonneg h1, Int.toNat_of_nonneg h3]; rfl) s
  | go h1 h2 s => exact key _ (by show _ = 4 :: [((Int.toNat _ : Nat) : Int)] ++ _; rw [Int.toNat_of_nonneg h1]; rfl) s
  | pick h1 h2 h3 h4 s => exact key _ (by show _ = 5 :: [_, ((Int.toNat _ : Nat) : Int)] ++ _; rw [Int.toNat_of_nonneg h3]; rfl) s
  | at_ s => exact key _ rfl s
  | show_ s => exact key _ rfl s
theorem ans_len {a : Abs} (wf : WF a) (c : Call) : (ans (Kh309.doing a c).2).length ≤ 385 := by
  by_cases h : c = .show_
  · subst h
    show ((a.show_.length : Int) :: three a.show_).length ≤ 385
    rw [List.length_cons, three_len]
    have := show_len wf
    omega
  · rw [ans_one h]
    show 1 ≤ 385
    omega
theorem cut_args {ns : List Int} {i k : Nat} (h : i + 1 + k ≤ ns.length) : cutV (zs ns) (some ((i : Int) + 1)) (some ((i : Int) + 1 + (k : Int))) = zs ((ns.drop (i + 1)).take k) := by
  have e1 : (i : Int) + 1 = ((i + 1 : Nat) : Int) := by omega
  have e2 : (i : Int) + 1 + (k : Int) = ((i + 1 + k : Nat) : Int) := by omega
  rw [e2, e1]
  unfold cutV
  rw [HT.sIx_nat, HT.sIx_nat, zs_len, Nat.min_eq_left h, Nat.min_eq_left (show i + 1 ≤ ns.length by omega)]
  have e3 : i + 1 + k - (i + 1) = k := by omega
  rw [e3]
  show ((ns.map V.int).drop (i + 1)).take k = ((ns.drop (i + 1)).take k).map V.int
  simp only [List.map_take, List.map_drop]
theorem rd_answers {K : PySem.W.Frag} {C D : Addr} (T : Txt K C D) {H : Hp} {nx : St → Hp → Prop} {Q : VK} {a : Addr} {ns : List Int} (hS : SqL K H a (zs ns)) (hq : PyKh309.answers_asked ns = true)
    (k : ∀ l H', H' l = some (.lst (zs (PyKh309.answers ns))) → Q (.ref l) H') : xAnswers K C { nx := nx, rt := Q } [some (.ref a), none, none, none, none, none, none] H := by
  obtain ⟨l0, sc, hl0, hans⟩ := asked_script hq
  -- the list that is handed in stays
  have anch : ∀ H2 : Hp, Same H H2 → SqL K H2 a (zs ns) := fun H2 s => s.seq hS
  intro x dx nxx ndx nex
  refine ⟨x, dx, rfl, upd_same, fun t1 H1 A1 kp1 => ⟨rfl, ?_⟩⟩
  have s0 : Same H (upd (upd H dx (.own x)) x (.ins C dx [])) := fun b o e => by
    rw [upd_ne (ne_of_none e nxx), upd_ne (ne_of_none e ndx)]
    exact e
  have k1 : ∀ b o, H b = some o → H1 b = some o ∧ ¬ Own x t1 Kh309.begun b := fun b o e => kp1 b o (s0 b o e) (ne_of_none e nxx)
  refine ⟨small (by show 0 ≤ 100000; omega), fun la hla => ?_⟩
  have s2 : Same H1 (upd H1 la (.lst [])) := same_new hla
  refine ⟨fun m σ H2 => ∃ (i : Nat) (l : List Call) (ab : Abs) (t : Tr) (done : List Int) (v4 v5 v6 : Option V), m = l.length ∧ σ = [some (.ref a), some (.ref x), some (.ref la), some (.int (i : Int)), v4, v5, v6] ∧
      TreeAt C H2 x t ab ∧ H2 la = some (.lst (zs done)) ∧ ¬ Own x t ab la ∧ (∀ b o, H b = some o → H2 b = some o ∧ ¬ Own x t ab b ∧ b ≠ la) ∧ Rest ns i l ∧ done ++ out ab l = PyKh309.answers ns ∧ done.length + l.length * 386 ≤ 400 * 386,
    ⟨_, 0, l0, Kh309.begun, t1, [], none, none, none, rfl, rfl, A1.same s2, upd_same, A1.notOwn hla, fun b o e => ⟨s2 _ _ (k1 b o e).1, (k1 b o e).2, ne_of_none (k1 b o e).1 hla⟩, ⟨Nat.zero_le _, sc⟩, hans.symm, by show 0 + _ ≤ _; omega⟩, ?_⟩
  rintro m σ H2 ⟨i, l, ab, t, done, v4, v5, v6, rfl, rfl, A, hd, hno, kp, rst, ho, hb⟩
  have sq := anch H2 fun b o e => (kp b o e).1
  refine ⟨_, rfl, _, rfl, a, _, rfl, .inl sq, _, _, rfl, rfl, _, rfl, ?_⟩
  rw [zs_len]
  cases l with
  | nil =>
    have e : i = ns.length := rst.drop_eq.mp rfl
    rw [decide_eq_false (by omega : ¬ _)]
    refine iteF ?_
    refine ⟨_, rfl, k la H2 ?_⟩
    have ho : done ++ [] = PyKh309.answers ns := ho
    rw [List.append_nil] at ho
    rw [hd, ho]
  | cons c l =>
    have hil : i < ns.length := by
      have h1 := rst.le
      have h2 : i ≠ ns.length := fun e => by
        have := rst.drop_eq.mpr e
        cases this
      omega
    obtain ⟨r1, r2, r3⟩ := rest_step rst
    rw [decide_eq_true (id (by omega))]
    refine iteT ⟨fun σ' H' => ∃ m', m' < (c :: l).length ∧ _, fun _ _ h => h, ?_⟩
    refine ⟨_, rfl, _, rfl, a, _, _, _, rfl, rfl, sq, at_of (j := i) (v := .int (codeOf c : Int)) rfl (by rw [zs, List.getElem?_map, r1]; rfl), ?_⟩
    refine ⟨_, rfl, _, _, rfl, rfl, _, rfl, codeOf c, code_lt c, rfl, _, _, rfl, rfl, ?_⟩
    rw [behind_args]
    have hle := r3.le
    refine ⟨_, rfl, _, rfl, _, rfl, _, rfl, _, _, rfl, rfl, _, rfl, _, rfl, _, rfl, a, _, rfl, sq, fun ln hln => ?_⟩
    rw [cut_args hle, r2]
    have s3 : Same H2 (upd H2 ln (.lst (zs (argsOf c)))) := same_new hln
    have A3 := A.same s3
    refine ⟨x, ln, t, ab, c, rfl, upd_same, A.notOwn hln, A3, fun lr t' H3 A4 kp4 hlr nlr => ?_⟩
    obtain ⟨hd4, hno4, nla⟩ := kp4 la _ (s3 _ _ hd) hno
    have hal := ans_len A.wf c
    have hlen : (c :: l).length = l.length + 1 := rfl
    refine ⟨_, rfl, .inl ⟨rfl, _, SqL.of hd4⟩, _, rfl, lr, _, rfl, .inl (SqL.of hlr), la, _, _, rfl, rfl, hd4, ?_, ?_⟩
    · rw [zs_len, sizeLine_eq]
      omega
    rw [zs_len, ← zs_snoc]
    have hlr5 : (upd H3 la (.lst (zs (done ++ [((ans (Kh309.doing ab c).2).length : Int)])))) lr = some (.lst (zs (ans (Kh309.doing ab c).2))) := (upd_ne nla.symm).trans hlr
    refine ⟨_, rfl, .inl ⟨rfl, _, SqL.of upd_same⟩, _, rfl, la, lr, _, _, rfl, rfl, upd_same, hlr5, ?_, ?_⟩
    · rw [zs_len, zs_len, List.length_append, sizeLine_eq]
      show done.length + 1 + _ ≤ _
      omega
    rw [← zs_append, upd_upd]
    refine ⟨_, rfl, l.length, by omega, i + 1 + (argsOf c).length, l, (Kh309.doing ab c).1, t', done ++ [((ans (Kh309.doing ab c).2).length : Int)] ++ ans (Kh309.doing ab c).2, some (.int (codeOf c : Int)), some (.int ((i : Int) + 1 + ((argsOf c).length : Int))), some (.ref lr), rfl, ?_, ?_, upd_same, hno4, fun b o e => ?_, r3, ?_, ?_⟩
    · have e : ((i + 1 + (argsOf c).length : Nat) : Int) = (i : Int) + 1 + ((argsOf c).length : Int) := by omega
      rw [e]
      rfl
    · exact TreeAt.updNot A4 hno4
    · obtain ⟨q1, q2, q3⟩ := kp b o e
      obtain ⟨u1, u2, u3⟩ := kp4 b o (s3 _ _ q1) q2
      exact ⟨(upd_ne q3).trans u1, u2, q3⟩
    · rw [← ho, out]
      simp only [List.append_assoc, List.cons_append, List.nil_append]
    · rw [List.length_append, List.length_append]
      show done.length + 1 + _ + _ ≤ _
      have : (l.length + 1) * 386 = l.length * 386 + 386 := by omega
      rw [hlen, this] at hb
      omega
where
  TreeAt.updNot {C : Addr} {H : Hp} {p : Addr} {t : Tr} {a : Abs} {l : Addr} {o : HO} (A : TreeAt C H p t a) (h : ¬ Own p t a l) : TreeAt C (upd H l o) p t a :=
    { A with
      ob := (upd_ne fun e => h (.inl e.symm)).trans A.ob
      hp := (upd_ne fun e => h (.inr (.inl e.symm))).trans A.hp
      hr := (upd_ne fun e => h (.inr (.inr (.inl e.symm)))).trans A.hr
      hs := (upd_ne fun e => h (.inr (.inr (.inr (.inl e.symm))))).trans A.hs
      lst := fun n hn => (upd_ne fun e => h (.inr (.inr (.inr (.inr ⟨n, hn, e.symm⟩))))).trans (A.lst n hn) }
def spAnswers (K : PySem.W.Frag) : Sp := fun vs H Q _ => ∃ (a : Addr) (ns : List Int), vs = [.ref a] ∧ SqL K H a (zs ns) ∧ PyKh309.answers_asked ns = true ∧ ∀ l H', H' l = some (.lst (zs (PyKh309.answers ns))) → Q (.ref l) H'
end TW
namespace L2
open PySem PySem.Spec PyProof.Rows
section
variable {X : Cx}
/-! ### xs.remove(y), flat items -/
theorem mt_remove : MtR X "list.remove" TW.rRemove := by
  intro pins s σ H x xs v us Q I rx rxs h
  obtain ⟨l, ys, y, j, z, rfl, rfl, hs, fy, fys, hz, hzj, hno, q⟩ := h
  cases rx
  obtain ⟨uy, rfl, ry⟩ := vals1 rxs
  obtain ⟨hsz, its, n, rv, hl, e⟩ := I.lstM hs
  obtain ⟨u, hu, ru⟩ := rv.get hz
  obtain ⟨hjl, hje⟩ := List.getElem?_eq_some_iff.mp hu
  have hj : j < its.toArray.size := by simpa using hjl
  refine call_meets PySem.F.slot_list_remove ⟨_, e, rfl⟩ PySem.F.entry_list_remove (PySem.F.args_list_remove_2 _ _)
    (MeetsSeq.list_remove l its.toArray n uy (eqU y) (fun u' hu' => ?_) j hj ?_ ?_ (by rw [List.size_toArray]; omega)) ⟨e, ?_⟩
  · intro prog w A E s' Q' hq
    exact mem_eqAt (A := A) (s := s') ry fy rv fys u' (by simpa using hu') prog w E Q' hq
  · have e1 : its.toArray[j] = u := by simpa using hje
    rw [e1, eqU_of ru (flat_at fys hz)]
    exact hzj
  · intro m hm hmj
    have hml : m < its.length := by simpa using hm
    have hmy : m < ys.length := by omega
    have hy' : ys[m]? = some ys[m] := List.getElem?_eq_getElem hmy
    obtain ⟨u2, hu2, ru2⟩ := rv.get hy'
    obtain ⟨_, hme⟩ := List.getElem?_eq_some_iff.mp hu2
    have e1 : its.toArray[m] = u2 := by simpa using hme
    rw [e1, eqU_of ru2 (flat_at fys hy')]
    exact hno m _ hmj hy'
  · refine ⟨.non, _, I.lset (its' := its.eraseIdx j) hs e ?_ (rv.eraseIdx j) ?_, rfl, q⟩
    · exact Array.toList_inj.mp (by simp [Array.toList_eraseIdxIfInBounds])
    · exact Nat.le_trans (len_erase ys j) hsz
end
end L2
namespace L2
open PySem PySem.Spec PyProof.Rows
section
variable {X : Cx}
/-! ### xs.extend(t), t a tuple -/
theorem ext_tup (l : Addr) (items : Array Value) (n : Nat) (b : Addr) (items2 : Array Value) (n2 : Nat) (dd : Option Addr) (sl : Array (Option Value)) (h0 : ¬(!items.isEmpty && Builtin.List.listTooLong (items.size + items2.size)) = true) (h1 : items.size ≤ sizeLine)
    (h2 : items.size + items2.size ≤ sizeLine + 1) :
    Meets (Builtin.«list.extend» ⟨[.ref l, .ref b], []⟩) (fun _ R s => s.heap.get? l = some { cls := .type "list", dict := none, data := .seq items n, slots := #[] } ∧ s.heap.get? b = some ⟨.type "tuple", dd, .seq items2 n2, sl⟩ ∧
      R (.ok (.ret Value.none)) { s with heap := s.heap.update l (Obj.mapSeq fun x => x ++ items2), toks := s.toks }) :=
  .of_wp fun prog w A R s h => by
    obtain ⟨hp, g, d, tk, os⟩ := s
    obtain ⟨hl, hb, h⟩ := h
    have f2 := AutoSeq1.sub_tuple_tuple
    have f4 := AutoSeq1.sub_tuple_list
    have f5 := AutoSeq1.sub_list_tuple
    have hz : (items ++ items2).size ≤ sizeLine + 1 := by rw [Array.size_append]; exact h2
    wp_walk using (wpAny_updateSeq hl rfl (hz := h1) (_hz' := hz)), AutoSeq1.wpAny_loadPart' hl, AutoSeq1.wpAny_loadPart' hb
    exact ⟨_, rfl, h⟩
theorem mt_extendT : MtM X "list.extend" (TW.rExtendT X.K) := by
  intro pins s σ H x vs v us Q I rx rv h
  obtain ⟨l, b, xs, zs, rfl, rfl, hH, hB, hz, q⟩ := h
  cases rx
  obtain ⟨u, rfl, ru⟩ := rv.one
  cases ru
  obtain ⟨z, its, n, r, hl, e⟩ := I.lstM hH
  obtain ⟨its2, r2, ⟨⟨cls, dd, data, sl⟩, e2, hc, n2, hd⟩, z2⟩ := I.tuple hB
  simp only at hc hd
  subst hc hd
  have hl2 := r2.length
  have hsz : its.toArray.size + its2.toArray.size ≤ sizeLine := by simp only [List.size_toArray]; omega
  have hlong : ¬ (!its.toArray.isEmpty && Builtin.List.listTooLong (its.toArray.size + its2.toArray.size)) = true := fun w => by
    rw [notLongL hsz, Bool.and_false] at w
    cases w
  refine call_meets F.slot_list_extend ⟨_, e, rfl⟩ F.entry_list_extend (F.args_list_extend_2 _ _) (ext_tup l its.toArray n b its2.toArray n2 dd sl hlong (by omega) (by omega)) ⟨e, e2, ?_⟩
  refine ⟨.non, _, I.lset (its' := its ++ its2) hH e (by simp) (r.append r2) ?_, rfl, q⟩
  rw [List.length_append]
  exact hz

/-! ### NUMBERS_BEHIND[..] -/
def tabObj (a0 a1 a2 a3 a4 a5 a6 a7 b0 b1 b2 b3 b4 b5 b6 b7 : Tok) (ep : Nat) : Obj := ⟨.type "dict", none, .dict #[⟨0, .int 0 a0, .int 0 b0⟩, ⟨1, .int 1 a1, .int 1 b1⟩, ⟨2, .int 2 a2, .int 1 b2⟩, ⟨3, .int 3 a3, .int 2 b3⟩,
  ⟨4, .int 4 a4, .int 1 b4⟩, ⟨5, .int 5 a5, .int 2 b5⟩, ⟨6, .int 6 a6, .int 0 b6⟩, ⟨7, .int 7 a7, .int 0 b7⟩] ep, #[]⟩
structure TabIn (K : PySem.W.Frag) (d : Addr) : Prop where
  ex : ∃ a0 a1 a2 a3 a4 a5 a6 a7 b0 b1 b2 b3 b4 b5 b6 b7 ep, K.lookup d = some (tabObj a0 a1 a2 a3 a4 a5 a6 a7 b0 b1 b2 b3 b4 b5 b6 b7 ep)
theorem tab_map {P : Program} {w : World} {h : Heap} {d : Addr} {a0 a1 a2 a3 a4 a5 a6 a7 b0 b1 b2 b3 b4 b5 b6 b7 : Tok} {ep : Nat} (e : h.get? d = some (tabObj a0 a1 a2 a3 a4 a5 a6 a7 b0 b1 b2 b3 b4 b5 b6 b7 ep)) :
    h.DictOf (mixKind P w) d [(.inl 0, .int 0 b0), (.inl 1, .int 1 b1), (.inl 2, .int 1 b2), (.inl 3, .int 2 b3), (.inl 4, .int 1 b4), (.inl 5, .int 2 b5), (.inl 6, .int 0 b6), (.inl 7, .int 0 b7)] := by
  refine ⟨_, _, _, e, ⟨rfl, rfl, rfl⟩, rfl, ?_, ?_, ?_⟩
  · intro x hx
    simp only [List.mem_toArray, List.mem_cons, List.not_mem_nil, or_false] at hx
    rcases hx with rfl | rfl | rfl | rfl | rfl | rfl | rfl | rfl
    · exact ⟨.inl 0, keyIs_int 0 a0, rfl⟩
    · exact ⟨.inl 1, keyIs_int 1 a1, rfl⟩
    · exact ⟨.inl 2, keyIs_int 2 a2, rfl⟩
    · exact ⟨.inl 3, keyIs_int 3 a3, rfl⟩
    · exact ⟨.inl 4, keyIs_int 4 a4, rfl⟩
    · exact ⟨.inl 5, keyIs_int 5 a5, rfl⟩
    · exact ⟨.inl 6, keyIs_int 6 a6, rfl⟩
    · exact ⟨.inl 7, keyIs_int 7 a7, rfl⟩
  · exact .cons (keyIs_int 0 a0) rfl (.cons (keyIs_int 1 a1) rfl (.cons (keyIs_int 2 a2) rfl (.cons (keyIs_int 3 a3) rfl (.cons (keyIs_int 4 a4) rfl (.cons (keyIs_int 5 a5) rfl (.cons (keyIs_int 6 a6) rfl (.cons (keyIs_int 7 a7) rfl .nil)))))))
  · simp
theorem tab_at {b0 b1 b2 b3 b4 b5 b6 b7 : Tok} {n : Nat} (hn : n < 8) : ∃ t, valueAt ([(.inl 0, .int 0 b0), (.inl 1, .int 1 b1), (.inl 2, .int 1 b2), (.inl 3, .int 2 b3), (.inl 4, .int 1 b4), (.inl 5, .int 2 b5), (.inl 6, .int 0 b6), (.inl 7, .int 0 b7)] : List (Key × Value)) (.inl (n : Int)) =
    some (.int (TW.behindOf n : Int) t) := by
  match n, hn with
  | 0, _ => exact ⟨b0, rfl⟩
  | 1, _ => exact ⟨b1, rfl⟩
  | 2, _ => exact ⟨b2, rfl⟩
  | 3, _ => exact ⟨b3, rfl⟩
  | 4, _ => exact ⟨b4, rfl⟩
  | 5, _ => exact ⟨b5, rfl⟩
  | 6, _ => exact ⟨b6, rfl⟩
  | 7, _ => exact ⟨b7, rfl⟩
  | n + 8, h => exact absurd h (by omega)
theorem pe_tab {i : Expr} {x : Str} {p pos : Pos} {d : Addr} {ty : TE} (T : TabIn X.K d) (hg : Gl X x) (hm : X.mg x = some (.ref d)) (hi : PE X i ty) (hs : NoSl i) (hdb : (x == ("__debug__" : Str)) = false := by decide) : PE X (.Subscript (.Name x p) i pos) (TW.tTab ty) := by
  intro pins s σ H Q I h
  obtain ⟨a0, a1, a2, a3, a4, a5, a6, a7, b0, b1, b2, b3, b4, b5, b6, b7, ep, hk⟩ := T.ex
  refine subD_of PySem.F.slot_dict_getitem.lookup hs (ld_glob I hg hm (thn (hi pins s σ H _ I h) fun iv s2 ⟨y, H2, I2, ry, n, hn, ey, q⟩ => ?_) hdb)
  subst ey
  have dd := tab_map (P := X.prog) (w := X.w) (I2.kIn d _ hk)
  obtain ⟨t, ht⟩ := tab_at (b0 := b0) (b1 := b1) (b2 := b2) (b3 := b3) (b4 := b4) (b5 := b5) (b6 := b6) (b7 := b7) hn
  exact ⟨dd.typeIs, wpAny_getItem_of (kV_is (k := .inl (n : Int)) ry) dd.mapOf ht ⟨.int (TW.behindOf n : Int), H2, I2.tok _, ⟨t, rfl⟩, q⟩⟩
end
end L2
namespace L2
open PySem PySem.Spec PyProof.Rows
/-! ### list(reversed(e)): a list laid anew, filled out of an iterator that walks another list from its end -/
theorem rv_names : typeLookup (.type "list_reverseiterator") "__len__" = pure none ∧ typeLookup (.type "list_reverseiterator") "__length_hint__" = pure (some (.builtin "list_reverseiterator.__length_hint__")) := by
  constructor <;> (rw [typeLookup_type, builtinLookup_eq_fast]; kernel_rfl)
section
variable {prog : Program} {w : World} {A : Around} {E : Value → Shared → Prop} {s : Shared}
abbrev fromEnd (items : Array Value) : Nat → Value → Prop := fun i v => items[items.size - 1 - i]? = some v
/-- an empty list that has been changed c times -/
abbrev bareL (c : Nat) : Obj := { cls := .type "list", data := .seq #[] c }
/-- a list of these items -/
abbrev fullL (vs : Array Value) (c : Nat) : Obj := { cls := .type "list", dict := none, data := .seq vs c, slots := #[] }
/-- the iterator `it` stands at the end of `l`, whose items these are -/
structure AtEnd (h : Heap) (it l : Addr) (items : Array Value) : Prop where
  iter : h.IsRevIter it l ((items.size : Int) - 1)
  list : h.IsList l items
  apart : l ≠ it
theorem AtEnd.keeps {h h' : Heap} {it l : Addr} {items : Array Value} (a : AtEnd h it l items) {S : Addr} (hi : it ≠ S) (hl : l ≠ S) (k : ∀ b o, b ≠ S → h.get? b = some o → h'.get? b = some o) : AtEnd h' it l items :=
  ⟨a.iter.at fun o e => k _ o hi e, a.list.at fun o e => k _ o hl e, a.apart⟩
theorem AtEnd.below {h : Heap} {it l : Addr} {items : Array Value} (a : AtEnd h it l items) : it < h.objs.size ∧ l < h.objs.size :=
  ⟨a.iter.elim fun _ q => Heap.lt_size q.1, a.list.elim fun _ q => Heap.lt_size q.1⟩
/-- asked for its length such an iterator makes no room ahead -/
theorem AtEnd.hint {it l : Addr} {items : Array Value} (a : AtEnd s.heap it l items) {Q : Bool → Shared → Prop} (q : Q false s) : wpAny (model prog w) A (Builtin.List.listLengthHint (.ref it)) Q E s := by
  have ty := a.iter.typeIs
  refine wpAny_bind (wpAny_specialOf ty rv_names.1 (wpAny_bind (wpAny_specialOf ty rv_names.2 ?_)))
  generalize hid : ("list_reverseiterator.__length_hint__" : String) = id0
  wp_delta
  rw [show splitId id0 = some ("list_reverseiterator", "__length_hint__") from by subst hid; decide +kernel]
  subst hid
  exact wpAny_bind (wpAny_isInstance (b := true) ty (by rw [isSubtype_type]; kernel_rfl) (wpAny_pure q))
/-- what is left to do once a built-in's row has ended -/
abbrev Onward (prog : Program) (w : World) (A : Around) (R : Result → Shared → Prop) : PySem.Fin → Shared → Prop
  | .done f, s => R (.ok f) s
  | .again c, s => c.quiet = true ∧ codeAny (model prog w) A c R s
/-- `S` filled from the end of `l`; all but `S` and the iterator stays -/
abbrev FilledBy (s : Shared) (it S : Addr) (items : Array Value) (R : Shared → Prop) : Prop :=
  ∀ h tk vs c, (∀ b o, b ≠ S → b ≠ it → s.heap.get? b = some o → h.get? b = some o) → h.get? S = some (fullL vs c) → ItemsOf (fromEnd items) vs items.size → R { s with heap := h, toks := tk }
theorem AtEnd.fill {R : Result → Shared → Prop} {it l S : Addr} {items : Array Value} {res : Value} {c : Nat} (a : AtEnd s.heap it l items) (calm : A.handled = none) (small : items.size ≤ sizeLine) (e : s.heap.get? S = some (bareL c)) (hi : it ≠ S) (hl : l ≠ S)
    (k : FilledBy s it S items (R (.ok (.ret res)))) : wpAny (model prog w) A.in1 (Builtin.List.listExtendWith (.ref S) (.ref it) res) (Onward prog w A R) (fun x s' => R (.error x) s') s := by
  have loop : codeAny (model prog w) A (.builtin "list.extend.loop" ⟨[.ref S, .ref it, res], []⟩) R s :=
    codeAny_extend_loopS (Walks.listRev (A := A.in1) calm it l a.apart items).toS small S (by simp [hi.symm, hl.symm]) res items.size 0 s #[] c rfl (Nat.zero_le _) ⟨Nat.zero_le _, by simpa using a.iter, a.list⟩ e (ItemsOf.nil _) fun s' vs c' mv e' its => by
      rw [Moved.eq_with mv]
      exact k _ _ vs c' (fun b o n1 n2 => mv.heap b o (by simp [n1, n2])) e' its
  have other : Builtin.List.listSameRef (.ref S) (.ref it) = false := by simp [Builtin.List.listSameRef, hi.symm]
  refine wpAny_bind (wpAny_typeOf a.iter.typeIs ?_)
  rw [other]
  exact wpAny_bind (wpAny_pyIter_revIter a.iter (wpAny_bind (wpAny_holding (a.hint (wpAny_pure ⟨plainId_quiet F.plain_extend_loop _, loop⟩)))))
/-- list(it) -/
theorem AtEnd.listed {it l : Addr} {items : Array Value} {Q : Value → Shared → Prop} (a : AtEnd s.heap it l items) (calm : A.handled = none) (small : items.size ≤ sizeLine)
    (k : ∀ h tk vs c, (∀ b o, b ≠ it → s.heap.get? b = some o → h.get? b = some o) → h.get? s.heap.objs.size = some (fullL vs c) → ItemsOf (fromEnd items) vs items.size → Q (.ref s.heap.objs.size) { s with heap := h, toks := tk }) : wpAny (model prog w) A (call (.type "list") [.ref it]) Q E s := by
  refine callType_codes (Q₁ := fun v t => v = .ref s.heap.objs.size ∧ t = { s with heap := s.heap.push (bareL 0) }) F.called_list (F.typeCall_list_1 _) F.entry_list_init (code_list_new _ ⟨rfl, rfl⟩) ?_
  rintro _ _ ⟨rfl, rfl⟩
  have new : (s.heap.push (bareL 0)).get? s.heap.objs.size = some (bareL 0) := Heap.get?_push_size _ rfl
  have grown : ∀ b o, s.heap.get? b = some o → b ≠ s.heap.objs.size ∧ (s.heap.push (bareL 0)).get? b = some o := fun b o e => ⟨Nat.ne_of_lt (Heap.lt_size e), Heap.get?_push_of_some _ e⟩
  have emptied : ∀ b o, b ≠ s.heap.objs.size → (s.heap.push (bareL 0)).get? b = some o → ((s.heap.push (bareL 0)).update s.heap.objs.size (Obj.mapSeq fun _ => #[])).get? b = some o := fun b o n e => (Heap.get?_update_other _ _ n.symm).trans e
  obtain ⟨bi, bl⟩ := a.below
  have a' : AtEnd ((s.heap.push (bareL 0)).update s.heap.objs.size (Obj.mapSeq fun _ => #[])) it l items :=
    a.keeps (Nat.ne_of_lt bi) (Nat.ne_of_lt bl) fun b o n e => emptied b o n (grown b o e).2
  refine ⟨⟨_, new, rfl⟩, F.args_list_init_2 _ _, wpAny_bind (wpAny_bind (wpAny_seqItems new rfl (wpAny_pure (wpAny_bind (wpAny_updateSeq new rfl (wpAny_bind (wpAny_letGo ?_)))))))⟩
  obtain ⟨c1, e0⟩ : ∃ c1, ((s.heap.push (bareL 0)).update s.heap.objs.size (Obj.mapSeq fun _ => #[])).get? s.heap.objs.size = some (bareL c1) := ⟨_, Heap.get?_update_self _ new rfl⟩
  refine wpAny_mono (AtEnd.fill (A := A.in1) (R := wants (fun r t => r = .none ∧ Q (.ref s.heap.objs.size) t) E) (s := { s with heap := (s.heap.push (bareL 0)).update s.heap.objs.size (Obj.mapSeq fun _ => #[]) }) a' calm small e0 (Nat.ne_of_lt bi) (Nat.ne_of_lt bl) fun h tk vs c kept e its => ?_)
    (fun f t q => by cases f <;> exact q) fun _ _ q => q
  exact ⟨rfl, k h tk vs c (fun b o n e' => kept b o (grown b o e').1 n (emptied b o (grown b o e').1 (grown b o e').2)) e its⟩
end
section
variable {X : Cx}
theorem boot_list9 : bootBuiltins "list" = some (.type "list") := by decide +kernel
/-- list(reversed(e)) -/
theorem pe_listrev {e : Expr} {te : TE} {p p2 pos pos2 : Pos} (hc : X.calm = true) (hg : Gl X "list") (hm : X.mg "list" = none) (hg2 : Gl X "reversed") (hm2 : X.mg "reversed" = none) (he : PE X e te)
    (hs : starEach [e] X.env = [(false, eval e X.env)] := by rfl) (hs2 : starEach [.Call (.Name "reversed" p2) [e] [] pos2] X.env = [(false, eval (.Call (.Name "reversed" p2) [e] [] pos2) X.env)] := by rfl) :
    PE X (.Call (.Name "list" p) [.Call (.Name "reversed" p2) [e] [] pos2] [] pos) (TW.tListRev X.K te) := by
  intro pins s σ H Q I h
  refine wpAny_Call_Name_kw (ld_blt I hg hm boot_list9 ?_)
  refine PyProof.Rows.callWith_type1 ?_ hs2 rfl
  rw [hs2]
  refine Calls.spliced_cons ?_
  refine Call_ (ld_blt I hg2 hm2 boot_reversed5 (PyProof.Rows.callWith_type1 ?_ hs rfl))
  rw [hs]
  refine Calls.spliced_cons (thn (he pins s σ H _ I h) fun u s1 ⟨x, H1, I1, rx, a, xs, ex, hq, q⟩ => ?_)
  subst ex
  cases rx
  refine Calls.spliced_nil ?_
  obtain ⟨its, rv, p', hz⟩ := I1.list hq
  have hlen := rv.length
  refine call_reversed_list p'.isList ?_
  refine Calls.spliced_nil ?_
  have hl0 := p'.isList
  have hla : a < s1.heap.objs.size := by
    obtain ⟨o, ho, _⟩ := hl0
    exact Heap.lt_size ho
  refine AtEnd.listed (s := { s1 with heap := s1.heap.push (revObj a ((its.toArray.size : Int) - 1)) }) (it := s1.heap.objs.size) (l := a) (items := its.toArray) ⟨⟨_, Heap.get?_push_size _ rfl, rfl, rfl⟩, hl0.at fun o e => Heap.get?_push_of_some _ e, Nat.ne_of_lt hla⟩ (I.ok.hd hc) (by rw [List.size_toArray]; omega) fun h' tk acc' c' hk hS' hacc => ?_
  have hsz : (s1.heap.push (revObj a ((its.toArray.size : Int) - 1))).objs.size = s1.heap.objs.size + 1 := Heap.size_push ..
  have keep : ∀ b o, s1.heap.get? b = some o → h'.get? b = some o := fun b o e => hk b o (Nat.ne_of_lt (Heap.lt_size e)) (Heap.get?_push_of_some _ e)
  have hrev : acc' = its.reverse.toArray := by
    apply Array.toList_inj.mp
    apply List.ext_getElem?
    intro i
    have h1 : acc'.size = its.length := by rw [hacc.1, List.size_toArray]
    by_cases hi : i < its.length
    · obtain ⟨v, hv⟩ : ∃ v, acc'[i]? = some v := ⟨_, Array.getElem?_eq_getElem (by omega)⟩
      have hb : its.toArray[its.length - 1 - i]? = some v := hacc.2 i v hv
      have e1 : acc'.toList[i]? = some v := by rw [Array.getElem?_toList]; exact hv
      rw [e1, ← hb]
      show its.toArray[its.length - 1 - i]? = its.reverse[i]?
      rw [List.getElem?_reverse hi]
      simp
    · rw [List.getElem?_eq_none (by rw [Array.length_toList]; omega), List.getElem?_eq_none (by simp; omega)]
  subst hrev
  have hfr : H1 (s1.heap.push (revObj a ((its.toArray.size : Int) - 1))).objs.size = none := I1.hok.fresh (by rw [hsz]; exact Nat.le_succ _)
  refine ⟨.ref (s1.heap.push (revObj a ((its.toArray.size : Int) - 1))).objs.size, upd H1 (s1.heap.push (revObj a ((its.toArray.size : Int) - 1))).objs.size (.lst xs.reverse), ?_, rfl, q _ hfr⟩
  exact I1.laid (t' := tk) keep (by rw [hsz]; exact Nat.le_succ _) ⟨by rw [List.length_reverse]; exact hz, its.reverse, c', rv.reverse, hS'⟩
end
end L2
namespace L2
open PySem PySem.Spec PyProof.Rows
/-- the keyword default -/
abbrev kwD (d : Value) : List (Str × Value) := [(Str.ofString "default", d)]
section
variable {prog : Program} {w : World} {A : Around} {R : Result → Shared → Prop} {it : Addr} {fp wr : List Addr} {n : Nat} {P : Nat → Value → Prop} {St : Nat → Heap → Prop}
abbrev bestAt (v : Value) (c : Nat) : Obj := { cls := .type "list", dict := none, data := .seq #[v, v] c, slots := #[] }
/-- a turn of max's own loop is its body -/
theorem max_enter {args : Args} {s : Shared} (h : wpAny (model prog w) A.in1 (Builtin.«max.loop» args) (Onward prog w A R) (fun e t => R (.error e) t) s) : codeAny (model prog w) A (.builtin "max.loop" args) R s :=
  codeAny_builtin PySem.F.entry_max_loop (by
    rw [Around.under_plainId PySem.F.plain_max_loop args]
    exact wpAny_mono h (fun f t q => by cases f <;> exact q) fun _ _ q => q)
theorem mx_name : (toString "max" ++ toString ".loop" : String) = "max.loop" := by decide
theorem maxD_loop (W : Walks prog w A.in1 it fp wr n P St) (bt : Nat → Nat → Bool) (hcmp : CmpOf prog w A.in1 .Gt P bt) (b : Addr) (hbf : b ∉ fp) (d : Value) :
    ∀ (k j : Nat) (s : Shared) (v : Value) (c : Nat), n - (j + 1) = k → j + 1 ≤ n → St (j + 1) s.heap → P (argBest bt j) v → s.heap.get? b = some (bestAt v c) →
    (∀ v h' tk, P (argBest bt (n - 1)) v → (∀ a o, a ∉ wr → a ≠ b → s.heap.get? a = some o → h'.get? a = some o) → R (.ok (.ret v)) { s with heap := h', toks := tk }) →
    codeAny (model prog w) A (.builtin "max.loop" ⟨[.ref it, .none, .ref b], kwD d⟩) R s := by
  have hbw : b ∉ wr := fun hw => hbf (W.sub _ hw)
  intro k
  induction k with
  | zero =>
    intro j s v c hk hj st hv hb fin
    have ej : j + 1 = n := by omega
    refine max_enter (show wpAny _ A.in1 (seqItems? (.ref b) >>= _) _ _ s from ?_)
    refine wpAny_bind (wpAny_seqItems hb rfl ?_)
    show wpAny _ A.in1 (tryCatch (pyNext (.ref it)) _ >>= _) _ _ s
    refine wpAny_bind (wpAny_tryCatch (W.done s _ _ (ej ▸ st) fun h1 t1 kp => ?_))
    have hb1 := kp b _ hbw hb
    show wpAny _ A.in1 (updateSeq b (fun _ => #[]) >>= _) _ _ _
    refine wpAny_bind (wpAny_updateSeq hb1 rfl (wpAny_bind (wpAny_letGo (wpAny_pure ?_))))
    refine fin v _ t1 (by rw [← ej]; exact hv) fun a o ha hab e => ?_
    exact (Heap.get?_update_other _ _ (Ne.symm hab)).trans (kp a o ha e)
  | succ k ih =>
    intro j s v c hk hj st hv hb fin
    have lt : j + 1 < n := by omega
    refine max_enter (show wpAny _ A.in1 (seqItems? (.ref b) >>= _) _ _ s from ?_)
    refine wpAny_bind (wpAny_seqItems hb rfl ?_)
    show wpAny _ A.in1 (tryCatch (pyNext (.ref it)) _ >>= _) _ _ s
    refine wpAny_bind (wpAny_tryCatch (W.item (j + 1) s _ _ lt st fun u h1 t1 hu st1 kp => ?_))
    have hb1 := kp b _ hbw hb
    show wpAny _ A.in1 (tryCatch (holding [u, u] (richCompare .Gt u v >>= _)) _ >>= _) _ _ _
    refine wpAny_bind (wpAny_tryCatch (wpAny_holding (wpAny_bind (hcmp (j + 1) (argBest bt j) u v _ _ _ hu hv ?_))))
    refine wpAny_bind (wpAny_holding (wpAny_truthy_bool (wpAny_bind (wpAny_letGo (wpAny_pure ?_)))))
    cases hbt : bt (j + 1) (argBest bt j) with
    | true =>
      simp only [if_true]
      refine wpAny_bind (wpAny_updateSeq hb1 rfl (wpAny_bind (wpAny_letGo ?_)))
      rw [mx_name]
      have fr : ∀ a o, a ≠ b → h1.get? a = some o → (h1.update b (Obj.mapSeq fun _ => #[u, u])).get? a = some o := fun a o ha e => (Heap.get?_update_other _ _ (Ne.symm ha)).trans e
      refine wpAny_pure ⟨plainId_quiet PySem.F.plain_max_loop _, ih (j + 1) _ u _ (by omega) lt (W.frame _ _ _ st1 fun a ha o e => fr a o (fun z => hbf (z ▸ ha)) e) ?_ (Heap.get?_update_self _ hb1 rfl) fun u' h2 t2 hu' kp2 => ?_⟩
      · simp only [argBest, hbt, if_true]
        exact hu
      · exact fin u' h2 t2 hu' fun a o ha hab e => kp2 a o ha hab (fr a o hab (kp a o ha e))
    | false =>
      rw [if_neg Bool.false_ne_true]
      refine wpAny_bind (wpAny_letGo ?_)
      rw [mx_name]
      refine wpAny_pure ⟨plainId_quiet PySem.F.plain_max_loop _, ih (j + 1) _ v c (by omega) lt st1 ?_ hb1 fun u' h2 t2 hu' kp2 => ?_⟩
      · simp only [argBest, hbt, Bool.false_eq_true, if_false]
        exact hv
      · exact fin u' h2 t2 hu' fun a o ha hab e => kp2 a o ha hab (kp a o ha e)
theorem maxD_first (W : Walks prog w A.in1 it fp wr n P St) (bt : Nat → Nat → Bool) (hcmp : CmpOf prog w A.in1 .Gt P bt) (b : Addr) (hbf : b ∉ fp) (d : Value) {s : Shared} {c : Nat} (st : St 0 s.heap)
    (hb : s.heap.get? b = some { cls := .type "list", dict := none, data := .seq #[] c, slots := #[] })
    (fin0 : n = 0 → ∀ h' tk, (∀ a o, a ∉ wr → a ≠ b → s.heap.get? a = some o → h'.get? a = some o) → R (.ok (.ret d)) { s with heap := h', toks := tk })
    (fin : 0 < n → ∀ v h' tk, P (argBest bt (n - 1)) v → (∀ a o, a ∉ wr → a ≠ b → s.heap.get? a = some o → h'.get? a = some o) → R (.ok (.ret v)) { s with heap := h', toks := tk }) :
    codeAny (model prog w) A (.builtin "max.loop" ⟨[.ref it, .none, .ref b], kwD d⟩) R s := by
  have hbw : b ∉ wr := fun hw => hbf (W.sub _ hw)
  refine max_enter (show wpAny _ A.in1 (seqItems? (.ref b) >>= _) _ _ s from ?_)
  refine wpAny_bind (wpAny_seqItems hb rfl ?_)
  show wpAny _ A.in1 (tryCatch (pyNext (.ref it)) _ >>= _) _ _ s
  by_cases hn : n = 0
  · refine wpAny_bind (wpAny_tryCatch (W.done s _ _ (hn ▸ st) fun h1 t1 kp => ?_))
    exact wpAny_bind (wpAny_rule (wpAny_pure (fin0 hn h1 t1 fun a o ha _ e => kp a o ha e)))
  · refine wpAny_bind (wpAny_tryCatch (W.item 0 s _ _ (Nat.pos_of_ne_zero hn) st fun u h1 t1 hu st1 kp => ?_))
    have hb1 := kp b _ hbw hb
    show wpAny _ A.in1 (updateSeq b (fun _ => #[u, u]) >>= _) _ _ _
    refine wpAny_bind (wpAny_updateSeq hb1 rfl ?_)
    rw [mx_name]
    have fr : ∀ a o, a ≠ b → h1.get? a = some o → (h1.update b (Obj.mapSeq fun _ => #[u, u])).get? a = some o := fun a o ha e => (Heap.get?_update_other _ _ (Ne.symm ha)).trans e
    refine wpAny_pure ⟨plainId_quiet PySem.F.plain_max_loop _, maxD_loop W bt hcmp b hbf d _ 0 _ u _ rfl (Nat.pos_of_ne_zero hn) (W.frame _ _ _ st1 fun a ha o e => fr a o (fun z => hbf (z ▸ ha)) e) hu (Heap.get?_update_self _ hb1 rfl) fun u' h2 t2 hu' kp2 => ?_⟩
    exact fin (Nat.pos_of_ne_zero hn) u' h2 t2 hu' fun a o ha hab e => kp2 a o ha hab (fr a o hab (kp a o ha e))
end
theorem args_maxD (a d : Value) : argsOk "max" ⟨[a], kwD d⟩ := by
  unfold argsOk
  kernel_rfl
section
variable {prog : Program} {w : World} {A : Around} {E : Value → Shared → Prop} {s : Shared}
theorem maxD_walk {x d : Value} {Q : Value → Shared → Prop}
    (h : wpAny (model prog w) A.in1 (pyIter x) (fun v s2 => ∃ it fp wr n P St bt, v = .ref it ∧ Walks prog w A.in1 it fp wr n P St ∧ St 0 s2.heap ∧ (∀ a ∈ fp, a < s2.heap.objs.size) ∧ CmpOf prog w A.in1 .Gt P bt ∧
      (n = 0 → ∀ h' tk, (∀ a o, a ∉ wr → s2.heap.get? a = some o → h'.get? a = some o) → Q d { s2 with heap := h', toks := tk }) ∧
      (0 < n → ∀ v h' tk, P (argBest bt (n - 1)) v → (∀ a o, a ∉ wr → s2.heap.get? a = some o → h'.get? a = some o) → Q v { s2 with heap := h', toks := tk })) E s) :
    wpAny (model prog w) A (call (.builtin "max") [x] (kwD d)) Q E s := by
  refine PyProof.Rows.kmk_tree PySem.F.kind_max PySem.F.plain_max PySem.F.entry_max (args_maxD _ _) ?_
  show wpAny _ A.in1 (Builtin.Builtins.bindParams "max" ["key", "default"] 0 ⟨[], kwD d⟩ >>= _) _ _ s
  refine wpAny_bind (wpAny_of_eq (show Builtin.Builtins.bindParams "max" ["key", "default"] 0 ⟨[], kwD d⟩ = pure [none, some d] from rfl) ?_)
  refine wpAny_bind (wpAny_pure (wpAny_bind (wpAny_mono h (fun v s2 hq => ?_) fun _ _ e => e)))
  obtain ⟨it, fp, wr, n, P, St, bt, rfl, W, st, hfp, hcmp, q0, q1⟩ := hq
  have hbf : s2.heap.objs.size ∉ fp := fun hm => Nat.lt_irrefl _ (hfp _ hm)
  have gr : ∀ (h' : Heap), (∀ a o, a ∉ wr → a ≠ s2.heap.objs.size → (s2.heap.push { cls := .type "list", data := .seq ([] : List Value).toArray }).get? a = some o → h'.get? a = some o) → ∀ a o, a ∉ wr → s2.heap.get? a = some o → h'.get? a = some o := fun h' kp a o ha e =>
    kp a o ha (Nat.ne_of_lt (Heap.lt_size e)) (Heap.get?_push_of_some _ e)
  refine wpAny_bind (wpAny_newObj_type (by
    rw [mx_name]
    exact wpAny_pure ⟨plainId_quiet PySem.F.plain_max_loop _, maxD_first W bt hcmp s2.heap.objs.size hbf d (W.frame _ _ _ st fun a _ o e => Heap.get?_push_of_some _ e) (Heap.get?_push_size _ rfl) (fun hn h' tk kp => q0 hn h' tk (gr h' kp)) fun hn v h' tk hv kp => q1 hn v h' tk hv (gr h' kp)⟩))
theorem maxD_ints {l : Addr} {its : List Value} {ns : List Int} {d : Value} {Q : Value → Shared → Prop} (hh : A.handled = none) (hl : s.heap.IsList l its.toArray) (hi : IntsAre its ns)
    (h0 : ns = [] → ∀ h' tk, (∀ b o, s.heap.get? b = some o → h'.get? b = some o) → Q d { s with heap := h', toks := tk })
    (h1 : ∀ h' tk M t', (∀ b o, s.heap.get? b = some o → h'.get? b = some o) → M ∈ ns → (∀ a, a ∈ ns → a ≤ M) → Q (.int M t') { s with heap := h', toks := tk }) : wpAny (model prog w) A (call (.builtin "max") [.ref l] (kwD d)) Q E s := by
  obtain ⟨xs, e⟩ := hi.allInts.items
  have hn : numsOf (intItems xs).toList = ns := by rw [← e]; exact hi.numsOf
  rw [nums_intItems] at hn
  subst hn
  rw [e] at hl
  refine maxD_walk (iter_intList hl fun s2 e2 st hfp hlI => ?_)
  subst e2
  have many : (intItems xs).size = xs.size := by simp [intItems]
  refine ⟨_, _, _, _, _, _, _, rfl, Walks.list (A := A.in1) hh _ l hlI (intItems xs), st, hfp, CmpOf.ints_gt (numAt xs) (fun _ _ => intItems_at), fun hz h' tk hk => ?_, fun hz v h' tk hv hk => ?_⟩
  · refine h0 ?_ h' tk (old_kept hk)
    rw [many] at hz
    exact List.length_eq_zero_iff.mp (by rw [List.length_map, Array.length_toList, hz])
  · rw [many] at hz
    have hv' : (intItems xs)[argBest (fun i j => decide (numAt xs i > numAt xs j)) (xs.size - 1)]? = some v := by simpa [intItems] using hv
    obtain ⟨t, rfl⟩ := intItems_at hv'
    obtain ⟨g1, g2⟩ := argBest_gt (numAt xs) (xs.size - 1)
    refine h1 h' tk _ t (old_kept hk) ?_ fun a ha => ?_
    · rw [numAt_eq]
      exact PySem.getD_mem (by rw [List.length_map, Array.length_toList]; omega)
    · obtain ⟨j, hj, rfl⟩ := mem_getD ha
      rw [List.length_map, Array.length_toList] at hj
      rw [← numAt_eq]
      exact g2 j (by omega)
end
section
variable {X : Cx}
theorem boot_max9 : bootBuiltins "max" = some (.builtin "max") := by decide +kernel
/-- max(e, default=f) -/
theorem pe_maxD {e f : Expr} {te tf : TE} {p pos kp : Pos} (hc : X.calm = true) (hg : Gl X "max") (hm : X.mg "max" = none) (he : PE X e te) (hf : PE X f tf) (hs : starEach [e] X.env = [(false, eval e X.env)] := by rfl)
    (hk : (backToKw pos (keywordEach [⟨some "default", f, kp⟩] X.env)).filterMap (·.1) = [Str.ofString "default"] := by rfl) :
    PE X (.Call (.Name "max" p) [e] [⟨some "default", f, kp⟩] pos) (TW.tMaxD X.K te tf) := by
  intro pins s σ H Q I h
  refine wpAny_Call_Name_kw (ld_blt I hg hm boot_max9 ?_)
  refine PyProof.Rows.callWith_kw ?_ (by rw [hs]; rfl) (by rw [hs]; rfl)
  rw [hs, hk]
  refine Calls.spliced_cons (thn (he pins s σ H _ I h) fun u s1 ⟨x, H1, I1, rx, q1⟩ => Calls.spliced_nil ?_)
  show wpAny _ _ (evalAll [(do let v ← eval f X.env; standAt pos; pure v)]) _ _ s1
  refine wpAny_evalAll_cons (wpAny_bind (thn (hf pins s1 σ H1 _ I1 q1) fun v s2 ⟨y, H2, I2, ry, a, ns, ex, hq, q0, q⟩ => wpAny_bind (wpAny_standAt (wpAny_pure (wpAny_evalAll_nil ?_)))))
  subst ex
  cases rx
  obtain ⟨its, rv, hl, _⟩ := I2.list hq
  exact maxD_ints (I.ok.hd hc) hl.isList rv.ints (fun hn h' tk kp => ⟨y, H2, I2.kept kp, ry, q0 hn⟩) fun h' tk M t' kp g1 g2 => ⟨.int M, H2, I2.kept kp, ⟨t', rfl⟩, q M g1 g2⟩
end
end L2
namespace TW
open PySem L2 WT
open Kh309 (Abs Call)
/-! ### the text by places -/
def top (i : Nat) : Stmt := PySem.Challenge.pw_walktree_s01_answers.main.body.getD i (.Pass ⟨0, 0, 0, 0⟩)
abbrev sMoved : Stmt := top 19
abbrev sLeast : Stmt := top 20
abbrev sJoined : Stmt := top 21
abbrev sDrawing : Stmt := inClass (top 22) 0
abbrev sDrawn : Stmt := top 23
abbrev sTree (j : Nat) : Stmt := inClass (top 24) j
abbrev sAnswer : Stmt := top 25
abbrev sAnswers : Stmt := top 26
/-! ### the module's numbers -/
structure Gls (mg : Str → Option Value) : Prop where
  root : ∃ t, mg "ROOT" = some (.int 0 t)
  most : ∃ t, mg "MOST_NODES" = some (.int 128 t)
  near : ∃ t, mg "NEAREST" = some (.int 2 t)
  nthere : ∃ t, mg "NOT_THERE" = some (.int (-2) t)
  nallow : ∃ t, mg "NOT_ALLOWED" = some (.int (-22) t)
  noroom : ∃ t, mg "NO_ROOM" = some (.int (-28) t)
  g0 : ∃ t, mg "BEGIN" = some (.int 0 t)
  g1 : ∃ t, mg "ADD" = some (.int 1 t)
  g2 : ∃ t, mg "DROP" = some (.int 2 t)
  g3 : ∃ t, mg "FOLD" = some (.int 3 t)
  g4 : ∃ t, mg "GO" = some (.int 4 t)
  g5 : ∃ t, mg "PICK" = some (.int 5 t)
  g6 : ∃ t, mg "AT" = some (.int 6 t)
  up : ∃ t, mg "UP" = some (.int 0 t)
  down : ∃ t, mg "DOWN" = some (.int 1 t)
  onw : ∃ t, mg "ONWARD" = some (.int 2 t)
  back : ∃ t, mg "BACK" = some (.int 3 t)
  len : mg "len" = none
  zip : mg "zip" = none
  max : mg "max" = none
  min : mg "min" = none
  rev : mg "reversed" = none
  list : mg "list" = none
theorem pgl {X : Cx} {x : Str} {i : Int} {pos : Pos} (h : ∃ t, X.mg x = some (.int i t)) (hg : Gl X x := by rfl) (hd : (x == ("__debug__" : Str)) = false := by decide) : PE X (.Name x pos) (tC (.int i)) :=
  let ⟨t, e⟩ := h
  pe_glob hg e ⟨t, rfl⟩ hd
theorem p_len {X : Cx} {e : Expr} {te : TE} {p pos : Pos} (h : X.mg "len" = none) (he : PE X e te) (hg : Gl X "len" := by rfl) (hs : starEach [e] X.env = (false, eval e X.env) :: starEach [] X.env := by rfl) (hs2 : (backTo pos (starEach [] X.env)).any (·.1) = false := by rfl) :
    PE X (.Call (.Name "len" p) [e] [] pos) (tLen X.K te) := pe_callB call_len_seq hg h PySem.boot_len (pa_cons he pa_nil hs) (he := hs) (hpl := hs2)
section
variable {P : Program} {w : World} {K : PySem.W.Frag} {mg : Str → Option Value} {base : Heap}
theorem scMoved : FnScope ["outline", "move", "left", "right"] ["outline", "move"] (defScope sMoved) := ⟨rfl, rfl, rfl, by decide +kernel, rfl, by decide +kernel, by decide +kernel⟩
theorem ok_moved {f : Addr} {fd : FuncData} (F : Fun K "moved" "moved" sMoved f fd) : FnOk P w K mg base CX0 1 f fd ["outline", "move"] spMoved := by
  refine F.ok scMoved (fun vs H Q E h => ?_) (fun cdv A outer s H vs Q E hr h => ?_)
  · obtain ⟨a, m, C, rfl, _⟩ := h
    rfl
  · obtain ⟨a, m, C, rfl, hC, hl, k⟩ := h
    refine ⟨xMoved K, ?_, rd_moved hC hl k⟩
    exact pss_one (ps_ret (pe_lc (own := [("left", 2), ("right", 3)]) rfl scMoved.nd (pi_list (pv 0)) (by exact blkOk_by (N := ["outline", "move", "left", "right"]) (sc := defScope sMoved) (by decide +kernel))
      (fun _ _ _ _ _ => pg_tup rfl (pgs_cons (pg_name (i := 2) scMoved.nd rfl (Or.inl rfl)) (pgs_cons (pg_name (i := 3) scMoved.nd rfl (Or.inl rfl)) pgs_nil)))
      (fun _ _ _ _ _ => pts_nil)
      (fun _ _ _ _ _ => pe_tup (pa_cons (pe_op op_add (pv 2) (pv 1)) (pa_cons (pe_op op_add (pv 3) (pv 1)) pa_nil)))))
end
end TW
namespace TW
open PySem L2 WT
open Kh309 (Abs Call)
structure Def (K : PySem.W.Frag) (mg : Str → Option Value) (x : Str) (st : Stmt) (f : Addr) (fd : FuncData) (ps : List Str) : Prop where
  fn : Fun K x x st f fd
  mg : mg x = some (.ref f)
  bd : Binds K fd ps []
structure MDef (K : PySem.W.Frag) (C : Addr) (x qual : Str) (st : Stmt) (f : Addr) (fd : FuncData) (ps : List Str) : Prop where
  fn : Fun K x qual st f fd
  mt : Meth K C x f
  bd : Binds K fd ps []
theorem boot_min9 : bootBuiltins "min" = some (.builtin "min") := by decide +kernel
section
variable {P : Program} {w : World} {K : PySem.W.Frag} {mg : Str → Option Value} {base : Heap}
abbrev N2 : List Str := ["before", "outline", "needed", "most", "ahead", "behind"]
theorem scLeast : FnScope N2 ["before", "outline"] (defScope sLeast) := ⟨rfl, rfl, rfl, by decide +kernel, rfl, by decide +kernel, by decide +kernel⟩
theorem ok_least {f : Addr} {fd : FuncData} (G : Gls mg) (F : Fun K "least_move" "least_move" sLeast f fd) : FnOk P w K mg base CX0 1 f fd ["before", "outline"] spLeast := by
  refine F.ok scLeast (fun vs H Q E h => ?_) (fun cdv A outer s H vs Q E hr h => ?_)
  · obtain ⟨a, b, C, D, rfl, _⟩ := h
    rfl
  · obtain ⟨a, b, C, D, rfl, hC, hD, hl, k⟩ := h
    refine ⟨xLeast K, ?_, rd_least hC hD hl k⟩
    exact pss_cons (ps_setLc (i := 2) (own := [("ahead", 4), ("behind", 5)]) rfl scLeast.nd rfl rfl (sw_true rfl rfl rfl (by decide +kernel)) (pi_zip rfl G.zip (pa_cons (pv 0) (pa_cons (pv 1) pa_nil)))
        (by exact blkOk_by (N := N2) (sc := defScope sLeast) (by decide +kernel))
        (fun _ _ _ _ _ => pg_tup rfl (pgs_cons (pg_name (i := 4) scLeast.nd rfl (Or.inl rfl)) (pgs_cons (pg_name (i := 5) scLeast.nd rfl (Or.inl rfl)) pgs_nil)))
        (fun _ _ _ _ _ => pts_nil)
        (fun _ _ _ _ _ => pe_op op_sub (pe_op op_add (pe_ix ix_tup (pv 4) pe_int (fun _ _ => rfl)) (pgl G.near)) (pe_ix ix_tup (pv 5) pe_int (fun _ _ => rfl))))
      (pss_cons (ps_set (i := 3) scLeast.nd rfl (Or.inl rfl) (pe_maxD rfl rfl G.max (pv 2) pe_int))
      (pss_one (ps_ret (pe_op op_add (pv 3) (pe_op op_mod (pv 3) pe_int)))))
abbrev N3 : List Str := ["before", "outline", "both", "deeper", "ahead", "behind"]
theorem scJoined : FnScope N3 ["before", "outline"] (defScope sJoined) := ⟨rfl, rfl, rfl, by decide +kernel, rfl, by decide +kernel, by decide +kernel⟩
theorem ok_joined {f : Addr} {fd : FuncData} (G : Gls mg) (F : Fun K "joined" "joined" sJoined f fd) : FnOk P w K mg base CX0 1 f fd ["before", "outline"] spJoined := by
  refine F.ok scJoined (fun vs H Q E h => ?_) (fun cdv A outer s H vs Q E hr h => ?_)
  · obtain ⟨a, b, C, D, rfl, _⟩ := h
    rfl
  · obtain ⟨a, b, C, D, rfl, hC, hD, hl, hl2, k⟩ := h
    refine ⟨xJoined K, ?_, rd_joined hC hD hl hl2 k⟩
    exact pss_cons (ps_setLc (i := 2) (own := [("ahead", 4), ("behind", 5)]) rfl scJoined.nd rfl rfl (sw_true rfl rfl rfl (by decide +kernel)) (pi_zip rfl G.zip (pa_cons (pv 0) (pa_cons (pv 1) pa_nil)))
        (by exact blkOk_by (N := N3) (sc := defScope sJoined) (by decide +kernel))
        (fun _ _ _ _ _ => pg_tup rfl (pgs_cons (pg_name (i := 4) scJoined.nd rfl (Or.inl rfl)) (pgs_cons (pg_name (i := 5) scJoined.nd rfl (Or.inl rfl)) pgs_nil)))
        (fun _ _ _ _ _ => pts_nil)
        (fun _ _ _ _ _ => pe_tup (pa_cons (pe_ix ix_tup (pv 4) pe_int (fun _ _ => rfl)) (pa_cons (pe_ix ix_tup (pv 5) pe_int (fun _ _ => rfl)) pa_nil))))
      (pss_cons (ps_set (i := 3) scJoined.nd rfl (Or.inl rfl) (pe_ifExp (pt_cmpR op_gt (p_len G.len (pv 0)) (p_len G.len (pv 1)) (nomark _)) (pv 0) (pv 1)))
      (pss_one (ps_ret (pe_op op_cat (pv 2) (pe_slice sl_list (pv 3) (po_some (p_len G.len (pv 2))) po_none)))))
abbrev N4 : List Str := ["self", "children", "outline", "moves", "child", "move", "middle"]
theorem scDrawing : FnScope N4 ["self", "children"] (defScope sDrawing) := ⟨rfl, rfl, rfl, by decide +kernel, rfl, by decide +kernel, by decide +kernel⟩
theorem ok_drawing {f C D fM fL fJ : Addr} {fd dM dL dJ : FuncData} (G : Gls mg) (T : Txt K C D) (dm : Def K mg "moved" sMoved fM dM ["outline", "move"]) (dl : Def K mg "least_move" sLeast fL dL ["before", "outline"]) (dj : Def K mg "joined" sJoined fJ dJ ["before", "outline"])
    (F : Fun K "__init__" "Drawing.__init__" sDrawing f fd) : FnOk P w K mg base CX0 2 f fd ["self", "children"] (spDrawing D) := by
  have GM : FnOk P w K mg base CX0 1 fM dM ["outline", "move"] spMoved := ok_moved dm.fn
  have GL : FnOk P w K mg base CX0 1 fL dL ["before", "outline"] spLeast := ok_least G dl.fn
  have GJ : FnOk P w K mg base CX0 1 fJ dJ ["before", "outline"] spJoined := ok_joined G dj.fn
  refine F.ok scDrawing (fun vs H Q E h => ?_) (fun cdv A outer s H vs Q E hr h => ?_)
  · obtain ⟨x, dx, l, ys, Es, rfl, _⟩ := h
    rfl
  · obtain ⟨x, dx, l, ys, Es, rfl, h1, h2, h3, h4, h5, k⟩ := h
    refine ⟨xDrawing K, ?_, rd_drawing T h1 h2 h3 h4 h5 k⟩
    exact pss_cons (ps_set (i := 2) scDrawing.nd rfl (Or.inl rfl) (pe_lst pa_nil))
      (pss_cons (ps_set (i := 3) scDrawing.nd rfl (Or.inl rfl) (pe_lst pa_nil))
      (pss_cons (ps_for PassesOwn.never rfl (pi_list (pv 1)) (pg_name (i := 4) scDrawing.nd rfl (Or.inl rfl))
        (pss_cons (ps_set (i := 5) scDrawing.nd rfl (Or.inl rfl) (pe_call GL hr rfl dl.mg dl.fn.kp dl.bd .nil pass0 (pa_cons (pv 2) (pa_cons (pe_fld (pv 4) rfl) pa_nil))))
        (pss_cons (ps_set (i := 2) scDrawing.nd rfl (Or.inl rfl) (pe_call GJ hr rfl dj.mg dj.fn.kp dj.bd .nil pass0 (pa_cons (pv 2) (pa_cons (pe_call GM hr rfl dm.mg dm.fn.kp dm.bd .nil pass0 (pa_cons (pe_fld (pv 4) rfl) (pa_cons (pv 5) pa_nil))) pa_nil))))
        (pss_one (ps_expr (pe_bm PySem.F.plainAttrs_list PySem.F.slot_list_append PySem.F.type_list_append mt_append (pv 3) (pa_cons (pv 5) pa_nil)))))))
      (pss_cons (ps_set (i := 6) scDrawing.nd rfl (Or.inr rfl) (pe_ifExp (pt_truth (pv 3) (fun _ => rfl)) (pe_op op_fdiv (pe_ix ix_list (pv 3) (pe_un un_neg pe_int) (fun _ _ => rfl)) pe_int) pe_int))
      (pss_cons (ps_fld (pv 0) (pe_op op_cat (pe_lst (pa_cons (pe_tup (pa_cons pe_int (pa_cons pe_int pa_nil))) pa_nil)) (pe_call GM hr rfl dm.mg dm.fn.kp dm.bd .nil pass0 (pa_cons (pv 2) (pa_cons (pe_un un_neg (pv 6)) pa_nil)))) rfl)
      (pss_one (ps_fld (pv 0) (pe_lc (own := [("move", 5)]) rfl scDrawing.nd (pi_list (pv 3)) (by exact blkOk_by (N := N4) (sc := defScope sDrawing) (by decide +kernel))
        (fun _ _ _ _ _ => pg_name (i := 5) scDrawing.nd rfl (Or.inl rfl)) (fun _ _ _ _ _ => pts_nil) (fun _ _ _ _ _ => pe_op op_sub (pv 5) (pv 6))) rfl))))))
abbrev N5 : List Str := ["nodes", "rows", "drawings", "node", "leftmost", "spots", "layer", "place", "child", "move", "left", "right"]
theorem scDrawn : FnScope N5 ["nodes", "rows"] (defScope sDrawn) := ⟨rfl, rfl, rfl, by decide +kernel, rfl, by decide +kernel, by decide +kernel⟩
/-- the class Drawing -/
structure DCls (K : PySem.W.Frag) (mg : Str → Option Value) (D f : Addr) (fd : FuncData) : Prop where
  make : Mk K D f
  fn : Fun K "__init__" "Drawing.__init__" sDrawing f fd
  bd : Binds K fd ["self", "children"] []
  mg : mg "Drawing" = some (.ref D)
theorem ok_drawn {f C D fD fM fL fJ : Addr} {fd dD dM dL dJ : FuncData} (G : Gls mg) (T : Txt K C D) (dm : Def K mg "moved" sMoved fM dM ["outline", "move"]) (dl : Def K mg "least_move" sLeast fL dL ["before", "outline"]) (dj : Def K mg "joined" sJoined fJ dJ ["before", "outline"])
    (dc : DCls K mg D fD dD) (F : Fun K "drawn" "drawn" sDrawn f fd) : FnOk P w K mg base CX0 4 f fd ["nodes", "rows"] spDrawn := by
  have GD : FnOk P w K mg base CX0 2 fD dD ["self", "children"] (spDrawing D) := ok_drawing G T dm dl dj dc.fn
  refine F.ok scDrawn (fun vs H Q E h => ?_) (fun cdv A outer s H vs Q E hr h => ?_)
  · obtain ⟨ln, d, kids, rfl, _⟩ := h
    rfl
  · obtain ⟨ln, d, kids, rfl, h1, h2, h3, h4, k⟩ := h
    have hu := hu_of hr
    refine ⟨xDrawn K D, ?_, rd_drawn T h1 h2 h3 h4 k⟩
    exact pss_cons (ps_set (i := 2) scDrawn.nd rfl (Or.inr rfl) pe_dnewK)
      (pss_cons (ps_for PassesOwn.never rfl (pi_reversed rfl G.rev (pa_cons (pv 0) pa_nil)) (pg_name (i := 3) scDrawn.nd rfl (Or.inl rfl))
        (pss_one (ps_dput hu (pv 2) (pv 3) (pe_make dc.make GD hr rfl dc.mg dc.bd .nil pass0 (pa_cons (pe_lc (own := [("child", 8)]) rfl scDrawn.nd (pi_list (pe_dget hu (pv 1) (pv 3) (fun _ _ => rfl)))
          (by exact blkOk_by (N := N5) (sc := defScope sDrawn) (by decide +kernel)) (fun _ _ _ _ _ => pg_name (i := 8) scDrawn.nd rfl (Or.inl rfl)) (fun _ _ _ _ _ => pts_nil) (fun _ _ _ _ _ => pe_dget hu (pv 2) (pv 8) (fun _ _ => rfl))) pa_nil)) rfl)))
      (pss_cons (ps_set (i := 4) scDrawn.nd rfl (Or.inl rfl) (pe_callB (cr_min rfl) rfl G.min boot_min9 (pa_cons (pe_lc (own := [("left", 10), ("right", 11)]) rfl scDrawn.nd (pi_list (pe_fld (pe_dget hu (pv 2) (pgl G.root) (fun _ _ => rfl)) rfl))
          (by exact blkOk_by (N := N5) (sc := defScope sDrawn) (by decide +kernel)) (fun _ _ _ _ _ => pg_tup rfl (pgs_cons (pg_name (i := 10) scDrawn.nd rfl (Or.inl rfl)) (pgs_cons (pg_name (i := 11) scDrawn.nd rfl (Or.inl rfl)) pgs_nil))) (fun _ _ _ _ _ => pts_nil) (fun _ _ _ _ _ => pv 10)) pa_nil)))
      (pss_cons (ps_set (i := 5) scDrawn.nd rfl (Or.inl rfl) (pe_disp (pps_cons (pgl G.root) (pe_tup (pa_cons pe_int (pa_cons (pe_un un_neg (pv 4)) pa_nil))) pps_nil) rfl rfl (by simp) (by decide)))
      (pss_cons (ps_for PassesOwn.never rfl (pi_list (pv 0)) (pg_name (i := 3) scDrawn.nd rfl (Or.inl rfl))
        (pss_cons (ps_set (i := 6) scDrawn.nd rfl (Or.inl rfl) (pe_ix ix_tup (pe_dget hu (pv 5) (pv 3) (fun _ _ => rfl)) pe_int (fun _ _ => rfl)))
        (pss_cons (ps_set (i := 7) scDrawn.nd rfl (Or.inl rfl) (pe_ix ix_tup (pe_dget hu (pv 5) (pv 3) (fun _ _ => rfl)) pe_int (fun _ _ => rfl)))
        (pss_one (ps_for PassesOwn.never rfl (pi_zip rfl G.zip (pa_cons (pe_dget hu (pv 1) (pv 3) (fun _ _ => rfl)) (pa_cons (pe_fld (pe_dget hu (pv 2) (pv 3) (fun _ _ => rfl)) rfl) pa_nil)))
          (pg_tup rfl (pgs_cons (pg_name (i := 8) scDrawn.nd rfl (Or.inl rfl)) (pgs_cons (pg_name (i := 9) scDrawn.nd rfl (Or.inl rfl)) pgs_nil)))
          (pss_one (ps_dput hu (pv 5) (pv 8) (pe_tup (pa_cons (pe_op op_add (pv 6) pe_int) (pa_cons (pe_op op_add (pv 7) (pv 9)) pa_nil))) rfl)))))))
      (pss_one (ps_ret (pv 5)))))))
end
end TW
namespace TW
open PySem L2 WT
open Kh309 (Abs Call)
abbrev m1 {X : Cx} {o e : Expr} {m : Str} {apos cpos : Pos} (h1 : attributeBase o m X.env (eval o X.env) = eval o X.env := by rfl)
    (h2 : ((backTo cpos (starEach [e] X.env)).all (fun x => !x.1) && (backToKw cpos (keywordEach [] X.env)).all (fun x => x.1.isSome) && decide (([e] : List Expr).length + ([] : List Keyword).length + (if ([] : List Keyword).isEmpty then 0 else 1) < 30)) = true := by rfl)
    (h3 : (apos.endLine == cpos.line) = true := by rfl) (h4 : backTo cpos (starEach [e] X.env) = [(false, eval e X.env)] := by rfl) : M1 X o m apos e cpos := ⟨h1, h2, h3, h4⟩
section
variable {P : Program} {w : World} {K : PySem.W.Frag} {mg : Str → Option Value} {base : Heap}
theorem sc1 : FnScope ["self"] ["self"] (defScope (sTree 1)) := ⟨rfl, rfl, rfl, by decide +kernel, rfl, by decide +kernel, by decide +kernel⟩
theorem ok_begin {f C D : Addr} {fd : FuncData} (G : Gls mg) (T : Txt K C D) (F : Fun K "begin" "Tree.begin" (sTree 1) f fd) : FnOk P w K mg base CX0 1 f fd ["self"] (spBegin C) := by
  refine F.ok sc1 (fun vs H Q E h => ?_) (fun cdv A outer s H vs Q E hr h => ?_)
  · obtain ⟨p, dx, fs, rfl, _⟩ := h
    rfl
  · obtain ⟨p, dx, fs, rfl, h1, h2, k⟩ := h
    refine ⟨xBegin K, ?_, rd_begin T h1 h2 k⟩
    exact pss_cons (ps_fld (pv 0) (pe_disp (pps_cons (pgl G.root) pe_non pps_nil) rfl rfl (by simp) (by decide)) rfl)
      (pss_cons (ps_fld (pv 0) (pe_disp (pps_cons (pgl G.root) (pe_lst pa_nil) pps_nil) rfl rfl (by simp) (by decide)) rfl)
      (pss_cons (ps_fld (pv 0) pe_dnewK rfl) (pss_cons (ps_fld (pv 0) (pgl G.root) rfl) (pss_one (ps_ret pe_int)))))
theorem sc0 : FnScope ["self"] ["self"] (defScope (sTree 0)) := ⟨rfl, rfl, rfl, by decide +kernel, rfl, by decide +kernel, by decide +kernel⟩
theorem ok_init {f C D f1 : Addr} {fd d1 : FuncData} (G : Gls mg) (T : Txt K C D) (mB : MDef K C "begin" "Tree.begin" (sTree 1) f1 d1 ["self"]) (F : Fun K "__init__" "Tree.__init__" (sTree 0) f fd) : FnOk P w K mg base CX0 2 f fd ["self"] (spInit C) := by
  have GB : FnOk P w K mg base CX0 1 f1 d1 ["self"] (spBegin C) := ok_begin G T mB.fn
  refine F.ok sc0 (fun vs H Q E h => ?_) (fun cdv A outer s H vs Q E hr h => ?_)
  · obtain ⟨p, dx, rfl, _⟩ := h
    rfl
  · obtain ⟨p, dx, rfl, h1, k⟩ := h
    refine ⟨xInit C, ?_, rd_init h1 k⟩
    exact pss_one (ps_expr (pe_meth0 (pv 0) T.cl mB.mt GB hr mB.bd .nil pass0))
theorem sc14 : FnScope ["self", "node"] ["self"] (defScope (sTree 14)) := ⟨rfl, rfl, rfl, by decide +kernel, rfl, by decide +kernel, by decide +kernel⟩
theorem ok_leastFree {f C D : Addr} {fd : FuncData} (G : Gls mg) (T : Txt K C D) (F : Fun K "least_free" "Tree.least_free" (sTree 14) f fd) : FnOk P w K mg base CX0 1 f fd ["self"] (spLeastFree C) := by
  refine F.ok sc14 (fun vs H Q E h => ?_) (fun cdv A outer s H vs Q E hr h => ?_)
  · obtain ⟨p, t, a, v, rfl, _⟩ := h
    rfl
  · obtain ⟨p, t, a, v, rfl, h1, h2, k⟩ := h
    have hu := hu_of hr
    refine ⟨xLeastFree K, ?_, rd_leastFree T h1 h2 k⟩
    exact pss_cons (ps_set (i := 1) sc14.nd rfl (Or.inl rfl) (pgl G.root))
      (pss_cons (ps_while PassesOwn.never (pt_cmp (pc_din hu (pv 1) (pe_fld (pv 0) rfl))) (pss_one (ps_set (i := 1) sc14.nd rfl (Or.inl rfl) (pe_op op_add (pv 1) pe_int))))
      (pss_one (ps_ret (pv 1))))
theorem sc2 : FnScope ["self", "parent", "node"] ["self", "parent"] (defScope (sTree 2)) := ⟨rfl, rfl, rfl, by decide +kernel, rfl, by decide +kernel, by decide +kernel⟩
theorem ok_add {f C D f1 : Addr} {fd d1 : FuncData} (G : Gls mg) (T : Txt K C D) (mL : MDef K C "least_free" "Tree.least_free" (sTree 14) f1 d1 ["self"]) (F : Fun K "add" "Tree.add" (sTree 2) f fd) : FnOk P w K mg base CX0 2 f fd ["self", "parent"] (spAdd C) := by
  have GL : FnOk P w K mg base CX0 1 f1 d1 ["self"] (spLeastFree C) := ok_leastFree G T mL.fn
  refine F.ok sc2 (fun vs H Q E h => ?_) (fun cdv A outer s H vs Q E hr h => ?_)
  · obtain ⟨p, t, a, n, rfl, _⟩ := h
    rfl
  · obtain ⟨p, t, a, n, rfl, h1, k⟩ := h
    have hu := hu_of hr
    refine ⟨xAdd K C, ?_, rd_add T h1 n k⟩
    exact pss_cons (ps_if (pt_cmp (pc_dnotin hu (pv 1) (pe_fld (pv 0) rfl))) (pss_one (ps_ret (pgl G.nthere))) pss_nil)
      (pss_cons (ps_if (pt_cmpR op_eq (pe_callB call_lenD rfl G.len PySem.boot_len (pa_cons (pe_fld (pv 0) rfl) pa_nil)) (pgl G.most) (nomark _)) (pss_one (ps_ret (pgl G.noroom))) pss_nil)
      (pss_cons (ps_set (i := 2) sc2.nd rfl (Or.inl rfl) (pe_meth0 (pv 0) T.cl mL.mt GL hr mL.bd .nil pass0))
      (pss_cons (ps_dput hu (pe_fld (pv 0) rfl) (pv 2) (pv 1) rfl)
      (pss_cons (ps_dput hu (pe_fld (pv 0) rfl) (pv 2) (pe_lst pa_nil) rfl)
      (pss_cons (ps_expr (pe_bm PySem.F.plainAttrs_list PySem.F.slot_list_append PySem.F.type_list_append mt_append (pe_dget hu (pe_fld (pv 0) rfl) (pv 1) (fun _ _ => rfl)) (pa_cons (pv 2) pa_nil)))
      (pss_one (ps_ret (pv 2))))))))
theorem sc15 : FnScope ["self", "node", "here"] ["self", "node"] (defScope (sTree 15)) := ⟨rfl, rfl, rfl, by decide +kernel, rfl, by decide +kernel, by decide +kernel⟩
theorem ok_within {f C D : Addr} {fd : FuncData} (G : Gls mg) (T : Txt K C D) (F : Fun K "stands_within" "Tree.stands_within" (sTree 15) f fd) : FnOk P w K mg base CX0 1 f fd ["self", "node"] (spWithin C) := by
  refine F.ok sc15 (fun vs H Q E h => ?_) (fun cdv A outer s H vs Q E hr h => ?_)
  · obtain ⟨p, t, a, n, rfl, _⟩ := h
    rfl
  · obtain ⟨p, t, a, n, rfl, h1, h2, k⟩ := h
    have hu := hu_of hr
    refine ⟨xWithin K, ?_, rd_within T h1 h2 k⟩
    exact pss_cons (ps_set (i := 2) sc15.nd rfl (Or.inl rfl) (pe_fld (pv 0) rfl))
      (pss_cons (ps_while PassesOwn.never ((pw_and (pt_cmpR op_ne (pv 2) (pv 1) (nomark _)) (pw_and1 (pt_cmpR op_ne (pv 2) (pgl G.root) (nomark _)))).pt) (pss_one (ps_set (i := 2) sc15.nd rfl (Or.inl rfl) (pe_dget hu (pe_fld (pv 0) rfl) (pv 2) (fun _ _ => rfl)))))
      (pss_one (ps_ret (pe_cmpR op_eq (pv 2) (pv 1) (nomark _)))))
theorem sc16 : FnScope ["self", "node", "found", "waiting", "here"] ["self", "node"] (defScope (sTree 16)) := ⟨rfl, rfl, rfl, by decide +kernel, rfl, by decide +kernel, by decide +kernel⟩
theorem ok_allW {f C D : Addr} {fd : FuncData} (T : Txt K C D) (F : Fun K "all_within" "Tree.all_within" (sTree 16) f fd) : FnOk P w K mg base CX0 1 f fd ["self", "node"] (spAllW C) := by
  refine F.ok sc16 (fun vs H Q E h => ?_) (fun cdv A outer s H vs Q E hr h => ?_)
  · obtain ⟨p, a, v, rfl, _⟩ := h
    rfl
  · obtain ⟨p, a, v, rfl, h1, h2, h3, k⟩ := h
    have hu := hu_of hr
    refine ⟨xAllW K, ?_, rd_allW T h1 h2 h3 k⟩
    exact pss_cons (ps_set (i := 2) sc16.nd rfl (Or.inl rfl) (pe_lst pa_nil))
      (pss_cons (ps_set (i := 3) sc16.nd rfl (Or.inl rfl) (pe_lst (pa_cons (pv 1) pa_nil)))
      (pss_cons (ps_while PassesOwn.never (pt_truth (pv 3) (fun _ => rfl))
        (pss_cons (ps_set (i := 4) sc16.nd rfl (Or.inl rfl) (pe_bm0 PySem.F.plainAttrs_list PySem.F.slot_list_pop PySem.F.type_list_pop mt_pop (pv 3)))
        (pss_cons (ps_expr (pe_bm PySem.F.plainAttrs_list PySem.F.slot_list_append PySem.F.type_list_append mt_append (pv 2) (pa_cons (pv 4) pa_nil)))
        (pss_one (ps_expr (pe_bm PySem.F.plainAttrs_list PySem.F.slot_list_extend PySem.F.type_list_extend mt_extend (pv 3) (pa_cons (pe_dget hu (pe_fld (pv 0) rfl) (pv 4) (fun _ _ => rfl)) pa_nil)))))))
      (pss_one (ps_ret (pv 2)))))
theorem sc17 : FnScope ["self", "node"] ["self", "node"] (defScope (sTree 17)) := ⟨rfl, rfl, rfl, by decide +kernel, rfl, by decide +kernel, by decide +kernel⟩
theorem ok_forget {f C D : Addr} {fd : FuncData} (T : Txt K C D) (F : Fun K "forget" "Tree.forget" (sTree 17) f fd) : FnOk P w K mg base CX0 1 f fd ["self", "node"] (spForget C) := by
  refine F.ok sc17 (fun vs H Q E h => ?_) (fun cdv A outer s H vs Q E hr h => ?_)
  · obtain ⟨p, dx, dp, dr, ds, st, kp, kr, ks, n, v1, v2, rfl, _⟩ := h
    rfl
  · obtain ⟨p, dx, dp, dr, ds, st, kp, kr, ks, n, v1, v2, rfl, h1, h2, h3, k⟩ := h
    refine ⟨xForget K, ?_, rd_forget T h1 h2 h3 k⟩
    exact pss_cons (ps_expr (pe_dpop1 (pe_fld (pv 0) rfl) (pv 1) ⟨rfl, rfl, rfl, rfl⟩)) (pss_cons (ps_expr (pe_dpop1 (pe_fld (pv 0) rfl) (pv 1) ⟨rfl, rfl, rfl, rfl⟩)) (pss_one (ps_expr (pe_dpop2 (pe_fld (pv 0) rfl) (pv 1) pe_non ⟨rfl, rfl, rfl, rfl⟩))))
end
end TW
namespace TW
open PySem L2 WT
open Kh309 (Abs Call)
section
variable {P : Program} {w : World} {K : PySem.W.Frag} {mg : Str → Option Value} {base : Heap}
abbrev N6 : List Str := ["self", "node", "parent", "gone", "each"]
theorem sc3 : FnScope N6 ["self", "node"] (defScope (sTree 3)) := ⟨rfl, rfl, rfl, by decide +kernel, rfl, by decide +kernel, by decide +kernel⟩
theorem ok_drop {f C D f1 f2 f3 : Addr} {fd d1 d2 d3 : FuncData} (G : Gls mg) (T : Txt K C D) (mW : MDef K C "stands_within" "Tree.stands_within" (sTree 15) f1 d1 ["self", "node"]) (mA : MDef K C "all_within" "Tree.all_within" (sTree 16) f2 d2 ["self", "node"])
    (mF : MDef K C "forget" "Tree.forget" (sTree 17) f3 d3 ["self", "node"]) (F : Fun K "drop" "Tree.drop" (sTree 3) f fd) : FnOk P w K mg base CX0 2 f fd ["self", "node"] (spDrop C) := by
  have GW : FnOk P w K mg base CX0 1 f1 d1 ["self", "node"] (spWithin C) := ok_within G T mW.fn
  have GA : FnOk P w K mg base CX0 1 f2 d2 ["self", "node"] (spAllW C) := ok_allW T mA.fn
  have GF : FnOk P w K mg base CX0 1 f3 d3 ["self", "node"] (spForget C) := ok_forget T mF.fn
  refine F.ok sc3 (fun vs H Q E h => ?_) (fun cdv A outer s H vs Q E hr h => ?_)
  · obtain ⟨p, t, a, n, rfl, _⟩ := h
    rfl
  · obtain ⟨p, t, a, n, rfl, h1, k⟩ := h
    have hu := hu_of hr
    refine ⟨xDrop K C, ?_, rd_drop T h1 n k⟩
    exact pss_cons (ps_if (pt_cmp (pc_dnotin hu (pv 1) (pe_fld (pv 0) rfl))) (pss_one (ps_ret (pgl G.nthere))) pss_nil)
      (pss_cons (ps_if (pt_cmpR op_eq (pv 1) (pgl G.root) (nomark _)) (pss_one (ps_ret (pgl G.nallow))) pss_nil)
      (pss_cons (ps_set (i := 2) sc3.nd rfl (Or.inl rfl) (pe_dget hu (pe_fld (pv 0) rfl) (pv 1) (fun _ _ => rfl)))
      (pss_cons (ps_if (pt_val (pe_meth (pv 0) T.cl mW.mt GW hr mW.bd .nil pass0 (pa_cons (pv 1) pa_nil))) (pss_one (ps_fld (pv 0) (pv 2) rfl)) pss_nil)
      (pss_cons (ps_expr (pe_bm PySem.F.plainAttrs_list PySem.F.slot_list_remove PySem.F.type_list_remove mt_remove (pe_dget hu (pe_fld (pv 0) rfl) (pv 2) (fun _ _ => rfl)) (pa_cons (pv 1) pa_nil)))
      (pss_cons (ps_set (i := 3) sc3.nd rfl (Or.inl rfl) (pe_meth (pv 0) T.cl mA.mt GA hr mA.bd .nil pass0 (pa_cons (pv 1) pa_nil)))
      (pss_cons (ps_for PassesOwn.never rfl (pi_list (pv 3)) (pg_name (i := 4) sc3.nd rfl (Or.inl rfl)) (pss_one (ps_expr (pe_meth (pv 0) T.cl mF.mt GF hr mF.bd .nil pass0 (pa_cons (pv 4) pa_nil)))))
      (pss_one (ps_ret (p_len G.len (pv 3))))))))))
theorem sc4 : FnScope ["self", "node", "shut"] ["self", "node", "shut"] (defScope (sTree 4)) := ⟨rfl, rfl, rfl, by decide +kernel, rfl, by decide +kernel, by decide +kernel⟩
theorem ok_fold {f C D f1 : Addr} {fd d1 : FuncData} (G : Gls mg) (T : Txt K C D) (mW : MDef K C "stands_within" "Tree.stands_within" (sTree 15) f1 d1 ["self", "node"])
    (F : Fun K "fold" "Tree.fold" (sTree 4) f fd) : FnOk P w K mg base CX0 2 f fd ["self", "node", "shut"] (spFold C) := by
  have GW : FnOk P w K mg base CX0 1 f1 d1 ["self", "node"] (spWithin C) := ok_within G T mW.fn
  refine F.ok sc4 (fun vs H Q E h => ?_) (fun cdv A outer s H vs Q E hr h => ?_)
  · obtain ⟨p, t, a, n, s, rfl, _⟩ := h
    rfl
  · obtain ⟨p, t, a, n, s, rfl, h1, k⟩ := h
    have hu := hu_of hr
    refine ⟨xFold K C, ?_, rd_fold T h1 n s k⟩
    exact pss_cons (ps_if (pt_cmp (pc_dnotin hu (pv 1) (pe_fld (pv 0) rfl))) (pss_one (ps_ret (pgl G.nthere))) pss_nil)
      (pss_cons (ps_if (pt_cmpR op_gt (pv 2) pe_int (nomark _)) (pss_one (ps_ret (pgl G.nallow))) pss_nil)
      (pss_cons (ps_if (pt_cmpR op_eq (pv 2) pe_int (nomark _)) (pss_cons (ps_expr (pe_dpop2 (pe_fld (pv 0) rfl) (pv 1) pe_non ⟨rfl, rfl, rfl, rfl⟩)) (pss_one (ps_ret pe_int))) pss_nil)
      (pss_cons (ps_dput hu (pe_fld (pv 0) rfl) (pv 1) pe_bl rfl)
      (pss_cons (ps_if (pt_val (pe_meth (pv 0) T.cl mW.mt GW hr mW.bd .nil pass0 (pa_cons (pv 1) pa_nil))) (pss_one (ps_fld (pv 0) (pv 1) rfl)) pss_nil)
      (pss_one (ps_ret pe_int))))))
theorem sc11 : FnScope ["self", "node"] ["self", "node"] (defScope (sTree 11)) := ⟨rfl, rfl, rfl, by decide +kernel, rfl, by decide +kernel, by decide +kernel⟩
theorem ok_row {f C D : Addr} {fd : FuncData} (T : Txt K C D) (F : Fun K "row_shown" "Tree.row_shown" (sTree 11) f fd) : FnOk P w K mg base CX0 1 f fd ["self", "node"] (spRow C) := by
  refine F.ok sc11 (fun vs H Q E h => ?_) (fun cdv A outer s H vs Q E hr h => ?_)
  · obtain ⟨p, t, a, n, rfl, _⟩ := h
    rfl
  · obtain ⟨p, t, a, n, rfl, h1, h2, k⟩ := h
    have hu := hu_of hr
    refine ⟨xRowShown K, ?_, rd_rowShown T h1 h2 k⟩
    exact pss_one (ps_ret (pe_ifExp (pt_cmp (pc_din hu (pv 1) (pe_fld (pv 0) rfl))) (pe_lst pa_nil) (pe_dget hu (pe_fld (pv 0) rfl) (pv 1) (fun _ _ => rfl))))
theorem sc12 : FnScope ["self", "found", "waiting", "here"] ["self"] (defScope (sTree 12)) := ⟨rfl, rfl, rfl, by decide +kernel, rfl, by decide +kernel, by decide +kernel⟩
theorem ok_allShown {f C D f1 : Addr} {fd d1 : FuncData} (G : Gls mg) (T : Txt K C D) (mR : MDef K C "row_shown" "Tree.row_shown" (sTree 11) f1 d1 ["self", "node"]) (F : Fun K "all_shown" "Tree.all_shown" (sTree 12) f fd) :
    FnOk P w K mg base CX0 2 f fd ["self"] (spAllShown C) := by
  have GR : FnOk P w K mg base CX0 1 f1 d1 ["self", "node"] (spRow C) := ok_row T mR.fn
  refine F.ok sc12 (fun vs H Q E h => ?_) (fun cdv A outer s H vs Q E hr h => ?_)
  · obtain ⟨p, t, a, rfl, _⟩ := h
    rfl
  · obtain ⟨p, t, a, rfl, h1, k⟩ := h
    refine ⟨xAllShown K C, ?_, rd_allShown T h1 k⟩
    exact pss_cons (ps_set (i := 1) sc12.nd rfl (Or.inl rfl) (pe_lst pa_nil))
      (pss_cons (ps_set (i := 2) sc12.nd rfl (Or.inl rfl) (pe_lst (pa_cons (pgl G.root) pa_nil)))
      (pss_cons (ps_while PassesOwn.never (pt_truth (pv 2) (fun _ => rfl))
        (pss_cons (ps_set (i := 3) sc12.nd rfl (Or.inl rfl) (pe_bm0 PySem.F.plainAttrs_list PySem.F.slot_list_pop PySem.F.type_list_pop mt_pop (pv 2)))
        (pss_cons (ps_expr (pe_bm PySem.F.plainAttrs_list PySem.F.slot_list_append PySem.F.type_list_append mt_append (pv 1) (pa_cons (pv 3) pa_nil)))
        (pss_one (ps_expr (pe_bm PySem.F.plainAttrs_list PySem.F.slot_list_extend PySem.F.type_list_extend mt_extend (pv 2)
          (pa_cons (pe_listrev rfl rfl G.list rfl G.rev (pe_meth (pv 0) T.cl mR.mt GR hr mR.bd .nil pass0 (pa_cons (pv 3) pa_nil))) pa_nil)))))))
      (pss_one (ps_ret (pv 1)))))
abbrev N7 : List Str := ["self", "nodes", "rows", "node", "spots"]
theorem sc13 : FnScope N7 ["self"] (defScope (sTree 13)) := ⟨rfl, rfl, rfl, by decide +kernel, rfl, by decide +kernel, by decide +kernel⟩
/-- drawn, with what it wants -/
structure Drw (P : Program) (w : World) (K : PySem.W.Frag) (mg : Str → Option Value) (base : Heap) (f : Addr) (fd : FuncData) : Prop where
  ok : FnOk P w K mg base CX0 4 f fd ["nodes", "rows"] spDrawn
  mg : mg "drawn" = some (.ref f)
  kp : PySem.W.keepIn K (.ref f) = true
  bd : Binds K fd ["nodes", "rows"] []
theorem ok_drawnNodes {f C D f1 f2 f3 : Addr} {fd d1 d2 d3 : FuncData} (G : Gls mg) (T : Txt K C D) (mR : MDef K C "row_shown" "Tree.row_shown" (sTree 11) f1 d1 ["self", "node"]) (mA : MDef K C "all_shown" "Tree.all_shown" (sTree 12) f2 d2 ["self"])
    (dr : Drw P w K mg base f3 d3) (F : Fun K "drawn_nodes" "Tree.drawn_nodes" (sTree 13) f fd) : FnOk P w K mg base CX0 5 f fd ["self"] (spDrawnNodes C) := by
  have GR : FnOk P w K mg base CX0 1 f1 d1 ["self", "node"] (spRow C) := ok_row T mR.fn
  have GA : FnOk P w K mg base CX0 2 f2 d2 ["self"] (spAllShown C) := ok_allShown G T mR mA.fn
  refine F.ok sc13 (fun vs H Q E h => ?_) (fun cdv A outer s H vs Q E hr h => ?_)
  · obtain ⟨p, t, a, rfl, _⟩ := h
    rfl
  · obtain ⟨p, t, a, rfl, h1, k⟩ := h
    have hu := hu_of hr
    have hr1 : Room 1 _ := hr.mono (by decide)
    have hr2 : Room 2 _ := hr.mono (by decide)
    refine ⟨xDrawnNodes K C, ?_, rd_drawnNodes T h1 k⟩
    exact pss_cons (ps_set (i := 1) sc13.nd rfl (Or.inl rfl) (pe_meth0 (pv 0) T.cl mA.mt GA hr2 mA.bd .nil pass0))
      (pss_cons (ps_set (i := 2) sc13.nd rfl (Or.inl rfl) pe_dnewK)
      (pss_cons (ps_for PassesOwn.never rfl (pi_list (pv 1)) (pg_name (i := 3) sc13.nd rfl (Or.inl rfl)) (pss_one (ps_dput hu (pv 2) (pv 3) (pe_meth (pv 0) T.cl mR.mt GR hr1 mR.bd .nil pass0 (pa_cons (pv 3) pa_nil)) rfl)))
      (pss_cons (ps_set (i := 4) sc13.nd rfl (Or.inr rfl) (pe_call dr.ok hr rfl dr.mg dr.kp dr.bd .nil pass0 (pa_cons (pv 1) (pa_cons (pv 2) pa_nil))))
      (pss_one (ps_ret (pe_lc (own := [("node", 3)]) rfl sc13.nd (pi_list (pv 1)) (by exact blkOk_by (N := N7) (sc := defScope (sTree 13)) (by decide +kernel)) (fun _ _ _ _ _ => pg_name (i := 3) sc13.nd rfl (Or.inl rfl)) (fun _ _ _ _ _ => pts_nil)
        (fun _ _ _ _ _ => pe_tup (pa_cons (pv 3) (pa_cons (pe_ix ix_tup (pe_dget hu (pv 4) (pv 3) (fun _ _ => rfl)) pe_int (fun _ _ => rfl)) (pa_cons (pe_ix ix_tup (pe_dget hu (pv 4) (pv 3) (fun _ _ => rfl)) pe_int (fun _ _ => rfl)) pa_nil))))))))))
theorem sc10 : FnScope ["self", "step", "row", "there"] ["self", "step"] (defScope (sTree 10)) := ⟨rfl, rfl, rfl, by decide +kernel, rfl, by decide +kernel, by decide +kernel⟩
theorem ok_beside {f C D : Addr} {fd : FuncData} (G : Gls mg) (T : Txt K C D) (F : Fun K "beside" "Tree.beside" (sTree 10) f fd) : FnOk P w K mg base CX0 1 f fd ["self", "step"] (spBeside C) := by
  refine F.ok sc10 (fun vs H Q E h => ?_) (fun cdv A outer s H vs Q E hr h => ?_)
  · obtain ⟨p, t, a, s, b, rfl, _⟩ := h
    rfl
  · obtain ⟨p, t, a, s, b, rfl, h1, h2, k⟩ := h
    have hu := hu_of hr
    refine ⟨xBeside K, ?_, rd_beside T h1 h2 k⟩
    exact pss_cons (ps_if (pt_cmpR op_eq (pe_fld (pv 0) rfl) (pgl G.root) (nomark _)) (pss_one (ps_ret pe_non)) pss_nil)
      (pss_cons (ps_set (i := 2) sc10.nd rfl (Or.inl rfl) (pe_dget hu (pe_fld (pv 0) rfl) (pe_dget hu (pe_fld (pv 0) rfl) (pe_fld (pv 0) rfl) (fun _ _ => rfl)) (fun _ _ => rfl)))
      (pss_cons (ps_set (i := 3) sc10.nd rfl (Or.inl rfl) (pe_op op_add (pe_bm PySem.F.plainAttrs_list PySem.F.slot_list_index PySem.F.type_list_index mt_index (pv 2) (pa_cons (pe_fld (pv 0) rfl) pa_nil)) (pv 1)))
      (pss_one (ps_ret (pe_ifExp (pt_chain op_le op_lt pe_int (pv 3) (p_len G.len (pv 2))) (pe_ix ix_list (pv 2) (pv 3) (fun _ _ => rfl)) pe_non)))))
theorem sc9 : FnScope ["self", "way", "row"] ["self", "way"] (defScope (sTree 9)) := ⟨rfl, rfl, rfl, by decide +kernel, rfl, by decide +kernel, by decide +kernel⟩
theorem ok_reached {f C D f1 f2 : Addr} {fd d1 d2 : FuncData} (G : Gls mg) (T : Txt K C D) (mR : MDef K C "row_shown" "Tree.row_shown" (sTree 11) f1 d1 ["self", "node"]) (mB : MDef K C "beside" "Tree.beside" (sTree 10) f2 d2 ["self", "step"])
    (F : Fun K "reached" "Tree.reached" (sTree 9) f fd) : FnOk P w K mg base CX0 2 f fd ["self", "way"] (spReached C) := by
  have GR : FnOk P w K mg base CX0 1 f1 d1 ["self", "node"] (spRow C) := ok_row T mR.fn
  have GB : FnOk P w K mg base CX0 1 f2 d2 ["self", "step"] (spBeside C) := ok_beside G T mB.fn
  refine F.ok sc9 (fun vs H Q E h => ?_) (fun cdv A outer s H vs Q E hr h => ?_)
  · obtain ⟨p, t, a, n, rfl, _⟩ := h
    rfl
  · obtain ⟨p, t, a, n, rfl, h1, h2, k⟩ := h
    have hu := hu_of hr
    refine ⟨xReached K C, ?_, rd_reached T h1 h2 k⟩
    exact pss_cons (ps_if (pt_cmpR op_eq (pv 1) (pgl G.up) (nomark _)) (pss_one (ps_ret (pe_dget hu (pe_fld (pv 0) rfl) (pe_fld (pv 0) rfl) (fun _ _ => rfl)))) pss_nil)
      (pss_cons (ps_if (pt_cmpR op_eq (pv 1) (pgl G.down) (nomark _)) (pss_cons (ps_set (i := 2) sc9.nd rfl (Or.inl rfl) (pe_meth (pv 0) T.cl mR.mt GR hr mR.bd .nil pass0 (pa_cons (pe_fld (pv 0) rfl) pa_nil)))
        (pss_one (ps_ret (pe_ifExp (pt_truth (pv 2) (fun _ => rfl)) (pe_ix ix_list (pv 2) pe_int (fun _ _ => rfl)) pe_non)))) pss_nil)
      (pss_cons (ps_if (pt_cmpR op_eq (pv 1) (pgl G.onw) (nomark _)) (pss_one (ps_ret (pe_meth (pv 0) T.cl mB.mt GB hr mB.bd .nil pass0 (pa_cons pe_int pa_nil)))) pss_nil)
      (pss_one (ps_ret (pe_meth (pv 0) T.cl mB.mt GB hr mB.bd .nil pass0 (pa_cons (pe_un un_neg pe_int) pa_nil))))))
theorem sc5 : FnScope ["self", "way", "node"] ["self", "way"] (defScope (sTree 5)) := ⟨rfl, rfl, rfl, by decide +kernel, rfl, by decide +kernel, by decide +kernel⟩
theorem ok_go {f C D f1 f2 f3 : Addr} {fd d1 d2 d3 : FuncData} (G : Gls mg) (T : Txt K C D) (mR : MDef K C "row_shown" "Tree.row_shown" (sTree 11) f1 d1 ["self", "node"]) (mB : MDef K C "beside" "Tree.beside" (sTree 10) f2 d2 ["self", "step"])
    (mC : MDef K C "reached" "Tree.reached" (sTree 9) f3 d3 ["self", "way"]) (F : Fun K "go" "Tree.go" (sTree 5) f fd) : FnOk P w K mg base CX0 3 f fd ["self", "way"] (spGo C) := by
  have GC : FnOk P w K mg base CX0 2 f3 d3 ["self", "way"] (spReached C) := ok_reached G T mR mB mC.fn
  refine F.ok sc5 (fun vs H Q E h => ?_) (fun cdv A outer s H vs Q E hr h => ?_)
  · obtain ⟨p, t, a, n, rfl, _⟩ := h
    rfl
  · obtain ⟨p, t, a, n, rfl, h1, k⟩ := h
    refine ⟨xGo K C, ?_, rd_go T h1 n k⟩
    exact pss_cons (ps_if (pt_cmpR op_gt (pv 1) (pgl G.back) (nomark _)) (pss_one (ps_ret (pgl G.nallow))) pss_nil)
      (pss_cons (ps_set (i := 2) sc5.nd rfl (Or.inl rfl) (pe_meth (pv 0) T.cl mC.mt GC hr mC.bd .nil pass0 (pa_cons (pv 1) pa_nil)))
      (pss_cons (ps_if (pt_cmp (pc_isN (pv 2))) (pss_one (ps_ret (pgl G.nthere))) pss_nil)
      (pss_cons (ps_fld (pv 0) (pv 2) rfl)
      (pss_one (ps_ret (pv 2))))))
theorem sc6 : FnScope ["self", "x", "y", "node", "layer", "place"] ["self", "x", "y"] (defScope (sTree 6)) := ⟨rfl, rfl, rfl, by decide +kernel, rfl, by decide +kernel, by decide +kernel⟩
theorem ok_pick {f C D f1 f2 f3 f4 : Addr} {fd d1 d2 d3 d4 : FuncData} (G : Gls mg) (T : Txt K C D) (mR : MDef K C "row_shown" "Tree.row_shown" (sTree 11) f1 d1 ["self", "node"]) (mA : MDef K C "all_shown" "Tree.all_shown" (sTree 12) f2 d2 ["self"])
    (dr : Drw P w K mg base f3 d3) (mN : MDef K C "drawn_nodes" "Tree.drawn_nodes" (sTree 13) f4 d4 ["self"]) (F : Fun K "pick" "Tree.pick" (sTree 6) f fd) : FnOk P w K mg base CX0 6 f fd ["self", "x", "y"] (spPick C) := by
  have GN : FnOk P w K mg base CX0 5 f4 d4 ["self"] (spDrawnNodes C) := ok_drawnNodes G T mR mA dr mN.fn
  refine F.ok sc6 (fun vs H Q E h => ?_) (fun cdv A outer s H vs Q E hr h => ?_)
  · obtain ⟨p, t, a, x, y, rfl, _⟩ := h
    rfl
  · obtain ⟨p, t, a, x, y, rfl, h1, k⟩ := h
    refine ⟨xPick K C, ?_, rd_pick T h1 x y k⟩
    exact pss_cons (ps_for PassesOwn.never rfl (pi_list (pe_meth0 (pv 0) T.cl mN.mt GN hr mN.bd .nil pass0))
        (pg_tup rfl (pgs_cons (pg_name (i := 3) sc6.nd rfl (Or.inl rfl)) (pgs_cons (pg_name (i := 4) sc6.nd rfl (Or.inl rfl)) (pgs_cons (pg_name (i := 5) sc6.nd rfl (Or.inl rfl)) pgs_nil))))
        (pss_one (ps_if ((pw_and (pt_cmpR op_eq (pv 4) (pv 2) (nomark _)) (pw_and1 (pt_cmpR op_in_seq (pv 5) (pe_tup (pa_cons (pv 1) (pa_cons (pe_op op_sub (pv 1) pe_int) pa_nil))) rfl))).pt)
          (pss_cons (ps_fld (pv 0) (pv 3) rfl) (pss_one (ps_ret (pv 3)))) pss_nil)))
      (pss_one (ps_ret (pgl G.nthere)))
theorem sc7 : FnScope ["self"] ["self"] (defScope (sTree 7)) := ⟨rfl, rfl, rfl, by decide +kernel, rfl, by decide +kernel, by decide +kernel⟩
theorem ok_at {f C D : Addr} {fd : FuncData} (T : Txt K C D) (F : Fun K "at" "Tree.at" (sTree 7) f fd) : FnOk P w K mg base CX0 1 f fd ["self"] (spAt C) := by
  refine F.ok sc7 (fun vs H Q E h => ?_) (fun cdv A outer s H vs Q E hr h => ?_)
  · obtain ⟨p, t, a, rfl, _⟩ := h
    rfl
  · obtain ⟨p, t, a, rfl, h1, k⟩ := h
    exact ⟨xAt K, pss_one (ps_ret (pe_fld (pv 0) rfl)), rd_at T h1 k⟩
theorem sc8 : FnScope ["self", "found", "numbers", "node"] ["self"] (defScope (sTree 8)) := ⟨rfl, rfl, rfl, by decide +kernel, rfl, by decide +kernel, by decide +kernel⟩
theorem ok_show {f C D f1 f2 f3 f4 : Addr} {fd d1 d2 d3 d4 : FuncData} (G : Gls mg) (T : Txt K C D) (mR : MDef K C "row_shown" "Tree.row_shown" (sTree 11) f1 d1 ["self", "node"]) (mA : MDef K C "all_shown" "Tree.all_shown" (sTree 12) f2 d2 ["self"])
    (dr : Drw P w K mg base f3 d3) (mN : MDef K C "drawn_nodes" "Tree.drawn_nodes" (sTree 13) f4 d4 ["self"]) (F : Fun K "show" "Tree.show" (sTree 8) f fd) : FnOk P w K mg base CX0 6 f fd ["self"] (spShow C) := by
  have GN : FnOk P w K mg base CX0 5 f4 d4 ["self"] (spDrawnNodes C) := ok_drawnNodes G T mR mA dr mN.fn
  refine F.ok sc8 (fun vs H Q E h => ?_) (fun cdv A outer s H vs Q E hr h => ?_)
  · obtain ⟨p, t, a, rfl, _⟩ := h
    rfl
  · obtain ⟨p, t, a, rfl, h1, k⟩ := h
    refine ⟨xShow K C, ?_, rd_show T h1 k⟩
    exact pss_cons (ps_set (i := 1) sc8.nd rfl (Or.inl rfl) (pe_meth0 (pv 0) T.cl mN.mt GN hr mN.bd .nil pass0))
      (pss_cons (ps_set (i := 2) sc8.nd rfl (Or.inl rfl) (pe_lst (pa_cons (p_len G.len (pv 1)) pa_nil)))
      (pss_cons (ps_for PassesOwn.never rfl (pi_list (pv 1)) (pg_name (i := 3) sc8.nd rfl (Or.inl rfl)) (pss_one (ps_expr (pe_bm PySem.F.plainAttrs_list PySem.F.slot_list_extend PySem.F.type_list_extend mt_extendT (pv 2) (pa_cons (pv 3) pa_nil)))))
      (pss_one (ps_ret (pv 2)))))
end
end TW
namespace TW
open PySem L2 WT
open Kh309 (Abs Call)
/-- all that the text's top has made -/
structure Whole (K : PySem.W.Frag) (mg : Str → Option Value) (C D : Addr) : Prop where
  G : Gls mg
  T : Txt K C D
  moved : ∃ f fd, Def K mg "moved" sMoved f fd ["outline", "move"]
  least : ∃ f fd, Def K mg "least_move" sLeast f fd ["before", "outline"]
  joined : ∃ f fd, Def K mg "joined" sJoined f fd ["before", "outline"]
  drawing : ∃ f fd, DCls K mg D f fd
  drawn : ∃ f fd, Def K mg "drawn" sDrawn f fd ["nodes", "rows"]
  tree : ∃ f fd, Mk K C f ∧ Fun K "__init__" "Tree.__init__" (sTree 0) f fd ∧ Binds K fd ["self"] []
  mgT : mg "Tree" = some (.ref C)
  begin_ : ∃ f fd, MDef K C "begin" "Tree.begin" (sTree 1) f fd ["self"]
  add : ∃ f fd, MDef K C "add" "Tree.add" (sTree 2) f fd ["self", "parent"]
  drop : ∃ f fd, MDef K C "drop" "Tree.drop" (sTree 3) f fd ["self", "node"]
  fold : ∃ f fd, MDef K C "fold" "Tree.fold" (sTree 4) f fd ["self", "node", "shut"]
  go : ∃ f fd, MDef K C "go" "Tree.go" (sTree 5) f fd ["self", "way"]
  pick : ∃ f fd, MDef K C "pick" "Tree.pick" (sTree 6) f fd ["self", "x", "y"]
  at_ : ∃ f fd, MDef K C "at" "Tree.at" (sTree 7) f fd ["self"]
  show_ : ∃ f fd, MDef K C "show" "Tree.show" (sTree 8) f fd ["self"]
  reached : ∃ f fd, MDef K C "reached" "Tree.reached" (sTree 9) f fd ["self", "way"]
  beside : ∃ f fd, MDef K C "beside" "Tree.beside" (sTree 10) f fd ["self", "step"]
  row : ∃ f fd, MDef K C "row_shown" "Tree.row_shown" (sTree 11) f fd ["self", "node"]
  allS : ∃ f fd, MDef K C "all_shown" "Tree.all_shown" (sTree 12) f fd ["self"]
  nodes : ∃ f fd, MDef K C "drawn_nodes" "Tree.drawn_nodes" (sTree 13) f fd ["self"]
  free : ∃ f fd, MDef K C "least_free" "Tree.least_free" (sTree 14) f fd ["self"]
  within_ : ∃ f fd, MDef K C "stands_within" "Tree.stands_within" (sTree 15) f fd ["self", "node"]
  allW : ∃ f fd, MDef K C "all_within" "Tree.all_within" (sTree 16) f fd ["self", "node"]
  forget : ∃ f fd, MDef K C "forget" "Tree.forget" (sTree 17) f fd ["self", "node"]
  answer : ∃ f fd, Def K mg "answer" sAnswer f fd ["tree", "call", "numbers"]
  tab : ∃ d, mg "NUMBERS_BEHIND" = some (.ref d) ∧ TabIn K d
section
variable {P : Program} {w : World} {K : PySem.W.Frag} {mg : Str → Option Value} {base : Heap}
abbrev N8 : List Str := ["tree", "call", "numbers"]
theorem scAnswer : FnScope N8 N8 (defScope sAnswer) := ⟨rfl, rfl, rfl, by decide +kernel, rfl, by decide +kernel, by decide +kernel⟩
theorem ok_answer {f C D : Addr} {fd : FuncData} (W : Whole K mg C D) (F : Fun K "answer" "answer" sAnswer f fd) : FnOk P w K mg base CX0 7 f fd N8 (spAnswer C) := by
  have G := W.G
  have T := W.T
  obtain ⟨_, _, dm⟩ := W.moved
  obtain ⟨_, _, dl⟩ := W.least
  obtain ⟨_, _, dj⟩ := W.joined
  obtain ⟨_, _, dc⟩ := W.drawing
  obtain ⟨fdr, ddr, dd⟩ := W.drawn
  obtain ⟨f1, d1, mB⟩ := W.begin_
  obtain ⟨f2, d2, mA⟩ := W.add
  obtain ⟨f3, d3, mD⟩ := W.drop
  obtain ⟨f4, d4, mF⟩ := W.fold
  obtain ⟨f5, d5, mG⟩ := W.go
  obtain ⟨f6, d6, mP⟩ := W.pick
  obtain ⟨f7, d7, mT⟩ := W.at_
  obtain ⟨f8, d8, mS⟩ := W.show_
  obtain ⟨_, _, mRe⟩ := W.reached
  obtain ⟨_, _, mBe⟩ := W.beside
  obtain ⟨_, _, mR⟩ := W.row
  obtain ⟨_, _, mAS⟩ := W.allS
  obtain ⟨_, _, mN⟩ := W.nodes
  obtain ⟨_, _, mL⟩ := W.free
  obtain ⟨_, _, mW⟩ := W.within_
  obtain ⟨_, _, mAW⟩ := W.allW
  obtain ⟨_, _, mFo⟩ := W.forget
  have dr : Drw P w K mg base fdr ddr := ⟨ok_drawn G T dm dl dj dc dd.fn, dd.mg, dd.fn.kp, dd.bd⟩
  have GB : FnOk P w K mg base CX0 1 f1 d1 ["self"] (spBegin C) := ok_begin G T mB.fn
  have GA : FnOk P w K mg base CX0 2 f2 d2 ["self", "parent"] (spAdd C) := ok_add G T mL mA.fn
  have GD : FnOk P w K mg base CX0 2 f3 d3 ["self", "node"] (spDrop C) := ok_drop G T mW mAW mFo mD.fn
  have GF : FnOk P w K mg base CX0 2 f4 d4 ["self", "node", "shut"] (spFold C) := ok_fold G T mW mF.fn
  have GG : FnOk P w K mg base CX0 3 f5 d5 ["self", "way"] (spGo C) := ok_go G T mR mBe mRe mG.fn
  have GP : FnOk P w K mg base CX0 6 f6 d6 ["self", "x", "y"] (spPick C) := ok_pick G T mR mAS dr mN mP.fn
  have GT : FnOk P w K mg base CX0 1 f7 d7 ["self"] (spAt C) := ok_at T mT.fn
  have GS : FnOk P w K mg base CX0 6 f8 d8 ["self"] (spShow C) := ok_show G T mR mAS dr mN mS.fn
  refine F.ok scAnswer (fun vs H Q E h => ?_) (fun cdv A outer s H vs Q E hr h => ?_)
  · obtain ⟨p, ln, t, a, c, rfl, _⟩ := h
    rfl
  · obtain ⟨p, ln, t, a, c, rfl, h1, h2, h3, k⟩ := h
    have hr1 : Room 1 _ := hr.mono (by decide)
    have hr2 : Room 2 _ := hr.mono (by decide)
    have hr3 : Room 3 _ := hr.mono (by decide)
    refine ⟨xAnswer K C, ?_, rd_answer T h3 c h1 h2 k⟩
    exact pss_cons (ps_if (pt_cmpR op_eq (pv 1) (pgl G.g0) (nomark _)) (pss_one (ps_ret (pe_lst (pa_cons (pe_meth0 (pv 0) T.cl mB.mt GB hr1 mB.bd .nil pass0) pa_nil)))) pss_nil)
      (pss_cons (ps_if (pt_cmpR op_eq (pv 1) (pgl G.g1) (nomark _)) (pss_one (ps_ret (pe_lst (pa_cons (pe_meth (pv 0) T.cl mA.mt GA hr2 mA.bd .nil pass0 (pa_cons (pe_ix ix_list (pv 2) pe_int (fun _ _ => rfl)) pa_nil)) pa_nil)))) pss_nil)
      (pss_cons (ps_if (pt_cmpR op_eq (pv 1) (pgl G.g2) (nomark _)) (pss_one (ps_ret (pe_lst (pa_cons (pe_meth (pv 0) T.cl mD.mt GD hr2 mD.bd .nil pass0 (pa_cons (pe_ix ix_list (pv 2) pe_int (fun _ _ => rfl)) pa_nil)) pa_nil)))) pss_nil)
      (pss_cons (ps_if (pt_cmpR op_eq (pv 1) (pgl G.g3) (nomark _)) (pss_one (ps_ret (pe_lst (pa_cons (pe_meth (pv 0) T.cl mF.mt GF hr2 mF.bd .nil pass0 (pa_cons (pe_ix ix_list (pv 2) pe_int (fun _ _ => rfl)) (pa_cons (pe_ix ix_list (pv 2) pe_int (fun _ _ => rfl)) pa_nil))) pa_nil)))) pss_nil)
      (pss_cons (ps_if (pt_cmpR op_eq (pv 1) (pgl G.g4) (nomark _)) (pss_one (ps_ret (pe_lst (pa_cons (pe_meth (pv 0) T.cl mG.mt GG hr3 mG.bd .nil pass0 (pa_cons (pe_ix ix_list (pv 2) pe_int (fun _ _ => rfl)) pa_nil)) pa_nil)))) pss_nil)
      (pss_cons (ps_if (pt_cmpR op_eq (pv 1) (pgl G.g5) (nomark _)) (pss_one (ps_ret (pe_lst (pa_cons (pe_meth (pv 0) T.cl mP.mt GP hr mP.bd .nil pass0 (pa_cons (pe_ix ix_list (pv 2) pe_int (fun _ _ => rfl)) (pa_cons (pe_ix ix_list (pv 2) pe_int (fun _ _ => rfl)) pa_nil))) pa_nil)))) pss_nil)
      (pss_cons (ps_if (pt_cmpR op_eq (pv 1) (pgl G.g6) (nomark _)) (pss_one (ps_ret (pe_lst (pa_cons (pe_meth0 (pv 0) T.cl mT.mt GT hr1 mT.bd .nil pass0) pa_nil)))) pss_nil)
      (pss_one (ps_ret (pe_meth0 (pv 0) T.cl mS.mt GS hr mS.bd .nil pass0)))))))))
abbrev N9 : List Str := ["calls", "tree", "answered", "here", "call", "behind", "numbers"]
theorem scAnswers : FnScope N9 ["calls"] (defScope sAnswers) := ⟨rfl, rfl, rfl, by decide +kernel, rfl, by decide +kernel, by decide +kernel⟩
theorem ok_answers {f C D : Addr} {fd : FuncData} (W : Whole K mg C D) (F : Fun K "answers" "answers" sAnswers f fd) : FnOk P w K mg base CX0 8 f fd ["calls"] (spAnswers K) := by
  have G := W.G
  have T := W.T
  obtain ⟨f1, d1, mB⟩ := W.begin_
  obtain ⟨f0, d0, MT, FT, bT⟩ := W.tree
  obtain ⟨fa, da, dA⟩ := W.answer
  obtain ⟨dn, mgN, TB⟩ := W.tab
  have GT : FnOk P w K mg base CX0 2 f0 d0 ["self"] (spInit C) := ok_init G T mB FT
  have GA : FnOk P w K mg base CX0 7 fa da N8 (spAnswer C) := ok_answer W dA.fn
  refine F.ok scAnswers (fun vs H Q E h => ?_) (fun cdv A outer s H vs Q E hr h => ?_)
  · obtain ⟨a, ns, rfl, _⟩ := h
    rfl
  · obtain ⟨a, ns, rfl, h1, h2, k⟩ := h
    have hr3 : Room 3 _ := hr.mono (by decide)
    refine ⟨xAnswers K C, ?_, rd_answers T h1 h2 k⟩
    exact pss_cons (ps_set (i := 1) scAnswers.nd rfl (Or.inl rfl) (pe_make0 MT GT hr3 rfl W.mgT bT .nil pass0))
      (pss_cons (ps_set (i := 2) scAnswers.nd rfl (Or.inl rfl) (pe_lst pa_nil))
      (pss_cons (ps_set (i := 3) scAnswers.nd rfl (Or.inl rfl) pe_int)
      (pss_cons (ps_while PassesOwn.never (pt_cmpR op_lt (pv 3) (p_len G.len (pv 0)) (nomark _))
        (pss_cons (ps_set (i := 4) scAnswers.nd rfl (Or.inl rfl) (pe_ix ix_list (pv 0) (pv 3) (fun _ _ => rfl)))
        (pss_cons (ps_set (i := 5) scAnswers.nd rfl (Or.inl rfl) (pe_op op_add (pe_op op_add (pv 3) pe_int) (pe_tab TB rfl mgN (pv 4) (fun _ _ => rfl))))
        (pss_cons (ps_set (i := 6) scAnswers.nd rfl (Or.inl rfl) (pe_call GA hr rfl dA.mg dA.fn.kp dA.bd .nil pass0 (pa_cons (pv 1) (pa_cons (pv 4) (pa_cons (pe_slice sl_list (pv 0) (po_some (pe_op op_add (pv 3) pe_int)) (po_some (pv 5))) pa_nil)))))
        (pss_cons (ps_expr (pe_bm PySem.F.plainAttrs_list PySem.F.slot_list_append PySem.F.type_list_append mt_append (pv 2) (pa_cons (p_len G.len (pv 6)) pa_nil)))
        (pss_cons (ps_expr (pe_bm PySem.F.plainAttrs_list PySem.F.slot_list_extend PySem.F.type_list_extend mt_extend (pv 2) (pa_cons (pv 6) pa_nil)))
        (pss_one (ps_set (i := 3) scAnswers.nd rfl (Or.inl rfl) (pv 5)))))))))
      (pss_one (ps_ret (pv 2))))))
end
end TW
namespace TW
open PySem PySem.Spec PyProof.Rows L2
/-- the call of answers, at the heap behind the top: what comes back is a list of just these numbers -/
theorem spec_call {P : Program} {w : World} {K : PySem.W.Frag} {mg mb : Str → Option Value} {k : Nat} {fa a : Addr} {fd : FuncData} {x : Str} {sp : Sp} {s1 : Shared} {vs : List Value} {ns out : List Int}
    (KX : K.In s1.heap) (hns : s1.heap.Ns mainGlobals mg) (hb : s1.heap.Ns builtinsNs mb) (hbb : ∀ x : Str, x ≠ "__name__" → mb x = bootBuiltins x) (hlim : s1.heap.NoLimit) (hg : s1.gens = #[])
    (ha : s1.heap.get? a = some { cls := .type "list", data := .seq vs.toArray }) (hi : IntsAre vs ns) (hl : ns.length ≤ sizeLine) (hr : Room k callerA)
    (F : ∀ base : Heap, K.In base → base.Ns mainGlobals mg → FnOk P w K mg base CX0 k fa fd [x] sp) (hbind : ∀ (s : Shared) (u : Value), BindsTo s fd ⟨[u], []⟩ [(x, u)])
    (hsp : ∀ H : Hp, SqL K H a (ns.map V.int) → sp [.ref a] H (fun v H' => ∃ l, v = .ref l ∧ H' l = some (.lst (zs out))) fun _ _ _ => False) :
    codeAny (model P w) callerA (.call (.ref fa) ⟨[.ref a], []⟩) (fun r s' => (∃ l its n, r = .ok (.ret (.ref l)) ∧ s'.heap.get? l = some { cls := .type "list", data := .seq its n } ∧ IntsAre its.toList out) ∧ OldK s1.heap s'.heap ∧ s'.os = s1.os ∧ AllBare s'.gens) s1 := by
  have rv := vals_ints hi
  have lenV := hi.length
  have core : ∀ H : Hp, Only H → SqL K H a (ns.map V.int) → HOk P w H s1.heap → (∀ b, H b ≠ none → b = a) → (H a ≠ none → K.lookup a = none) →
      codeAny (model P w) callerA (.call (.ref fa) ⟨[.ref a], []⟩) (fun r s' => (∃ l its n, r = .ok (.ret (.ref l)) ∧ s'.heap.get? l = some { cls := .type "list", data := .seq its n } ∧ IntsAre its.toList out) ∧ OldK s1.heap s'.heap ∧ s'.os = s1.os ∧ AllBare s'.gens) s1 := by
    intro H hO hS hok hA hK
    have base_of : ∀ {b : Addr} {o : Obj}, s1.heap.get? b = some o → H b = none → (hidT s1.heap H).get? b = some o := fun e n => hidT_get e n
    have noA : ∀ {b : Addr} {o : Obj} {es : Array DictEntry} {ep : Nat}, s1.heap.get? b = some o → o.data = .dict es ep → H b = none := fun {b o es ep} e d => by
      cases q : H b with
      | none => rfl
      | some u =>
        have e' : b = a := hA b (by rw [q]; simp)
        subst e'
        rw [ha] at e
        cases e
        have d' : Data.seq vs.toArray _ = Data.dict es ep := d
        cases d'
    have nsK : ∀ {b : Addr} {m : Str → Option Value}, s1.heap.Ns b m → (hidT s1.heap H).Ns b m := fun {b m} ⟨o, es, ep, e, d, r⟩ => ⟨o, es, ep, base_of e (noA e d), d, r⟩
    have hKb : K.In (hidT s1.heap H) := fun b o e => base_of (KX b o e) (by
      cases q : H b with
      | none => rfl
      | some u =>
        have e' : b = a := hA b (by rw [q]; simp)
        subst e'
        rw [hK (by rw [q]; simp)] at e
        cases e)
    have hM : Mod K mg (hidT s1.heap H) := ⟨hKb, nsK hns, ⟨mb, nsK hb, hbb⟩, let ⟨mc, h1, h2⟩ := hlim; ⟨mc, nsK h1, h2⟩⟩
    have e0 : Env0 P w K mg (hidT s1.heap H) callerA [] s1 H := ⟨rfl, hM, fun b o e => of_hidT e, Nat.le_of_eq (hidT_size _ _), trivial, fun b hb => absurd (show b ∈ ([] : List Addr) from hb) (by simp), hok, .of_eq hg⟩
    refine codeAny_mono ((F _ hKb (nsK hns)).run callerA [] s1 H ⟨[.ref a], []⟩ [.ref a] [.ref a] _ _ hr e0 (hbind s1 (.ref a)) (.cons rfl .nil) (hsp H hS)) fun r s' h => ?_
    cases r with
    | error e => exact False.elim h
    | ok fl =>
      cases fl with
      | next => exact False.elim h
      | brk => exact False.elim h
      | cont => exact False.elim h
      | ret u =>
        obtain ⟨v, H', os, bare, un, hok', r', l, ev, hl'⟩ := h
        subst ev
        obtain rfl : u = Value.ref l := r'
        obtain ⟨_, its, n, rvs, e⟩ := hok' l _ hl'
        refine ⟨⟨l, its.toArray, n, rfl, e, by simpa using rvs.ints⟩, OldK.of_keep fun b o e => ?_, os, bare⟩
        cases q : H b with
        | none => exact un.keep b o e q (by intro z; exact absurd (show b ∈ ([] : List Addr) from z) (by simp)) (by simp)
        | some u =>
          rcases hO b with z | ⟨ob, xs, z⟩
          · rw [q] at z
            cases z
          · have z2 := un.frzs b ob _ z
            obtain ⟨e1, _⟩ := hok b _ z
            obtain ⟨e2, _⟩ := hok' b _ z2
            rw [e] at e1
            cases e1
            exact e2
  cases hk : K.lookup a with
  | some o =>
    have e := KX a o hk
    rw [ha] at e
    cases e
    refine core (fun _ => none) (fun _ => .inl rfl) (.inr ⟨_, vs.toArray, _, hk, rfl, rfl, rfl, by rw [List.size_toArray, lenV]; exact hl, by simpa using rv⟩) (fun b u z => by have z' : (none : Option HO) = some u := z; cases z') (fun b z => absurd rfl z) fun z => absurd rfl z
  | none =>
    refine core (fun b => if b = a then some (.frz { cls := .type "list", data := .seq vs.toArray } (.lst (ns.map V.int))) else none) (fun b => ?_) (.inl (.inr ⟨{ cls := .type "list", data := .seq vs.toArray }, if_pos rfl⟩)) (fun b u z => ?_) (fun b z => ?_) fun _ => hk
    · by_cases hb : b = a
      · exact .inr ⟨_, _, if_pos hb⟩
      · exact .inl (if_neg hb)
    · by_cases hb : b = a
      · have z' := (if_pos hb).symm.trans z
        cases z'
        subst hb
        exact ⟨ha, by rw [List.length_map]; exact hl, vs, _, rv, ha⟩
      · have z' := (if_neg hb).symm.trans z
        cases z'
    · by_cases hb : b = a
      · exact hb
      · exact absurd (if_neg hb) z
open PySem.W
abbrev row : OpenSpec := PySem.Challenge.rw_walktree_s01_answers
theorem walkS {q : Program} {loose : List Str} {XP : (Str → Option Value) → Heap → Prop} {YP : World → Heap → Prop} {d : DefRec} {K : Params → PySem.W.Frag} (hdf : d.params.defaults = [])
    (hY : ∀ (w : World) (h : Heap), YP w h → (K w.params).In h)
    (F : ∀ (w : World) (mg : Str → Option Value) (fa : Addr) (h : Heap), (K w.params).In h → h.Ns mainGlobals mg → mg d.name = some (.ref fa) →
      ∃ fd : FuncData, (∀ (s : Shared) (u : Value), BindsTo s fd ⟨[u], []⟩ [("calls", u)]) ∧ ∀ base : Heap, (K w.params).In base → base.Ns mainGlobals mg → FnOk row.prog w (K w.params) mg base CX0 8 fa fd ["calls"] (spAnswers (K w.params))) :
    WalkOS q loose XP YP row d [] (fun f vs => PySem.call f vs) := by
  intro w s₀ s₁ mg mb G Y fa o pm cd doc dV kV ho hd hcd hD hmg hg args vals as hpre hlay hrd hwl hlo
  have hsh : WShape.hasAll [] args [.list .int] = true := os_shapes args hpre
  obtain ⟨dd, r, rfl, h1, h2⟩ := hasAllW_cons hsh
  obtain rfl := hasAllW_nil h2
  obtain ⟨xs, rfl, h3⟩ := hasW_list h1
  obtain ⟨ns, rfl⟩ := items_int h3
  have eo : ofPy (PyData.list (ns.map PyData.int)) = WData.list (ns.map WData.int) := os_list rfl
  have hdec := os_pre_isSome hpre
  rw [← eo] at hdec
  obtain ⟨dec, _, hmost, _⟩ := os_dec_ints hdec
  rw [eo] at dec
  have asked : PyKh309.answers_asked ns = true := os_pre_asked hpre dec
  cases hwl with
  | cons w1 w2 =>
    cases w2
    cases w1 with
    | list hob hall =>
      have KX := hY w _ Y
      obtain ⟨fd, hbd, hF⟩ := F w mg fa _ KX G.T.g hmg
      refine enter_call (codeAny_mono (spec_call (out := PyKh309.answers ns) KX G.T.g G.T.b G.T.builtins G.T.nolimit hg hob (Att.ints_of_wellAll ns _ hall) (by rw [sizeLine_eq]; omega) ⟨rfl, by decide, by decide⟩ hF hbd fun H hS => ⟨_, ns, rfl, hS, asked, fun l H' hl => ⟨l, rfl, hl⟩⟩) fun r s' hq => ?_)
      obtain ⟨⟨l, its, n, rfl, hl, hints⟩, h4, h5, h6⟩ := hq
      refine ⟨.inl ⟨.ref l, _, _, rfl, osNone, readsW_of_reads (Reads.list hl rfl rfl (IntsAre.reads _ hints)), osPost (os_post dec (os_same_list rfl)), fun h => absurd h Bool.false_ne_true⟩, h4, h5, h6⟩
end TW
namespace TW
open PySem L2
/-! ### what the top has written -/
abbrev BindOk (x qual : Str) (st : Stmt) (ps : List Str) : Prop := ∀ (kV doc pm : Value) (an : Option Addr) (cdv ct : Value) (us : List Value), us.length = ps.length →
  bindArgs (PySem.W.fnOf x qual (defArgs st) (defBody st) (defScope st) .none kV doc pm an cdv ct) ⟨us, []⟩ = pure (ps.zip us)
section
variable {K : PySem.W.Frag} {h : Heap} {mg : Str → Option Value} {x qual : Str} {st : Stmt} {ps : List Str} {C f : Addr} {od an : Option Addr} {sl : Array (Option Value)} {oc kV dc pm cd ct : Value}
theorem def_mk (hb : BindOk x x st ps) (X : K.In h) (G : h.Ns mainGlobals mg) (a : PySem.W.nsIn K mainGlobals x = some (some (.ref f)))
    (l : K.lookup f = some ⟨oc, od, .func (PySem.W.fnOf x x (defArgs st) (defBody st) (defScope st) .none kV dc pm an cd ct), sl⟩) (c : PySem.W.codeIn K cd x = true) (k : PySem.W.keepIn K (.ref f) = true) : ∃ f fd, Def K mg x st f fd ps :=
  have F := fun_mk (st := st) l c k
  ⟨_, _, F, PySem.W.mg_of X G a, F.binds hb⟩
theorem mdef_mk (hb : BindOk x qual st ps) (a : PySem.W.findIn K (.ref C) x = some (some (.ref f))) (i : PySem.W.isFn K (.ref f) = true)
    (l : K.lookup f = some ⟨oc, od, .func (PySem.W.fnOf x qual (defArgs st) (defBody st) (defScope st) .none kV dc pm an cd ct), sl⟩) (c : PySem.W.codeIn K cd qual = true) (k : PySem.W.keepIn K (.ref f) = true) : ∃ f fd, MDef K C x qual st f fd ps :=
  have F := fun_mk (st := st) l c k
  ⟨_, _, F, ⟨a, i, k⟩, F.binds hb⟩
theorem init_mk (hb : BindOk x qual st ps) (a : PySem.W.findIn K (.ref C) "__init__" = some (some (.ref f))) (i : PySem.W.isFn K (.ref f) = true)
    (l : K.lookup f = some ⟨oc, od, .func (PySem.W.fnOf x qual (defArgs st) (defBody st) (defScope st) .none kV dc pm an cd ct), sl⟩) (c : PySem.W.codeIn K cd qual = true) (k : PySem.W.keepIn K (.ref f) = true)
    (mk : PySem.W.makesIn K C = true) (kc : PySem.W.keepIn K (.ref C) = true) : ∃ f fd, Mk K C f ∧ Fun K x qual st f fd ∧ Binds K fd ps [] :=
  have F := fun_mk (st := st) l c k
  ⟨_, _, ⟨mk, a, i, kc⟩, F, F.binds hb⟩
theorem gl_mk {i : Int} {t : Tok} (X : K.In h) (G : h.Ns mainGlobals mg) (e : PySem.W.nsIn K mainGlobals x = some (some (.int i t))) : ∃ t, mg x = some (.int i t) := ⟨t, PySem.W.mg_of X G e⟩
theorem tab_mk {d : Addr} {a0 a1 a2 a3 a4 a5 a6 a7 b0 b1 b2 b3 b4 b5 b6 b7 : Tok} {ep : Nat} (X : K.In h) (G : h.Ns mainGlobals mg) (e : PySem.W.nsIn K mainGlobals "NUMBERS_BEHIND" = some (some (.ref d)))
    (l : K.lookup d = some ⟨.type "dict", none, .dict #[⟨0, .int 0 a0, .int 0 b0⟩, ⟨1, .int 1 a1, .int 1 b1⟩, ⟨2, .int 2 a2, .int 1 b2⟩, ⟨3, .int 3 a3, .int 2 b3⟩, ⟨4, .int 4 a4, .int 1 b4⟩, ⟨5, .int 5 a5, .int 2 b5⟩, ⟨6, .int 6 a6, .int 0 b6⟩, ⟨7, .int 7 a7, .int 0 b7⟩] ep, #[]⟩) :
    ∃ d, mg "NUMBERS_BEHIND" = some (.ref d) ∧ TabIn K d := ⟨d, PySem.W.mg_of X G e, a0, a1, a2, a3, a4, a5, a6, a7, b0, b1, b2, b3, b4, b5, b6, b7, ep, l⟩
theorem cls_mk (pg : PySem.W.plainGet K C Str.empty = true) (hd : PySem.W.hasDictIn K C = true) (po : PySem.W.plainOver K C = true) (sa : PySem.W.findIn K (.ref C) "__setattr__" = some (some (.builtin "object.__setattr__"))) : Cls K C := ⟨pg, hd, po, sa⟩
theorem ans_mk {w : World} {fa D : Addr} (hb : BindOk "answers" "answers" sAnswers ["calls"]) (X : K.In h) (G : h.Ns mainGlobals mg) (hfa : mg "answers" = some (.ref fa)) (W : Whole K mg C D) (a : PySem.W.nsIn K mainGlobals "answers" = some (some (.ref f)))
    (l : K.lookup f = some ⟨oc, od, .func (PySem.W.fnOf "answers" "answers" (defArgs sAnswers) (defBody sAnswers) (defScope sAnswers) .none kV dc pm an cd ct), sl⟩) (c : PySem.W.codeIn K cd "answers" = true) (k : PySem.W.keepIn K (.ref f) = true) :
    ∃ fd : FuncData, (∀ (s : Shared) (u : Value), BindsTo s fd ⟨[u], []⟩ [("calls", u)]) ∧ ∀ base : Heap, K.In base → base.Ns mainGlobals mg → FnOk row.prog w K mg base CX0 8 fa fd ["calls"] (spAnswers K) := by
  have e := hfa.symm.trans (PySem.W.mg_of X G a)
  cases e
  have F := fun_mk (st := sAnswers) l c k
  exact ⟨_, fun s u => .of_eq (hb _ _ _ _ _ _ [u] rfl), fun base _ _ => ok_answers W F⟩
end
theorem bd_moved : BindOk "moved" "moved" sMoved ["outline", "move"] := fun _ _ _ _ _ _ us hl => match us, hl with | [_, _], _ => rfl
theorem bd_least_move : BindOk "least_move" "least_move" sLeast ["before", "outline"] := fun _ _ _ _ _ _ us hl => match us, hl with | [_, _], _ => rfl
theorem bd_joined : BindOk "joined" "joined" sJoined ["before", "outline"] := fun _ _ _ _ _ _ us hl => match us, hl with | [_, _], _ => rfl
theorem bd_drawn : BindOk "drawn" "drawn" sDrawn ["nodes", "rows"] := fun _ _ _ _ _ _ us hl => match us, hl with | [_, _], _ => rfl
theorem bd_answer : BindOk "answer" "answer" sAnswer ["tree", "call", "numbers"] := fun _ _ _ _ _ _ us hl => match us, hl with | [_, _, _], _ => rfl
theorem bd_answers : BindOk "answers" "answers" sAnswers ["calls"] := fun _ _ _ _ _ _ us hl => match us, hl with | [_], _ => rfl
theorem bd_dinit : BindOk "__init__" "Drawing.__init__" sDrawing ["self", "children"] := fun _ _ _ _ _ _ us hl => match us, hl with | [_, _], _ => rfl
theorem bd_tinit : BindOk "__init__" "Tree.__init__" (sTree 0) ["self"] := fun _ _ _ _ _ _ us hl => match us, hl with | [_], _ => rfl
theorem bm_begin : BindOk "begin" "Tree.begin" (sTree 1) ["self"] := fun _ _ _ _ _ _ us hl => match us, hl with | [_], _ => rfl
theorem bm_add : BindOk "add" "Tree.add" (sTree 2) ["self", "parent"] := fun _ _ _ _ _ _ us hl => match us, hl with | [_, _], _ => rfl
theorem bm_drop : BindOk "drop" "Tree.drop" (sTree 3) ["self", "node"] := fun _ _ _ _ _ _ us hl => match us, hl with | [_, _], _ => rfl
theorem bm_fold : BindOk "fold" "Tree.fold" (sTree 4) ["self", "node", "shut"] := fun _ _ _ _ _ _ us hl => match us, hl with | [_, _, _], _ => rfl
theorem bm_go : BindOk "go" "Tree.go" (sTree 5) ["self", "way"] := fun _ _ _ _ _ _ us hl => match us, hl with | [_, _], _ => rfl
theorem bm_pick : BindOk "pick" "Tree.pick" (sTree 6) ["self", "x", "y"] := fun _ _ _ _ _ _ us hl => match us, hl with | [_, _, _], _ => rfl
theorem bm_at : BindOk "at" "Tree.at" (sTree 7) ["self"] := fun _ _ _ _ _ _ us hl => match us, hl with | [_], _ => rfl
theorem bm_show : BindOk "show" "Tree.show" (sTree 8) ["self"] := fun _ _ _ _ _ _ us hl => match us, hl with | [_], _ => rfl
theorem bm_reached : BindOk "reached" "Tree.reached" (sTree 9) ["self", "way"] := fun _ _ _ _ _ _ us hl => match us, hl with | [_, _], _ => rfl
theorem bm_beside : BindOk "beside" "Tree.beside" (sTree 10) ["self", "step"] := fun _ _ _ _ _ _ us hl => match us, hl with | [_, _], _ => rfl
theorem bm_row_shown : BindOk "row_shown" "Tree.row_shown" (sTree 11) ["self", "node"] := fun _ _ _ _ _ _ us hl => match us, hl with | [_, _], _ => rfl
theorem bm_all_shown : BindOk "all_shown" "Tree.all_shown" (sTree 12) ["self"] := fun _ _ _ _ _ _ us hl => match us, hl with | [_], _ => rfl
theorem bm_drawn_nodes : BindOk "drawn_nodes" "Tree.drawn_nodes" (sTree 13) ["self"] := fun _ _ _ _ _ _ us hl => match us, hl with | [_], _ => rfl
theorem bm_least_free : BindOk "least_free" "Tree.least_free" (sTree 14) ["self"] := fun _ _ _ _ _ _ us hl => match us, hl with | [_], _ => rfl
theorem bm_stands_within : BindOk "stands_within" "Tree.stands_within" (sTree 15) ["self", "node"] := fun _ _ _ _ _ _ us hl => match us, hl with | [_, _], _ => rfl
theorem bm_all_within : BindOk "all_within" "Tree.all_within" (sTree 16) ["self", "node"] := fun _ _ _ _ _ _ us hl => match us, hl with | [_, _], _ => rfl
theorem bm_forget : BindOk "forget" "Tree.forget" (sTree 17) ["self", "node"] := fun _ _ _ _ _ _ us hl => match us, hl with | [_, _], _ => rfl
theorem all_mk {K : PySem.W.Frag} {h : Heap} {mg : Str → Option Value} {C D f fa : Addr} {od an : Option Addr} {sl : Array (Option Value)} {oc kV dc pm cd ct : Value} {w : World} (X : K.In h) (G : h.Ns mainGlobals mg) (hfa : mg "answers" = some (.ref fa))
    (aC : PySem.W.nsIn K mainGlobals "Tree" = some (some (.ref C)))
    (aD : PySem.W.nsIn K mainGlobals "Drawing" = some (some (.ref D)))
    (pgC : PySem.W.plainGet K C Str.empty = true)
    (hdC : PySem.W.hasDictIn K C = true)
    (poC : PySem.W.plainOver K C = true)
    (saC : PySem.W.findIn K (.ref C) "__setattr__" = some (some (.builtin "object.__setattr__")))
    (pgD : PySem.W.plainGet K D Str.empty = true)
    (hdD : PySem.W.hasDictIn K D = true)
    (poD : PySem.W.plainOver K D = true)
    (saD : PySem.W.findIn K (.ref D) "__setattr__" = some (some (.builtin "object.__setattr__")))
    (nP : PySem.W.findIn K (.ref C) "parents" = some none)
    (nR : PySem.W.findIn K (.ref C) "rows" = some none)
    (nS : PySem.W.findIn K (.ref C) "shut" = some none)
    (nT : PySem.W.findIn K (.ref C) "standing" = some none)
    (nO : PySem.W.findIn K (.ref D) "outline" = some none)
    (nM : PySem.W.findIn K (.ref D) "moves" = some none)
    (c_root : ∃ t, mg "ROOT" = some (.int 0 t))
    (c_most : ∃ t, mg "MOST_NODES" = some (.int 128 t))
    (c_near : ∃ t, mg "NEAREST" = some (.int 2 t))
    (c_nthere : ∃ t, mg "NOT_THERE" = some (.int (-2) t))
    (c_nallow : ∃ t, mg "NOT_ALLOWED" = some (.int (-22) t))
    (c_noroom : ∃ t, mg "NO_ROOM" = some (.int (-28) t))
    (c_g0 : ∃ t, mg "BEGIN" = some (.int 0 t))
    (c_g1 : ∃ t, mg "ADD" = some (.int 1 t))
    (c_g2 : ∃ t, mg "DROP" = some (.int 2 t))
    (c_g3 : ∃ t, mg "FOLD" = some (.int 3 t))
    (c_g4 : ∃ t, mg "GO" = some (.int 4 t))
    (c_g5 : ∃ t, mg "PICK" = some (.int 5 t))
    (c_g6 : ∃ t, mg "AT" = some (.int 6 t))
    (c_up : ∃ t, mg "UP" = some (.int 0 t))
    (c_down : ∃ t, mg "DOWN" = some (.int 1 t))
    (c_onw : ∃ t, mg "ONWARD" = some (.int 2 t))
    (c_back : ∃ t, mg "BACK" = some (.int 3 t))
    (b_len : PySem.W.nsIn K mainGlobals "len" = some none)
    (b_zip : PySem.W.nsIn K mainGlobals "zip" = some none)
    (b_max : PySem.W.nsIn K mainGlobals "max" = some none)
    (b_min : PySem.W.nsIn K mainGlobals "min" = some none)
    (b_reversed : PySem.W.nsIn K mainGlobals "reversed" = some none)
    (b_list : PySem.W.nsIn K mainGlobals "list" = some none)
    (d_moved : ∃ f fd, Def K mg "moved" sMoved f fd ["outline", "move"])
    (d_least_move : ∃ f fd, Def K mg "least_move" sLeast f fd ["before", "outline"])
    (d_joined : ∃ f fd, Def K mg "joined" sJoined f fd ["before", "outline"])
    (d_drawn : ∃ f fd, Def K mg "drawn" sDrawn f fd ["nodes", "rows"])
    (d_answer : ∃ f fd, Def K mg "answer" sAnswer f fd ["tree", "call", "numbers"])
    (i_d : ∃ f fd, Mk K D f ∧ Fun K "__init__" "Drawing.__init__" sDrawing f fd ∧ Binds K fd ["self", "children"] [])
    (i_t : ∃ f fd, Mk K C f ∧ Fun K "__init__" "Tree.__init__" (sTree 0) f fd ∧ Binds K fd ["self"] [])
    (m_begin : ∃ f fd, MDef K C "begin" "Tree.begin" (sTree 1) f fd ["self"])
    (m_add : ∃ f fd, MDef K C "add" "Tree.add" (sTree 2) f fd ["self", "parent"])
    (m_drop : ∃ f fd, MDef K C "drop" "Tree.drop" (sTree 3) f fd ["self", "node"])
    (m_fold : ∃ f fd, MDef K C "fold" "Tree.fold" (sTree 4) f fd ["self", "node", "shut"])
    (m_go : ∃ f fd, MDef K C "go" "Tree.go" (sTree 5) f fd ["self", "way"])
    (m_pick : ∃ f fd, MDef K C "pick" "Tree.pick" (sTree 6) f fd ["self", "x", "y"])
    (m_at : ∃ f fd, MDef K C "at" "Tree.at" (sTree 7) f fd ["self"])
    (m_show : ∃ f fd, MDef K C "show" "Tree.show" (sTree 8) f fd ["self"])
    (m_reached : ∃ f fd, MDef K C "reached" "Tree.reached" (sTree 9) f fd ["self", "way"])
    (m_beside : ∃ f fd, MDef K C "beside" "Tree.beside" (sTree 10) f fd ["self", "step"])
    (m_row_shown : ∃ f fd, MDef K C "row_shown" "Tree.row_shown" (sTree 11) f fd ["self", "node"])
    (m_all_shown : ∃ f fd, MDef K C "all_shown" "Tree.all_shown" (sTree 12) f fd ["self"])
    (m_drawn_nodes : ∃ f fd, MDef K C "drawn_nodes" "Tree.drawn_nodes" (sTree 13) f fd ["self"])
    (m_least_free : ∃ f fd, MDef K C "least_free" "Tree.least_free" (sTree 14) f fd ["self"])
    (m_stands_within : ∃ f fd, MDef K C "stands_within" "Tree.stands_within" (sTree 15) f fd ["self", "node"])
    (m_all_within : ∃ f fd, MDef K C "all_within" "Tree.all_within" (sTree 16) f fd ["self", "node"])
    (m_forget : ∃ f fd, MDef K C "forget" "Tree.forget" (sTree 17) f fd ["self", "node"])
    (tab : ∃ d, mg "NUMBERS_BEHIND" = some (.ref d) ∧ TabIn K d)
    (aA : PySem.W.nsIn K mainGlobals "answers" = some (some (.ref f)))
    (lA : K.lookup f = some ⟨oc, od, .func (PySem.W.fnOf "answers" "answers" (defArgs sAnswers) (defBody sAnswers) (defScope sAnswers) .none kV dc pm an cd ct), sl⟩)
    (cA : PySem.W.codeIn K cd "answers" = true)
    (kA : PySem.W.keepIn K (.ref f) = true)
    : ∃ fd : FuncData, (∀ (s : Shared) (u : Value), BindsTo s fd ⟨[u], []⟩ [("calls", u)]) ∧ ∀ base : Heap, K.In base → base.Ns mainGlobals mg → FnOk row.prog w K mg base CX0 8 fa fd ["calls"] (spAnswers K) := by
  have gs : Gls mg := ⟨c_root, c_most, c_near, c_nthere, c_nallow, c_noroom, c_g0, c_g1, c_g2, c_g3, c_g4, c_g5, c_g6, c_up, c_down, c_onw, c_back, PySem.W.mg_none_of X G b_len, PySem.W.mg_none_of X G b_zip, PySem.W.mg_none_of X G b_max, PySem.W.mg_none_of X G b_min, PySem.W.mg_none_of X G b_reversed, PySem.W.mg_none_of X G b_list⟩
  have tx : Txt K C D := ⟨⟨pgC, hdC, poC, saC⟩, nP, nR, nS, nT, ⟨pgD, hdD, poD, saD⟩, nO, nM⟩
  obtain ⟨fi, di, mi, ni, bi⟩ := i_d
  have W : Whole K mg C D := ⟨gs, tx, d_moved, d_least_move, d_joined, ⟨fi, di, mi, ni, bi, PySem.W.mg_of X G aD⟩, d_drawn, i_t, PySem.W.mg_of X G aC, m_begin, m_add, m_drop, m_fold, m_go, m_pick, m_at, m_show, m_reached, m_beside, m_row_shown, m_all_shown, m_drawn_nodes, m_least_free, m_stands_within, m_all_within, m_forget, d_answer, tab⟩
  exact ans_mk bd_answers X G hfa W aA lA cA kA
end TW
open PySem PySem.W PyProof.Rows
set_option maxRecDepth 100000 in
set_option maxHeartbeats 0 in
theorem PySem.Challenge.cw_walktree_s01_answers_holds : PySem.Challenge.rw_walktree_s01_answers.Holds := by
  w_on
  k_headS
  (case hw => exact ⟨[.list []], by decide +kernel, by decide +kernel⟩)
  k_fillS
  refine TW.walkS rfl (fun w h Y => PySem.W.kIn_of Y) ?F
  case F =>
    intro w mg fa h KX G hmg
    refine' TW.all_mk KX G hmg ?aC ?aD ?pgC ?hdC ?poC ?saC ?pgD ?hdD ?poD ?saD ?nP ?nR ?nS ?nT ?nO ?nM ?c_root ?c_most ?c_near ?c_nthere ?c_nallow ?c_noroom ?c_g0 ?c_g1 ?c_g2 ?c_g3 ?c_g4 ?c_g5 ?c_g6 ?c_up ?c_down ?c_onw ?c_back ?b_len ?b_zip ?b_max ?b_min ?b_reversed ?b_list ?d_moved ?d_least_move ?d_joined ?d_drawn ?d_answer ?i_d ?i_t ?m_begin ?m_add ?m_drop ?m_fold ?m_go ?m_pick ?m_at ?m_show ?m_reached ?m_beside ?m_row_shown ?m_all_shown ?m_drawn_nodes ?m_least_free ?m_stands_within ?m_all_within ?m_forget ?tab ?aA ?lA ?cA ?kA
    (case aC => k_is)
    (case aD => k_is)
    (case pgC => k_is)
    (case hdC => k_is)
    (case poC => k_is)
    (case saC => k_is)
    (case pgD => k_is)
    (case hdD => k_is)
    (case poD => k_is)
    (case saD => k_is)
    (case nP => k_is)
    (case nR => k_is)
    (case nS => k_is)
    (case nT => k_is)
    (case nO => k_is)
    (case nM => k_is)
    (case c_root => refine' TW.gl_mk KX G ?e; (case e => k_is))
    (case c_most => refine' TW.gl_mk KX G ?e; (case e => k_is))
    (case c_near => refine' TW.gl_mk KX G ?e; (case e => k_is))
    (case c_nthere => refine' TW.gl_mk KX G ?e; (case e => k_is))
    (case c_nallow => refine' TW.gl_mk KX G ?e; (case e => k_is))
    (case c_noroom => refine' TW.gl_mk KX G ?e; (case e => k_is))
    (case c_g0 => refine' TW.gl_mk KX G ?e; (case e => k_is))
    (case c_g1 => refine' TW.gl_mk KX G ?e; (case e => k_is))
    (case c_g2 => refine' TW.gl_mk KX G ?e; (case e => k_is))
    (case c_g3 => refine' TW.gl_mk KX G ?e; (case e => k_is))
    (case c_g4 => refine' TW.gl_mk KX G ?e; (case e => k_is))
    (case c_g5 => refine' TW.gl_mk KX G ?e; (case e => k_is))
    (case c_g6 => refine' TW.gl_mk KX G ?e; (case e => k_is))
    (case c_up => refine' TW.gl_mk KX G ?e; (case e => k_is))
    (case c_down => refine' TW.gl_mk KX G ?e; (case e => k_is))
    (case c_onw => refine' TW.gl_mk KX G ?e; (case e => k_is))
    (case c_back => refine' TW.gl_mk KX G ?e; (case e => k_is))
    (case b_len => k_is)
    (case b_zip => k_is)
    (case b_max => k_is)
    (case b_min => k_is)
    (case b_reversed => k_is)
    (case b_list => k_is)
    (case d_moved => refine' TW.def_mk TW.bd_moved KX G ?a ?l ?c ?k; (case a => k_is); (case l => k_is); (case c => k_is); (case k => k_is))
    (case d_least_move => refine' TW.def_mk TW.bd_least_move KX G ?a ?l ?c ?k; (case a => k_is); (case l => k_is); (case c => k_is); (case k => k_is))
    (case d_joined => refine' TW.def_mk TW.bd_joined KX G ?a ?l ?c ?k; (case a => k_is); (case l => k_is); (case c => k_is); (case k => k_is))
    (case d_drawn => refine' TW.def_mk TW.bd_drawn KX G ?a ?l ?c ?k; (case a => k_is); (case l => k_is); (case c => k_is); (case k => k_is))
    (case d_answer => refine' TW.def_mk TW.bd_answer KX G ?a ?l ?c ?k; (case a => k_is); (case l => k_is); (case c => k_is); (case k => k_is))
    (case i_d => refine' TW.init_mk TW.bd_dinit ?a ?i ?l ?c ?k ?mk ?kc; (case a => k_is); (case i => k_is); (case l => k_is); (case c => k_is); (case k => k_is); (case mk => k_is); (case kc => k_is))
    (case i_t => refine' TW.init_mk TW.bd_tinit ?a ?i ?l ?c ?k ?mk ?kc; (case a => k_is); (case i => k_is); (case l => k_is); (case c => k_is); (case k => k_is); (case mk => k_is); (case kc => k_is))
    (case m_begin => refine' TW.mdef_mk TW.bm_begin ?a ?i ?l ?c ?k; (case a => k_is); (case i => k_is); (case l => k_is); (case c => k_is); (case k => k_is))
    (case m_add => refine' TW.mdef_mk TW.bm_add ?a ?i ?l ?c ?k; (case a => k_is); (case i => k_is); (case l => k_is); (case c => k_is); (case k => k_is))
    (case m_drop => refine' TW.mdef_mk TW.bm_drop ?a ?i ?l ?c ?k; (case a => k_is); (case i => k_is); (case l => k_is); (case c => k_is); (case k => k_is))
    (case m_fold => refine' TW.mdef_mk TW.bm_fold ?a ?i ?l ?c ?k; (case a => k_is); (case i => k_is); (case l => k_is); (case c => k_is); (case k => k_is))
    (case m_go => refine' TW.mdef_mk TW.bm_go ?a ?i ?l ?c ?k; (case a => k_is); (case i => k_is); (case l => k_is); (case c => k_is); (case k => k_is))
    (case m_pick => refine' TW.mdef_mk TW.bm_pick ?a ?i ?l ?c ?k; (case a => k_is); (case i => k_is); (case l => k_is); (case c => k_is); (case k => k_is))
    (case m_at => refine' TW.mdef_mk TW.bm_at ?a ?i ?l ?c ?k; (case a => k_is); (case i => k_is); (case l => k_is); (case c => k_is); (case k => k_is))
    (case m_show => refine' TW.mdef_mk TW.bm_show ?a ?i ?l ?c ?k; (case a => k_is); (case i => k_is); (case l => k_is); (case c => k_is); (case k => k_is))
    (case m_reached => refine' TW.mdef_mk TW.bm_reached ?a ?i ?l ?c ?k; (case a => k_is); (case i => k_is); (case l => k_is); (case c => k_is); (case k => k_is))
    (case m_beside => refine' TW.mdef_mk TW.bm_beside ?a ?i ?l ?c ?k; (case a => k_is); (case i => k_is); (case l => k_is); (case c => k_is); (case k => k_is))
    (case m_row_shown => refine' TW.mdef_mk TW.bm_row_shown ?a ?i ?l ?c ?k; (case a => k_is); (case i => k_is); (case l => k_is); (case c => k_is); (case k => k_is))
    (case m_all_shown => refine' TW.mdef_mk TW.bm_all_shown ?a ?i ?l ?c ?k; (case a => k_is); (case i => k_is); (case l => k_is); (case c => k_is); (case k => k_is))
    (case m_drawn_nodes => refine' TW.mdef_mk TW.bm_drawn_nodes ?a ?i ?l ?c ?k; (case a => k_is); (case i => k_is); (case l => k_is); (case c => k_is); (case k => k_is))
    (case m_least_free => refine' TW.mdef_mk TW.bm_least_free ?a ?i ?l ?c ?k; (case a => k_is); (case i => k_is); (case l => k_is); (case c => k_is); (case k => k_is))
    (case m_stands_within => refine' TW.mdef_mk TW.bm_stands_within ?a ?i ?l ?c ?k; (case a => k_is); (case i => k_is); (case l => k_is); (case c => k_is); (case k => k_is))
    (case m_all_within => refine' TW.mdef_mk TW.bm_all_within ?a ?i ?l ?c ?k; (case a => k_is); (case i => k_is); (case l => k_is); (case c => k_is); (case k => k_is))
    (case m_forget => refine' TW.mdef_mk TW.bm_forget ?a ?i ?l ?c ?k; (case a => k_is); (case i => k_is); (case l => k_is); (case c => k_is); (case k => k_is))
    (case tab => refine' TW.tab_mk KX G ?e ?l; (case e => k_is); (case l => k_is))
    (case aA => k_is)
    (case lA => k_is)
    (case cA => k_is)
    (case kA => k_is)
