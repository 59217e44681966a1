import PyProof.Rows.All
import Wide.All
import OpenK.AllK
import Wide.FinOn
import Lean
import PyProof.EqAt
import PyProof.EqKinds
import PyProof.TupleCall
import PySem.Challenge.RW_unison_k08_answers_by_hand
set_option Elab.async false
set_option linter.all false
set_option maxRecDepth 100000
namespace L2
open PySem PySem.Spec PyProof.Rows
abbrev Key := Sum Int Str
def keyIs : Key → Value → Bool
  | .inl k, v => Value.isInt k v
  | .inr x, v => Value.isStrOf x v
def keyH (w : World) : Key → Int
  | .inl k => hashInt k
  | .inr x => hashStr w x
theorem keyIs_shape : ∀ {k : Key} {v : Value}, keyIs k v = true → (∃ i t, k = Sum.inl i ∧ v = Value.int i t) ∨ (∃ x t, k = Sum.inr x ∧ v = Value.str x t)
  | .inl i, v, h => by
    obtain ⟨t, e⟩ := Value.isInt_shape (k := i) (v := v) h
    exact .inl ⟨i, t, rfl, e⟩
  | .inr x, v, h => by
    obtain ⟨t, e⟩ := Value.isStrOf_shape (x := x) (v := v) h
    exact .inr ⟨x, t, rfl, e⟩
theorem keyIs_int (i : Int) (t : Tok) : keyIs (.inl i) (.int i t) = true := by simp [keyIs, Value.isInt]
theorem keyIs_str (x : Str) (t : Tok) : keyIs (.inr x) (.str x t) = true := by simp [keyIs, Value.isStrOf]
theorem key_ll (a b : Int) : decide ((Sum.inl a : Key) = Sum.inl b) = (a == b) := by
  by_cases e : a = b
  · subst e; simp
  · have h : ¬ (Sum.inl a : Key) = Sum.inl b := fun q => e (Sum.inl.inj q)
    rw [decide_eq_false h]
    exact (beq_eq_false_iff_ne.mpr e).symm
theorem key_rr (a b : Str) : decide ((Sum.inr a : Key) = Sum.inr b) = decide (a = b) := by
  by_cases e : a = b
  · subst e; simp
  · have h : ¬ (Sum.inr a : Key) = Sum.inr b := fun q => e (Sum.inr.inj q)
    rw [decide_eq_false h, decide_eq_false e]
theorem key_lr (a : Int) (b : Str) : decide ((Sum.inl a : Key) = Sum.inr b) = false := decide_eq_false (fun q => nomatch q)
theorem key_rl (a : Str) (b : Int) : decide ((Sum.inr a : Key) = Sum.inl b) = false := decide_eq_false (fun q => nomatch q)
def mixKind (prog : Program) (w : World) : PySem.KeyKind prog w Key where
  is := keyIs
  hash := keyH w
  inj := fun v a b ha hb => by
    rcases keyIs_shape ha with ⟨i, t, rfl, rfl⟩ | ⟨x, t, rfl, rfl⟩
    · rcases keyIs_shape hb with ⟨j, u, rfl, e⟩ | ⟨y, u, rfl, e⟩
      · injection e with e1 _; rw [e1]
      · exact nomatch e
    · rcases keyIs_shape hb with ⟨j, u, rfl, e⟩ | ⟨y, u, rfl, e⟩
      · exact nomatch e
      · injection e with e1 _; rw [e1]
  byValue := fun k v h => by
    rcases keyIs_shape h with ⟨i, t, rfl, rfl⟩ | ⟨x, t, rfl, rfl⟩ <;> rfl
  pyHash := fun hv h => by
    rcases keyIs_shape hv with ⟨i, t, rfl, rfl⟩ | ⟨x, t, rfl, rfl⟩
    · exact wpAny_pyHash_int h
    · exact wpAny_pyHash_str h
  eqBool := fun hu hv h => by
    rcases keyIs_shape hu with ⟨i, t, rfl, rfl⟩ | ⟨x, t, rfl, rfl⟩
    · rcases keyIs_shape hv with ⟨j, u, rfl, rfl⟩ | ⟨y, u, rfl, rfl⟩
      · rw [key_ll] at h; exact wpAny_eqBool_int h
      · rw [key_lr] at h; exact SeqAt.EqAt.int_str i t y u _ _ _ _ h
    · rcases keyIs_shape hv with ⟨j, u, rfl, rfl⟩ | ⟨y, u, rfl, rfl⟩
      · rw [key_rl] at h; exact SeqAt.EqAt.str_int x t j u _ _ _ _ h
      · rw [key_rr] at h; exact wpAny_eqBool_str h
  «strs» := fun k x t v h => by
    rcases keyIs_shape h with ⟨i, u, rfl, e⟩ | ⟨y, u, rfl, e⟩
    · exact nomatch e
    · injection e with e1 _
      subst e1
      cases v <;> rfl
theorem mixKind_int (prog : Program) (w : World) (i : Int) (t : Tok) : (mixKind prog w).is (.inl i) (.int i t) = true := keyIs_int i t
theorem mixKind_str (prog : Program) (w : World) (x : Str) (t : Tok) : (mixKind prog w).is (.inr x) (.str x t) = true := keyIs_str x t
end L2
namespace L2
open PySem PySem.Spec PyProof.Rows
inductive V where
  | non | bl (b : Bool) | int (i : Int) | str (x : Str) | byt (b : Array UInt8) | flt (b : UInt64) | ref (a : Addr) | ty (n : String)
  deriving DecidableEq
def RelV : V → Value → Prop
  | .non, u => u = Value.none
  | .bl b, u => u = Value.bool b
  | .int i, u => ∃ t, u = Value.int i t
  | .str x, u => ∃ t, u = Value.str x t
  | .byt b, u => ∃ t, u = Value.bytes b t
  | .flt b, u => ∃ t, u = Value.float b t
  | .ref a, u => u = Value.ref a
  | .ty n, u => u = Value.type n
abbrev Vals : List V → List Value → Prop := Paired RelV
theorem Vals.length {xs : List V} {us : List Value} (r : Vals xs us) : xs.length = us.length := Paired.length r
theorem Vals.get : ∀ {xs : List V} {us : List Value} {i : Nat} {x : V}, Vals xs us → xs[i]? = some x → ∃ u, us[i]? = some u ∧ RelV x u
  | _, _, _, _, .nil, e => by simp at e
  | _, _, 0, _, .cons r _, e => by simp at e; subst e; exact ⟨_, rfl, r⟩
  | _, _, i + 1, x, .cons _ t, e => by
    obtain ⟨u, h1, h2⟩ := Vals.get (i := i) (x := x) t (by simpa using e)
    exact ⟨u, by simpa using h1, h2⟩
theorem Vals.append : ∀ {xs ys : List V} {us ws : List Value}, Vals xs us → Vals ys ws → Vals (xs ++ ys) (us ++ ws)
  | _, _, _, _, .nil, s => s
  | _, _, _, _, .cons r t, s => .cons r (Vals.append t s)
theorem Vals.take : ∀ {xs : List V} {us : List Value} (n : Nat), Vals xs us → Vals (xs.take n) (us.take n)
  | _, _, 0, _ => .nil
  | _, _, _ + 1, .nil => .nil
  | _, _, n + 1, .cons r t => .cons r (Vals.take n t)
theorem Vals.drop : ∀ {xs : List V} {us : List Value} (n : Nat), Vals xs us → Vals (xs.drop n) (us.drop n)
  | _, _, 0, r => r
  | _, _, _ + 1, .nil => .nil
  | _, _, n + 1, .cons _ t => Vals.drop n t
def RelO : Option V → Option Value → Prop
  | some v, some u => RelV v u
  | none, none => True
  | _, _ => False
def KV {κ : Type} : List (κ × V) → List (κ × Value) → Prop := Paired fun (p : κ × V) (q : κ × Value) => p.1 = q.1 ∧ RelV p.2 q.2
def kV : Key → V
  | .inl i => .int i
  | .inr x => .str x
inductive HO where
  | lst (xs : List V)
  | tup (xs : List V)
  | dK (kvs : List (Key × V)) | dT (kvs : List (List Key × V))
  | set (S : Int → Bool) (n : Nat)
  | ins (C dx : Addr) (fs : List (Str × V))
  | own (x : Addr)
  | xd (fs : List (Str × V))
  | met (f x : Addr)
  | rng (lo hi : Int)
  | frz (o : Obj) (u : HO)
  | tbl (ps : Array Value)
  | ext (φ : Heap → Prop)
abbrev Hp := Addr → Option HO
def upd (H : Hp) (a : Addr) (o : HO) : Hp := fun b => if b = a then some o else H b
theorem upd_same {H : Hp} {a : Addr} {o : HO} : upd H a o a = some o := by unfold upd; rw [if_pos rfl]
theorem upd_ne {H : Hp} {a b : Addr} {o : HO} (h : b ≠ a) : upd H a o b = H b := by unfold upd; rw [if_neg h]
theorem ne_of {H : Hp} {a b : Addr} {o u : HO} (h : H a = some o) (h' : H b = some u) (d : o ≠ u) : a ≠ b := by
  intro e; subst e; rw [h] at h'; exact d (Option.some.inj h')
theorem ne_of_none {H : Hp} {a b : Addr} {o : HO} (h : H a = some o) (h' : H b = none) : a ≠ b := by
  intro e; subst e; rw [h] at h'; cases h'
section
variable (P : Program) (w : World)
def ObjOk (H : Hp) (h : Heap) (a : Addr) : HO → Prop
  | .lst xs => xs.length ≤ sizeLine ∧ ∃ (its : List Value) (n : Nat), Vals xs its ∧ h.get? a = some { cls := .type "list", data := .seq its.toArray n }
  | .tup xs => xs.length ≤ sizeLine ∧ ∃ its : List Value, Vals xs its ∧ IsTup h a its.toArray
  | .dK kvs => kvs.length ≤ sizeLine ∧ (a == sysModules) = false ∧ ∃ vs, KV kvs vs ∧ h.DictOf (mixKind P w) a vs
  | .dT kvs => kvs.length ≤ sizeLine ∧ (a == sysModules) = false ∧ ∃ xs : List (List Key × Addr × Value),
      Paired (fun (p : List Key × V) (q : List Key × Addr × Value) => p.1 = q.1 ∧ H q.2.1 = some (.tup (p.1.map kV)) ∧ RelV p.2 q.2.2) kvs xs ∧
      ∃ o es ep, h.get? a = some o ∧ o.ExactDict ∧ o.data = .dict es ep ∧ es.toList = xs.map (entryOfKey (tupleKind (mixKind P w))) ∧ (xs.map (·.1)).Nodup
  | .set S n => h.SetOf (intKind P w) a S n
  | .ins C dx fs => H dx = some (.own a) ∧ fs.length ≤ 1000 ∧ dx ≠ a ∧ h.get? a = some (PySem.W.instObj C dx) ∧
      ∃ mA, h.Ns1 dx mA ∧ (∀ f, RelO (fs.lookup f) (mA f)) ∧ PySem.Within mA (fs.map (·.1))
  | .own _ => ∃ o, h.get? a = some o
  | .xd fs => ∃ mA, h.Ns1 a mA ∧ ∀ f, RelO (fs.lookup f) (mA f)
  | .rng lo hi => ∃ t u v, h.get? a = some { cls := .type "range", data := .fields #[.int lo t, .int hi u, .int 1 v] }
  | .frz o u => h.get? a = some o ∧ ObjOk H h a u
  | .tbl ps => h.get? a = some { cls := .none, data := .fields ps }
  | .met f x => h.get? a = some (PySem.W.methodObj (.ref f) (.ref x))
  | .ext φ => φ h ∧ (∃ o, h.get? a = some o) ∧ ∀ h1 h2 : Heap, φ h1 → (∀ o, h1.get? a = some o → h2.get? a = some o) → φ h2
def HOk (H : Hp) (h : Heap) : Prop := ∀ a o, H a = some o → ObjOk P w H h a o
end
section
variable {P : Program} {w : World} {H H' : Hp} {h h' : Heap} {a : Addr} {o : HO}
theorem ObjOk.lt (x : ObjOk P w H h a o) : a < h.objs.size := by
  cases o with
  | lst xs => obtain ⟨_, _, _, _, e⟩ := x; exact Heap.lt_size e
  | tup xs => obtain ⟨_, _, _, p⟩ := x; exact p.lt
  | dK kvs => obtain ⟨_, _, _, _, o, _, _, e, _⟩ := x; exact Heap.lt_size e
  | dT kvs => obtain ⟨_, _, _, _, o, _, _, e, _⟩ := x; exact Heap.lt_size e
  | set S n => obtain ⟨o, _, _, _, e, _⟩ := x; exact Heap.lt_size e
  | ins C dx fs => obtain ⟨_, _, _, e, _⟩ := x; exact Heap.lt_size e
  | own y => obtain ⟨_, e⟩ := x; exact Heap.lt_size e
  | xd fs => obtain ⟨_, ⟨_, _, _, e, _⟩, _⟩ := x; exact Heap.lt_size e
  | rng lo hi => obtain ⟨_, _, _, e⟩ := x; exact Heap.lt_size e
  | frz ob u => obtain ⟨e, _⟩ := x; exact Heap.lt_size e
  | tbl ps => exact Heap.lt_size (show h.get? a = some _ from x)
  | met f y => exact Heap.lt_size (show h.get? a = some _ from x)
  | ext φ => obtain ⟨_, ⟨_, e⟩, _⟩ := x; exact Heap.lt_size e
theorem Paired.mapP {α β : Type} {F G : α → β → Prop} : ∀ {l₁ : List α} {l₂ : List β}, Paired F l₁ l₂ → (∀ a b, F a b → G a b) → Paired G l₁ l₂
  | _, _, .nil, _ => .nil
  | _, _, .cons r t, f => .cons (f _ _ r) (Paired.mapP t f)
theorem ObjOk.stay (x : ObjOk P w H h a o) (k : ∀ b u, (b = a ∨ H b = some (.own a)) → h.get? b = some u → h'.get? b = some u)
    (ho : ∀ b, H b = some (.own a) → H' b = some (.own a)) (ht : ∀ b xs, H b = some (.tup xs) → H' b = some (.tup xs)) : ObjOk P w H' h' a o := by
  induction o with
  | lst xs => obtain ⟨z, its, n, r, e⟩ := x; exact ⟨z, its, n, r, k _ _ (.inl rfl) e⟩
  | tup xs => obtain ⟨z, its, r, ob, e, c⟩ := x; exact ⟨z, its, r, ob, k _ _ (.inl rfl) e, c⟩
  | dK kvs => obtain ⟨z, y, vs, r, ob, es, ep, e, c⟩ := x; exact ⟨z, y, vs, r, ob, es, ep, k _ _ (.inl rfl) e, c⟩
  | dT kvs =>
    obtain ⟨z, y, xs, r, ob, es, ep, e, c⟩ := x
    exact ⟨z, y, xs, Paired.mapP r fun p q z => ⟨z.1, ht _ _ z.2.1, z.2.2⟩, ob, es, ep, k _ _ (.inl rfl) e, c⟩
  | set S n => obtain ⟨ob, es, ep, t, e, c⟩ := x; exact ⟨ob, es, ep, t, k _ _ (.inl rfl) e, c⟩
  | ins C dx fs =>
    obtain ⟨d, z, ne, e, mA, ⟨od, es, ep, e2, c⟩, r⟩ := x
    exact ⟨ho _ d, z, ne, k _ _ (.inl rfl) e, mA, ⟨od, es, ep, k _ _ (.inr d) e2, c⟩, r⟩
  | own y => obtain ⟨ob, e⟩ := x; exact ⟨ob, k _ _ (.inl rfl) e⟩
  | xd fs => obtain ⟨mA, ⟨od, es, ep, e, c⟩, r⟩ := x; exact ⟨mA, ⟨od, es, ep, k _ _ (.inl rfl) e, c⟩, r⟩
  | rng lo hi => obtain ⟨t, u, v, e⟩ := x; exact ⟨t, u, v, k _ _ (.inl rfl) e⟩
  | frz ob u ih => obtain ⟨e, q⟩ := x; exact ⟨k _ _ (.inl rfl) e, ih q⟩
  | tbl ps =>
    have e : h.get? a = some { cls := .none, data := .fields ps } := x
    show h'.get? a = some { cls := .none, data := .fields ps }
    exact k a _ (.inl rfl) e
  | met f y =>
    have e : h.get? a = some (PySem.W.methodObj (.ref f) (.ref y)) := x
    show h'.get? a = some (PySem.W.methodObj (.ref f) (.ref y))
    exact k a _ (.inl rfl) e
  | ext φ => obtain ⟨p, ⟨o, e⟩, st⟩ := x; exact ⟨st _ _ p fun o q => k _ _ (.inl rfl) q, ⟨o, k _ _ (.inl rfl) e⟩, st⟩
theorem HOk.lt (x : HOk P w H h) (e : H a = some o) : a < h.objs.size := (x a o e).lt
theorem HOk.fresh (x : HOk P w H h) (e : h.objs.size ≤ a) : H a = none := by
  cases q : H a with
  | none => rfl
  | some u => exact absurd (Nat.lt_of_lt_of_le (x.lt q) e) (Nat.lt_irrefl _)
theorem HOk.kept (x : HOk P w H h) (k : ∀ b u, h.get? b = some u → h'.get? b = some u) : HOk P w H h' := fun a o e =>
  (x a o e).stay (fun b u _ q => k b u q) (fun _ q => q) fun _ _ q => q
theorem HOk.laid (x : HOk P w H h) (k : ∀ b u, h.get? b = some u → h'.get? b = some u) (hp : h.objs.size ≤ a) (new : ObjOk P w (upd H a o) h' a o) : HOk P w (upd H a o) h' := fun b u e => by
  have hn := x.fresh hp
  by_cases hb : b = a
  · subst hb; rw [upd_same] at e; cases e; exact new
  · rw [upd_ne hb] at e
    exact (x b u e).stay (fun c v _ q => k c v q) (fun c q => by rw [upd_ne (ne_of_none q hn)]; exact q) fun c xs q => by rw [upd_ne (ne_of_none q hn)]; exact q
end
def Rd (H : Hp) (a : Addr) (u : HO) : Prop := H a = some u ∨ ∃ o, H a = some (.frz o u)
theorem Rd.ok {P : Program} {w : World} {H : Hp} {h : Heap} {a : Addr} {u : HO} (r : Rd H a u) (x : HOk P w H h) : ObjOk P w H h a u := by
  rcases r with r | ⟨o, r⟩
  · exact x a u r
  · obtain ⟨_, q⟩ := x a _ r
    exact q
def Mut : Option HO → Prop
  | some (.lst _) => True
  | some (.dK _) => True
  | some (.dT _) => True
  | some (.set _ _) => True
  | some (.ins _ _ _) => True
  | some (.ext _) => True
  | _ => False
section
variable {P : Program} {w : World} {H : Hp} {h h' : Heap} {x e : Addr} {o' : HO}
theorem HOk.write (ok : HOk P w H h) (mu : Mut (H x)) (he : e = x ∨ H e = some (.own x)) (k : ∀ b u, b ≠ e → h.get? b = some u → h'.get? b = some u) (heo : ∃ u, h'.get? e = some u)
    (new : ObjOk P w (upd H x o') h' x o') : HOk P w (upd H x o') h' := fun b u q => by
  have nown : ∀ c y, H c = some (.own y) → c ≠ x := fun c y r z => by subst z; rw [r] at mu; exact mu
  have ntup : ∀ c xs, H c = some (.tup xs) → c ≠ x := fun c xs r z => by subst z; rw [r] at mu; exact mu
  by_cases hb : b = x
  · subst hb; rw [upd_same] at q; cases q; exact new
  · rw [upd_ne hb] at q
    by_cases hbe : b = e
    · have q' : H b = some (.own x) := by
        rcases he with z | z
        · exact absurd (hbe.trans z) hb
        · rw [hbe]; exact z
      rw [q] at q'; cases q'
      obtain ⟨v, hv⟩ := heo
      exact ⟨v, by rw [hbe]; exact hv⟩
    · refine (ok b u q).stay (fun c v hc r => k c v ?_ r) (fun c r => by rw [upd_ne (nown c b r)]; exact r) fun c xs r => by rw [upd_ne (ntup c xs r)]; exact r
      rcases hc with rfl | hc
      · exact hbe
      · rintro rfl
        rcases he with z | z
        · exact nown c b hc z
        · rw [hc] at z; cases z; exact hb rfl
end
structure Un (fs ex : List Addr) (H H' : Hp) (h h' : Heap) : Prop where
  keep : ∀ b o, h.get? b = some o → H b = none → b ∉ fs → b ∉ ex → h'.get? b = some o
  slot : ∀ b o, h.get? b = some o → H b = none → b ∈ fs → b ∉ ex → ∃ sl, h'.get? b = some { o with slots := sl }
  free : ∀ b o, h.get? b = some o → H b = none → b ∉ ex → H' b = none
  there : ∀ b o, h.get? b = some o → b ∉ ex → ∃ o', h'.get? b = some o'
  tups : ∀ b xs, H b = some (.tup xs) → H' b = some (.tup xs)
  frzs : ∀ b o u, H b = some (.frz o u) → H' b = some (.frz o u)
  tbls : ∀ b ps, H b = some (.tbl ps) → ∃ more, H' b = some (.tbl (ps ++ more))
section
variable {fs fs' ex ex' : List Addr} {H H1 H2 : Hp} {h h1 h2 h' : Heap} {a x e : Addr} {o : HO}
theorem Un.any (u : Un fs ex H H1 h h1) {b : Addr} {ob : Obj} (q : h.get? b = some ob) (n : H b = none) (hx : b ∉ ex) : ∃ sl, h1.get? b = some { ob with slots := sl } := by
  by_cases hb : b ∈ fs
  · exact u.slot b ob q n hb hx
  · exact ⟨ob.slots, u.keep b ob q n hb hx⟩
theorem Un.kept (k : ∀ b u, h.get? b = some u → h'.get? b = some u) : Un fs ex H H h h' :=
  ⟨fun b ob q _ _ _ => k b ob q, fun b ob q _ _ _ => ⟨ob.slots, k b ob q⟩, fun _ _ _ n _ => n, fun b ob q _ => ⟨ob, k b ob q⟩, fun _ _ q => q, fun _ _ _ q => q, fun _ ps q => ⟨#[], by rw [q]; simp⟩⟩
theorem Un.refl : Un fs ex H H h h := Un.kept fun _ _ q => q
theorem Un.laid (k : ∀ b u, h.get? b = some u → h'.get? b = some u) (hp : h.objs.size ≤ a) (hn : H a = none) : Un fs ex H (upd H a o) h h' where
  keep := fun b u q _ _ _ => k b u q
  slot := fun b u q _ _ _ => ⟨u.slots, k b u q⟩
  free := fun b u q n _ => by rw [upd_ne (Nat.ne_of_lt (Nat.lt_of_lt_of_le (Heap.lt_size q) hp))]; exact n
  there := fun b u q _ => ⟨u, k b u q⟩
  tups := fun b xs q => by rw [upd_ne (ne_of_none q hn)]; exact q
  frzs := fun b u xs q => by rw [upd_ne (ne_of_none q hn)]; exact q
  tbls := fun b ps q => ⟨#[], by rw [upd_ne (ne_of_none q hn), q]; simp⟩
theorem Un.write (mu : Mut (H x)) (he : e = x ∨ H e = some (.own x)) (k : ∀ b u, b ≠ e → h.get? b = some u → h'.get? b = some u) (heo : ∃ u, h'.get? e = some u) : Un fs ex H (upd H x o) h h' := by
  have hx : ∀ b, H b = none → b ≠ x := fun b n z => by subst z; rw [n] at mu; exact mu
  have hb : ∀ b, H b = none → b ≠ e := fun b n z => by
    subst z
    rcases he with r | r
    · exact hx b n r
    · rw [n] at r; cases r
  have hm : ∀ b u, H b = some u → ¬ Mut (some u) → b ≠ x := fun b u q nm z => by subst z; rw [q] at mu; exact nm mu
  refine ⟨fun b u q n _ _ => k b u (hb b n) q, fun b u q n _ _ => ⟨u.slots, k b u (hb b n) q⟩, fun b u q n _ => by rw [upd_ne (hx b n)]; exact n, fun b u q _ => ?_,
    fun b xs q => by rw [upd_ne (hm b _ q fun z => z)]; exact q, fun b u xs q => by rw [upd_ne (hm b _ q fun z => z)]; exact q, fun b ps q => ⟨#[], by rw [upd_ne (hm b _ q fun z => z), q]; simp⟩⟩
  by_cases hbe : b = e
  · subst hbe; exact heo
  · exact ⟨u, k b u hbe q⟩
end
def trk (h : Heap) (H : Hp) : List Addr := (List.range h.objs.size).filter fun a => (H a).isSome
def hidT (h : Heap) (H : Hp) : Heap := PySem.W.hideAll h (trk h H)
theorem hidT_size (h : Heap) (H : Hp) : (hidT h H).objs.size = h.objs.size := PySem.W.hideAll_size _ _
theorem hidT_get {h : Heap} {H : Hp} {b : Addr} {o : Obj} (e : h.get? b = some o) (n : H b = none) : (hidT h H).get? b = some o :=
  PySem.W.hideAll_get _ e fun hm => by
    have q : (H b).isSome = true := (List.mem_filter.mp hm).2
    rw [n] at q; simp at q
theorem of_hidT {h : Heap} {H : Hp} {b : Addr} {o : Obj} (e : (hidT h H).get? b = some o) : h.get? b = some o ∧ H b = none := by
  have e' : h.get? b = some o := PySem.W.of_hideAll (trk h H) e
  refine ⟨e', ?_⟩
  cases q : H b with
  | none => rfl
  | some x =>
    have hm : b ∈ trk h H := List.mem_filter.mpr ⟨List.mem_range.mpr (Heap.lt_size e'), by simp [q]⟩
    have z : (hidT h H).get? b = none := PySem.W.hideAll_none (trk h H) hm
    rw [z] at e; cases e
def allNews (g h : Heap) (L : Addr) : List (Addr × Obj) := (List.range h.objs.size).filterMap fun a => if a = L ∨ (g.get? a).isSome = true then none else (h.get? a).map fun o => (a, o)
def rest (g h : Heap) (L d : Addr) : List (Addr × Obj) := (allNews g h L).filter fun p => decide (p.1 ≠ d)
end L2
namespace L2
open PySem PySem.Spec PyProof.Rows
structure Mod (K : PySem.W.Frag) (mg : Str → Option Value) (base : Heap) : Prop where
  kin : K.In base
  glob : base.Ns mainGlobals mg
  blt : ∃ mb, base.Ns builtinsNs mb ∧ ∀ x : Str, x ≠ "__name__" → mb x = bootBuiltins x
  nolimit : base.NoLimit
structure Cx where
  prog : Program
  w : World
  K : PySem.W.Frag
  mg : Str → Option Value
  base : Heap
  A : Around
  N : List Str
  s₀ : Shared
  H₀ : Hp
  env : Env
  outer : List Env
  stack : List Env
  ex : List Addr
  fn : Str → Bool
  calm : Bool
  pn : List (Addr × Obj)
  xe : Value → Shared → Prop
def frs (l : List Env) : List Addr := l.filterMap (·.frame)
abbrev Cx.fs (X : Cx) : List Addr := frs X.outer
def Vis (sc : Scope) (x : Str) : Prop := sc.names.lookup x = some .local ∨ sc.names.lookup x = some .cell ∨ sc.names.lookup x = some .free
def Loc (sc : Scope) (x : Str) : Prop := sc.names.lookup x = some .local ∨ sc.names.lookup x = some .cell
def Look (env : Env) (h : Heap) (m : Str → Option Value) (x : Str) (u : Value) : Prop :=
  (env.kindOf x = some .local ∧ m x = some u) ∨ ((env.kindOf x = some .cell ∨ env.kindOf x = some .free) ∧ ∃ c, env.cells.lookup x = some c ∧ h.IsCell c (some u))
structure Cx.Ok (X : Cx) : Prop where
  mod : Mod X.K X.mg X.base
  kind : X.env.scope.kind = .function
  glob : X.env.globals = mainGlobals
  blt : X.env.builtins = builtinsNs
  above : X.s₀.heap.objs.size ≤ X.env.locals
  inj : ∀ x y c, X.env.cells.lookup x = some c → X.env.cells.lookup y = some c → x = y
  has : ∀ x, (X.env.kindOf x = some .cell ∨ X.env.kindOf x = some .free) → ∃ c, X.env.cells.lookup x = some c
  cab : ∀ x c, X.fn x = true → X.env.cells.lookup x = some c → X.s₀.heap.objs.size ≤ c
  hd : X.calm = true → X.A.handled = none
  frames : X.A.frames = some X.stack
  stk : X.stack = X.outer ∨ (X.stack = X.env :: X.outer ∧ X.env.frame = some X.env.locals)
  exf : ∀ b ∈ X.ex, b ≠ X.env.locals ∧ ∀ x c, X.env.cells.lookup x = some c → c ≠ b
  bs : ∀ b o, X.base.get? b = some o → X.s₀.heap.get? b = some o ∧ X.H₀ b = none
  bsz : X.base.objs.size ≤ X.s₀.heap.objs.size
  noex : ∀ b o, X.base.get? b = some o → b ∉ X.ex
  exfs : ∀ b ∈ X.ex, b ∉ X.fs
  funs : X.s₀.heap.FunFrames X.base X.outer
  frf : ∀ b ∈ X.fs, X.H₀ b = none
structure Inv (X : Cx) (pins : List (Addr × Obj)) (σ : List (Option V)) (H : Hp) (s : Shared) : Prop where
  ok : X.Ok
  os : s.os = X.s₀.os
  bare : AllBare s.gens
  base : Un X.fs X.ex X.H₀ H X.s₀.heap s.heap
  loc : ∃ m, s.heap.Ns X.env.locals m ∧ ∀ (i : Nat) (x : Str) (v : V), X.N[i]? = some x → σ[i]? = some (some v) → Vis X.env.scope x → ∃ u, RelV v u ∧ Look X.env s.heap m x u
  cell : ∀ x c, X.env.cells.lookup x = some c → ∃ v, s.heap.IsCell c v
  free : H X.env.locals = none
  freeC : ∀ x c, X.env.cells.lookup x = some c → H c = none
  pin : ∀ p ∈ X.pn ++ pins, s.heap.get? p.1 = some p.2 ∧ H p.1 = none ∧ p.1 ≠ X.env.locals ∧ p.1 ∉ X.fs ∧ ∀ v, p.2.data ≠ .cell v
  hok : HOk X.prog X.w H s.heap
  len : σ.length = X.N.length
section
variable {X : Cx} {pins : List (Addr × Obj)} {σ : List (Option V)} {H H' : Hp} {s : Shared} {h' : Heap}
theorem Cx.Ok.nofr (ok : X.Ok) {b : Addr} {o : Obj} (e : X.base.get? b = some o) : b ∉ X.fs := fun hb => by
  have := (ok.funs.mem hb).1
  rw [e] at this; cases this
theorem Inv.bs (I : Inv X pins σ H s) : ∀ b o, X.base.get? b = some o → s.heap.get? b = some o ∧ H b = none := fun b o e =>
  ⟨I.base.keep b o (I.ok.bs b o e).1 (I.ok.bs b o e).2 (I.ok.nofr e) (I.ok.noex b o e), I.base.free b o (I.ok.bs b o e).1 (I.ok.bs b o e).2 (I.ok.noex b o e)⟩
theorem Inv.bk (I : Inv X pins σ H s) : ∀ b o, X.base.get? b = some o → s.heap.get? b = some o := fun b o e => (I.bs b o e).1
theorem Inv.mod (I : Inv X pins σ H s) : Mod X.K X.mg X.base := I.ok.mod
theorem Inv.kIn (I : Inv X pins σ H s) : X.K.In s.heap := I.ok.mod.kin.keeps I.bk
theorem Inv.lt (I : Inv X pins σ H s) : X.env.locals < s.heap.objs.size := let ⟨_, hn, _⟩ := I.loc; hn.lt
theorem Inv.sz (I : Inv X pins σ H s) : X.s₀.heap.objs.size ≤ s.heap.objs.size := Nat.le_trans I.ok.above (Nat.le_of_lt I.lt)
theorem Inv.nofs (I : Inv X pins σ H s) {a : Addr} (h : s.heap.objs.size ≤ a) : a ∉ X.fs := fun hb => by
  obtain ⟨_, o, ho, _⟩ := I.ok.funs.mem hb
  exact absurd (Nat.lt_of_lt_of_le (Heap.lt_size ho) (Nat.le_trans I.sz h)) (Nat.lt_irrefl _)
theorem Inv.cne (I : Inv X pins σ H s) : ∀ x c, X.env.cells.lookup x = some c → c ≠ X.env.locals := fun x c e z => by
  obtain ⟨v, o, ho, hd⟩ := I.cell x c e
  obtain ⟨m, ⟨o', es, ep, ho', hd', _⟩, _⟩ := I.loc
  rw [z, ho'] at ho; cases ho; rw [hd'] at hd; cases hd
theorem Inv.funs (I : Inv X pins σ H s) : s.heap.FunFrames X.base X.outer := by
  have all : ∀ (l : List Env), (∀ b ∈ frs l, b ∈ X.fs) → X.s₀.heap.FunFrames X.base l → s.heap.FunFrames X.base l := by
    intro l
    induction l with
    | nil => intro _ _; trivial
    | cons env r ih =>
      intro hs hl
      obtain ⟨hk, ⟨L, o, hf, hn, ho, hd⟩, hr⟩ := hl
      have hL : L ∈ X.fs := hs L (by unfold frs; rw [List.filterMap_cons, hf]; exact List.mem_cons_self)
      obtain ⟨sl, e⟩ := I.base.slot L o ho (I.ok.frf L hL) hL fun z => I.ok.exfs L z hL
      exact ⟨hk, ⟨L, _, hf, hn, e, hd⟩, ih (fun b hb => hs b (by unfold frs; rw [List.filterMap_cons, hf]; exact List.mem_cons_of_mem _ hb)) hr⟩
  exact all X.outer (fun _ hb => hb) I.ok.funs
theorem Inv.stack (I : Inv X pins σ H s) : s.heap.FunFrames X.base X.stack := by
  rcases I.ok.stk with e | ⟨e, hf⟩
  · rw [e]; exact I.funs
  · rw [e]
    obtain ⟨m, hn, _⟩ := I.loc
    refine .cons (by rw [I.ok.kind]; decide) hf hn ?_ I.funs
    exact Heap.get?_none_of_le (Nat.le_trans I.ok.bsz I.ok.above)
theorem Inv.stkSub (I : Inv X pins σ H s) : ∀ b ∈ frs X.stack, b ∈ X.env.locals :: X.fs := fun b hb => by
  rcases I.ok.stk with e | ⟨e, hf⟩
  · rw [e] at hb; exact List.mem_cons_of_mem _ hb
  · rw [e] at hb
    unfold frs at hb
    rw [List.filterMap_cons, hf] at hb
    exact hb
theorem Inv.stkFree (I : Inv X pins σ H s) : ∀ b ∈ frs X.stack, H b = none := fun b hb => by
  rcases List.mem_cons.mp (I.stkSub b hb) with e | hb
  · rw [e]; exact I.free
  · obtain ⟨_, o, ho, _⟩ := I.ok.funs.mem hb
    exact I.base.free b o ho (I.ok.frf b hb) fun z => I.ok.exfs b z hb
theorem Inv.step {g' : Array GenState} {t' : Nat} {d' : Drawn} {ch : List Addr} (I : Inv X pins σ H s)
    (hch : ∀ b ∈ ch, (b ∈ X.ex ∨ X.s₀.heap.objs.size ≤ b) ∧ b ≠ X.env.locals ∧ (∀ x c, X.env.cells.lookup x = some c → c ≠ b) ∧ ∀ p ∈ X.pn ++ pins, p.1 ≠ b)
    (keep : ∀ b o, b ≠ X.env.locals → b ∉ X.fs → b ∉ ch → s.heap.get? b = some o → H b = none → h'.get? b = some o)
    (slot : ∀ b o, b ≠ X.env.locals → b ∈ X.fs → b ∉ ch → s.heap.get? b = some o → H b = none → ∃ sl, h'.get? b = some { o with slots := sl }) (free : ∀ b o, b ∉ ch → s.heap.get? b = some o → H b = none → H' b = none)
    (there : ∀ b o, b ∉ ch → s.heap.get? b = some o → ∃ o', h'.get? b = some o')
    (tups : ∀ b xs, H b = some (.tup xs) → H' b = some (.tup xs)) (frzs : ∀ b o u, H b = some (.frz o u) → H' b = some (.frz o u)) (tbls : ∀ b ps, H b = some (.tbl ps) → ∃ more, H' b = some (.tbl (ps ++ more)))
    (ns : ∀ m, s.heap.Ns X.env.locals m → h'.Ns X.env.locals m) (hok : HOk X.prog X.w H' h') (hg : AllBare g') :
    Inv X pins σ H' { s with heap := h', gens := g', drawn := d', toks := t' } := by
  have neL : ∀ b o, X.s₀.heap.get? b = some o → b ≠ X.env.locals := fun b o e => Nat.ne_of_lt (Nat.lt_of_lt_of_le (Heap.lt_size e) I.ok.above)
  have neC : ∀ b o, X.s₀.heap.get? b = some o → b ∉ X.ex → b ∉ ch := fun b o e hx hb => by
    rcases (hch b hb).1 with z | z
    · exact hx z
    · exact absurd (Nat.lt_of_lt_of_le (Heap.lt_size e) z) (Nat.lt_irrefl _)
  have cellK : ∀ x c, X.env.cells.lookup x = some c → ∀ v, s.heap.IsCell c v → h'.IsCell c v := fun x c e v ⟨o, ho, hd⟩ => by
    have nch : c ∉ ch := fun z => (hch c z).2.2.1 x c e rfl
    by_cases hc : c ∈ X.fs
    · obtain ⟨sl, q⟩ := slot c o (I.cne x c e) hc nch ho (I.freeC x c e)
      exact ⟨_, q, hd⟩
    · exact ⟨o, keep c o (I.cne x c e) hc nch ho (I.freeC x c e), hd⟩
  refine ⟨I.ok, I.os, hg, ⟨fun b o e n hb hx => ?_, fun b o e n hb hx => ?_, fun b o e n hx => ?_, fun b o e hx => ?_, fun b xs e => tups b xs (I.base.tups b xs e), fun b o xs e => frzs b o xs (I.base.frzs b o xs e), fun b ps e => ?_⟩, ?_, fun x c e => ?_, ?_, fun x c e => ?_, fun p hp => ?_, hok, I.len⟩
  · exact keep b o (neL b o e) hb (neC b o e hx) (I.base.keep b o e n hb hx) (I.base.free b o e n hx)
  · obtain ⟨sl, e1⟩ := I.base.slot b o e n hb hx
    obtain ⟨sl', e2⟩ := slot b _ (neL b o e) hb (neC b o e hx) e1 (I.base.free b o e n hx)
    exact ⟨sl', e2⟩
  · obtain ⟨o', e1⟩ := I.base.there b o e hx
    exact free b o' (neC b o e hx) e1 (I.base.free b o e n hx)
  · obtain ⟨o', e1⟩ := I.base.there b o e hx
    exact there b o' (neC b o e hx) e1
  · obtain ⟨m1, e1⟩ := I.base.tbls b ps e
    obtain ⟨m2, e2⟩ := tbls b _ e1
    exact ⟨m1 ++ m2, by rw [e2, Array.append_assoc]⟩
  · obtain ⟨m, hn, hl⟩ := I.loc
    refine ⟨m, ns m hn, fun i x v e1 e2 e3 => ?_⟩
    obtain ⟨u, r, l⟩ := hl i x v e1 e2 e3
    refine ⟨u, r, ?_⟩
    rcases l with l | ⟨k, c, e, z⟩
    · exact .inl l
    · exact .inr ⟨k, c, e, cellK x c e _ z⟩
  · obtain ⟨v, z⟩ := I.cell x c e
    exact ⟨v, cellK x c e v z⟩
  · obtain ⟨m, ⟨o, _, _, ho, _⟩, _⟩ := I.loc
    exact free _ o (fun z => (hch _ z).2.1 rfl) ho I.free
  · obtain ⟨v, o, ho, hd⟩ := I.cell x c e
    exact free c o (fun z => (hch c z).2.2.1 x c e rfl) ho (I.freeC x c e)
  · obtain ⟨e, n, ne, nf, d⟩ := I.pin p hp
    have nch : p.1 ∉ ch := fun z => (hch p.1 z).2.2.2 p hp rfl
    exact ⟨keep p.1 p.2 ne nf nch e n, free p.1 p.2 nch e n, ne, nf, d⟩
theorem Inv.un {t' : Nat} (I : Inv X pins σ H s) (u : Un X.fs [] H H' s.heap h') (hok : HOk X.prog X.w H' h') : Inv X pins σ H' { s with heap := h', toks := t' } := by
  obtain ⟨m, ⟨o, es, ep, ho, r⟩, _⟩ := id I.loc
  obtain ⟨sl, hL⟩ := u.any ho I.free (by simp)
  exact I.step (g' := s.gens) (d' := s.drawn) (ch := []) (fun _ z => nomatch z) (fun b o _ hb _ e n => u.keep b o e n hb (by simp)) (fun b o _ hb _ e n => u.slot b o e n hb (by simp)) (fun b o _ e n => u.free b o e n (by simp)) (fun b o _ e => u.there b o e (by simp)) u.tups u.frzs u.tbls (fun m' hm => by
    obtain ⟨o', es', ep', ho', r'⟩ := hm
    rw [ho] at ho'; cases ho'
    exact ⟨_, es', ep', hL, r'⟩) hok I.bare
theorem Inv.call {g' : Array GenState} {t' : Nat} {d' : Drawn} {ch : List Addr} (I : Inv X pins σ H s) (u : Un (frs X.stack) ch H H' s.heap h') (hok : HOk X.prog X.w H' h') (hg : AllBare g')
    (hch : ∀ b ∈ ch, (b ∈ X.ex ∨ X.s₀.heap.objs.size ≤ b) ∧ b ≠ X.env.locals ∧ (∀ x c, X.env.cells.lookup x = some c → c ≠ b) ∧ ∀ p ∈ X.pn ++ pins, p.1 ≠ b) :
    Inv X pins σ H' { s with heap := h', gens := g', drawn := d', toks := t' } := by
  obtain ⟨m, ⟨o, es, ep, ho, r⟩, _⟩ := id I.loc
  obtain ⟨sl, hL⟩ := u.any ho I.free fun z => (hch _ z).2.1 rfl
  exact I.step (ch := ch) hch (fun b o hL hb hc e n => u.keep b o e n (fun z => (List.mem_cons.mp (I.stkSub b z)).elim hL hb) hc) (fun b o _ _ hc e n => u.any e n hc) (fun b o hc e n => u.free b o e n hc) (fun b o hc e => u.there b o e hc) u.tups u.frzs u.tbls (fun m' hm => by
    obtain ⟨o', es', ep', ho', r'⟩ := hm
    rw [ho] at ho'; cases ho'
    exact ⟨_, es', ep', hL, r'⟩) hok hg
theorem Inv.turned {t' : Nat} {it : Addr} (I : Inv X pins σ H s) (k : ∀ b o, b ≠ it → s.heap.get? b = some o → h'.get? b = some o) (hn : H it = none) (hL : it ≠ X.env.locals)
    (h1 : it ∈ X.ex ∨ X.s₀.heap.objs.size ≤ it) (h2 : ∀ x c, X.env.cells.lookup x = some c → c ≠ it) (h3 : ∀ p ∈ X.pn ++ pins, p.1 ≠ it) : Inv X pins σ H { s with heap := h', toks := t' } := by
  have nit : ∀ b u, H b = some u → b ≠ it := fun b u e z => by rw [z, hn] at e; cases e
  refine I.step (g' := s.gens) (d' := s.drawn) (ch := [it]) (fun b hb => ?_) (fun b o _ _ hc e _ => k b o (fun z => hc (by simp [z])) e) (fun b o _ _ hc e _ => ⟨o.slots, k b o (fun z => hc (by simp [z])) e⟩) (fun _ _ _ _ n => n)
    (fun b o hc e => ⟨o, k b o (fun z => hc (by simp [z])) e⟩) (fun _ _ e => e) (fun _ _ _ e => e) (fun b ps e => ⟨#[], by rw [e]; simp⟩) (fun m hm => ?_) (fun b u e => ?_) I.bare
  · have e : b = it := by simpa using hb
    subst e
    exact ⟨h1, hL, h2, h3⟩
  · obtain ⟨o, es, ep, ho, r⟩ := hm
    exact ⟨o, es, ep, k _ o (Ne.symm hL) ho, r⟩
  · refine (I.hok b u e).stay (fun c v hc q => k c v ?_ q) (fun _ q => q) fun _ _ q => q
    rcases hc with z | z
    · rw [z]; exact nit b u e
    · exact nit c _ z
theorem Inv.tok (I : Inv X pins σ H s) (t : Nat) : Inv X pins σ H { s with toks := t } := I.un (h' := s.heap) (t' := t) Un.refl I.hok
theorem Inv.kept {t' : Nat} (I : Inv X pins σ H s) (k : ∀ b u, s.heap.get? b = some u → h'.get? b = some u) : Inv X pins σ H { s with heap := h', toks := t' } := I.un (Un.kept k) (I.hok.kept k)
theorem Inv.laid {a : Addr} {o : HO} {t' : Nat} (I : Inv X pins σ H s) (k : ∀ b u, s.heap.get? b = some u → h'.get? b = some u) (hp : s.heap.objs.size ≤ a) (new : ObjOk X.prog X.w (upd H a o) h' a o) :
    Inv X pins σ (upd H a o) { s with heap := h', toks := t' } := I.un (Un.laid k hp (I.hok.fresh hp)) (I.hok.laid k hp new)
theorem Inv.write {x e : Addr} {o : HO} {t' : Nat} (I : Inv X pins σ H s) (mu : Mut (H x)) (he : e = x ∨ H e = some (.own x)) (k : ∀ b u, b ≠ e → s.heap.get? b = some u → h'.get? b = some u) (heo : ∃ u, h'.get? e = some u)
    (new : ObjOk X.prog X.w (upd H x o) h' x o) : Inv X pins σ (upd H x o) { s with heap := h', toks := t' } := I.un (Un.write mu he k heo) (I.hok.write mu he k heo new)
theorem Inv.weak {σ' : List (Option V)} (I : Inv X pins σ H s) (hl : σ'.length = σ.length) (w : ∀ (i : Nat) v, σ'[i]? = some (some v) → σ[i]? = some (some v)) : Inv X pins σ' H s :=
  ⟨I.ok, I.os, I.bare, I.base, let ⟨m, hn, hl'⟩ := I.loc; ⟨m, hn, fun i x v e1 e2 e3 => hl' i x v e1 (w i v e2) e3⟩, I.cell, I.free, I.freeC, I.pin, I.hok, hl.trans I.len⟩
theorem Inv.pins_of {pins' : List (Addr × Obj)} (I : Inv X pins σ H s) (h : ∀ p ∈ pins', s.heap.get? p.1 = some p.2 ∧ H p.1 = none ∧ p.1 ≠ X.env.locals ∧ p.1 ∉ X.fs ∧ ∀ v, p.2.data ≠ .cell v) : Inv X pins' σ H s :=
  ⟨I.ok, I.os, I.bare, I.base, I.loc, I.cell, I.free, I.freeC, fun p hp => (List.mem_append.mp hp).elim (fun z => I.pin p (List.mem_append_left _ z)) (h p), I.hok, I.len⟩
theorem nodup_ix {N : List Str} (hN : N.Nodup) {i j : Nat} {x : Str} (a : N[i]? = some x) (b : N[j]? = some x) : i = j := by
  obtain ⟨h1, e1⟩ := List.getElem?_eq_some_iff.mp a
  obtain ⟨h2, e2⟩ := List.getElem?_eq_some_iff.mp b
  exact (List.getElem_inj hN).mp (e1.trans e2.symm)
theorem store_ok2 {M : Model} {A : Around} {E : Value → Shared → Prop} {i : Nat} {x : Str} {v : V} {u : Value} {Q : Unit → Shared → Prop} (I : Inv X pins σ H s) (hN : X.N.Nodup) (hi : X.N[i]? = some x) (hx : Loc X.env.scope x) (r : RelV v u)
    (h : ∀ s', Inv X pins (σ.set i (some v)) H s' → (∃ a, Heap.SameBut a s.heap s'.heap ∧ (a = X.env.locals ∨ X.env.cells.lookup x = some a)) → Q () s') (hf : X.fn x = true ∨ X.env.scope.names.lookup x = some .local := by first | exact .inl rfl | exact .inr rfl | assumption) : wpAny M A (storeName X.env x u) Q E s := by
  obtain ⟨m, hn, hl⟩ := id I.loc
  have hcls : (X.env.scope.kind == .class || (X.env.scope.kind == .module && X.env.locals != X.env.globals)) = false := by rw [I.ok.kind]; rfl
  have hiσ : i < σ.length := by rw [I.len]; exact (List.getElem?_eq_some_iff.mp hi).1
  have cne := I.cne
  have tracked : ∀ {a : Addr} {h' : Heap}, (∃ o, s.heap.get? a = some o ∧ H a = none) → Heap.SameBut a s.heap h' → HOk X.prog X.w H h' := fun {a h'} ha hs b ob e => by
    obtain ⟨_, _, hfree⟩ := ha
    refine (I.hok b ob e).stay (fun c w' hc q => (hs.2 c ?_).trans q) (fun _ q => q) fun _ _ q => q
    rintro rfl
    rcases hc with rfl | hc
    · rw [hfree] at e; cases e
    · rw [hfree] at hc; cases hc
  rcases hx with hk | hk
  · refine wpAny_storeName_local hk hn (fun h' hn' hs => ?_) hcls
    obtain ⟨oL, _, _, hoL, _⟩ := id hn
    refine h _ ⟨I.ok, I.os, I.bare, ⟨fun b o e n hb hx => ?_, fun b o e n hb hx => ?_, I.base.free, fun b o e hx => ?_, I.base.tups, I.base.frzs, I.base.tbls⟩, ⟨_, hn', fun j y v' e1 e2 e3 => ?_⟩, fun y c e => ?_, I.free, I.freeC, fun p hp => ?_, tracked ⟨oL, hoL, I.free⟩ hs, by simpa using I.len⟩ ⟨_, hs, .inl rfl⟩
    · exact (hs.2 b (Nat.ne_of_lt (Nat.lt_of_lt_of_le (Heap.lt_size e) I.ok.above))).trans (I.base.keep b o e n hb hx)
    · obtain ⟨sl, e1⟩ := I.base.slot b o e n hb hx
      exact ⟨sl, (hs.2 b (Nat.ne_of_lt (Nat.lt_of_lt_of_le (Heap.lt_size e) I.ok.above))).trans e1⟩
    · obtain ⟨o', e1⟩ := I.base.there b o e hx
      exact ⟨o', (hs.2 b (Nat.ne_of_lt (Nat.lt_of_lt_of_le (Heap.lt_size e) I.ok.above))).trans e1⟩
    · by_cases hj : j = i
      · subst hj
        rw [hi] at e1; cases e1
        rw [List.getElem?_set_self hiσ] at e2
        cases e2
        exact ⟨u, r, .inl ⟨hk, by simp⟩⟩
      · rw [List.getElem?_set_ne (Ne.symm hj)] at e2
        obtain ⟨u', r', q⟩ := hl j y v' e1 e2 e3
        refine ⟨u', r', ?_⟩
        rcases q with ⟨k, e⟩ | ⟨k, c, e, z⟩
        · refine .inl ⟨k, ?_⟩
          have : y ≠ x := fun e => hj (nodup_ix hN e1 (e ▸ hi))
          simp [this, e]
        · exact .inr ⟨k, c, e, z.sameBut hs (cne y c e)⟩
    · obtain ⟨w', z⟩ := I.cell y c e
      exact ⟨w', z.sameBut hs (cne y c e)⟩
    · obtain ⟨e, n, ne, nf, d⟩ := I.pin p hp
      exact ⟨(hs.2 p.1 ne).trans e, n, ne, nf, d⟩
  · have hfn : X.fn x = true := by
      rcases hf with z | z
      · exact z
      · rw [z] at hk; cases hk
    obtain ⟨c, hc⟩ := I.ok.has x (.inl hk)
    obtain ⟨w', z⟩ := I.cell x c hc
    refine wpAny_storeName_cell I.ok.kind hk hc z (fun h' hc' hs => ?_)
    obtain ⟨oc, hoc, hocd⟩ := id z
    refine h { s with heap := h' } ⟨I.ok, I.os, I.bare, ⟨fun b o e n hb hx => ?_, fun b o e n hb hx => ?_, I.base.free, fun b o e hx => ?_, I.base.tups, I.base.frzs, I.base.tbls⟩, ⟨m, hn.sameBut hs (Ne.symm (cne x c hc)), fun j y v' e1 e2 e3 => ?_⟩, fun y c' e => ?_, I.free, I.freeC, fun p hp => ?_, tracked ⟨oc, hoc, I.freeC x c hc⟩ hs, by simpa using I.len⟩ ⟨c, hs, .inr hc⟩
    · exact (hs.2 b (Nat.ne_of_lt (Nat.lt_of_lt_of_le (Heap.lt_size e) (I.ok.cab x c hfn hc)))).trans (I.base.keep b o e n hb hx)
    · obtain ⟨sl, e1⟩ := I.base.slot b o e n hb hx
      exact ⟨sl, (hs.2 b (Nat.ne_of_lt (Nat.lt_of_lt_of_le (Heap.lt_size e) (I.ok.cab x c hfn hc)))).trans e1⟩
    · obtain ⟨o', e1⟩ := I.base.there b o e hx
      exact ⟨o', (hs.2 b (Nat.ne_of_lt (Nat.lt_of_lt_of_le (Heap.lt_size e) (I.ok.cab x c hfn hc)))).trans e1⟩
    · by_cases hj : j = i
      · subst hj
        rw [hi] at e1; cases e1
        rw [List.getElem?_set_self hiσ] at e2
        cases e2
        exact ⟨u, r, .inr ⟨.inl hk, c, hc, hc'⟩⟩
      · rw [List.getElem?_set_ne (Ne.symm hj)] at e2
        obtain ⟨u', r', q⟩ := hl j y v' e1 e2 e3
        refine ⟨u', r', ?_⟩
        rcases q with q | ⟨k, c', e, z'⟩
        · exact .inl q
        · refine .inr ⟨k, c', e, z'.sameBut hs ?_⟩
          rintro rfl
          exact hj (nodup_ix hN e1 (I.ok.inj _ _ _ e hc ▸ hi))
    · by_cases hcc : c' = c
      · subst hcc; exact ⟨_, hc'⟩
      · obtain ⟨w2, z2⟩ := I.cell y c' e
        exact ⟨w2, z2.sameBut hs hcc⟩
    · obtain ⟨e, n, ne, nf, d⟩ := I.pin p hp
      refine ⟨(hs.2 p.1 ?_).trans e, n, ne, nf, d⟩
      intro q
      rw [q, hoc] at e
      have q' : oc = p.2 := Option.some.inj e
      exact d w' (by rw [← q']; exact hocd)
theorem store_ok {M : Model} {A : Around} {E : Value → Shared → Prop} {i : Nat} {x : Str} {v : V} {u : Value} {Q : Unit → Shared → Prop} (I : Inv X pins σ H s) (hN : X.N.Nodup) (hi : X.N[i]? = some x) (hx : Loc X.env.scope x) (r : RelV v u)
    (h : ∀ s', Inv X pins (σ.set i (some v)) H s' → Q () s') (hf : X.fn x = true ∨ X.env.scope.names.lookup x = some .local := by first | exact .inl rfl | exact .inr rfl | assumption) : wpAny M A (storeName X.env x u) Q E s :=
  store_ok2 I hN hi hx r (fun s' I' _ => h s' I') hf
theorem Inv.call' {s' : Shared} {ch : List Addr} (I : Inv X pins σ H s) (ho : s'.os = s.os) (u : Un (frs X.stack) ch H H' s.heap s'.heap) (hok : HOk X.prog X.w H' s'.heap) (hg : AllBare s'.gens)
    (hch : ∀ b ∈ ch, (b ∈ X.ex ∨ X.s₀.heap.objs.size ≤ b) ∧ b ≠ X.env.locals ∧ (∀ x c, X.env.cells.lookup x = some c → c ≠ b) ∧ ∀ p ∈ X.pn ++ pins, p.1 ≠ b) : Inv X pins σ H' s' := by
  obtain ⟨h', g', d', t', o'⟩ := s'
  have e : o' = s.os := ho
  subst e
  exact I.call (g' := g') (t' := t') (d' := d') u hok hg hch
end
abbrev XK := Value → Option Addr → Hp → Prop
abbrev St := List (Option V)
abbrev VK := V → Hp → Prop
abbrev TE := St → Hp → VK → Prop
abbrev TT := St → Hp → (Bool → Hp → Prop) → Prop
abbrev TA := St → Hp → (List V → Hp → Prop) → Prop
structure Ends where
  nx : St → Hp → Prop
  rt : VK
  bk : St → Hp → Prop := fun _ _ => False
  ct : St → Hp → Prop := fun _ _ => False
abbrev TS := Ends → St → Hp → Prop
def EP (X : Cx) (pins : List (Addr × Obj)) (σ : St) (Q : VK) (u : Value) (s' : Shared) : Prop := ∃ v H', Inv X pins σ H' s' ∧ RelV v u ∧ Q v H'
def TP (X : Cx) (pins : List (Addr × Obj)) (σ : St) (Q : Bool → Hp → Prop) (b : Bool) (s' : Shared) : Prop := ∃ H', Inv X pins σ H' s' ∧ Q b H'
def AP (X : Cx) (pins : List (Addr × Obj)) (σ : St) (Q : List V → Hp → Prop) (us : List Value) (s' : Shared) : Prop := ∃ vs H', Inv X pins σ H' s' ∧ Vals vs us ∧ Q vs H'
def SP (X : Cx) (pins : List (Addr × Obj)) (D : Ends) (f : Flow) (s' : Shared) : Prop :=
  match f with
  | .next => ∃ σ' H', Inv X pins σ' H' s' ∧ D.nx σ' H'
  | .brk => ∃ σ' H', Inv X pins σ' H' s' ∧ D.bk σ' H'
  | .cont => ∃ σ' H', Inv X pins σ' H' s' ∧ D.ct σ' H'
  | .ret u => ∃ v σ' H', Inv X pins σ' H' s' ∧ RelV v u ∧ D.rt v H'
def PE (X : Cx) (e : Expr) (t : TE) : Prop :=
  ∀ (pins : List (Addr × Obj)) (s : Shared) (σ : St) (H : Hp) (Q : VK), Inv X pins σ H s → t σ H Q → wpAny (model X.prog X.w) X.A (eval e X.env) (EP X pins σ Q) X.xe s
def PT (X : Cx) (e : Expr) (t : TT) : Prop :=
  ∀ (pins : List (Addr × Obj)) (s : Shared) (σ : St) (H : Hp) (Q : Bool → Hp → Prop), Inv X pins σ H s → t σ H Q → wpAny (model X.prog X.w) X.A (isTrue e X.env (eval e X.env)) (TP X pins σ Q) X.xe s
def PW (X : Cx) (e : Expr) (t : TT) : Prop :=
  ∀ (whole : Sem Value) (pins : List (Addr × Obj)) (s : Shared) (σ : St) (H : Hp) (Q : Bool → Hp → Prop), Inv X pins σ H s → t σ H Q → wpAny (model X.prog X.w) X.A (isTrue e X.env whole) (TP X pins σ Q) X.xe s
theorem PW.pt {X : Cx} {e : Expr} {t : TT} (h : PW X e t) : PT X e t := h _
def PA (X : Cx) (es : List Expr) (t : TA) : Prop :=
  ∀ (pos : Pos) (pins : List (Addr × Obj)) (s : Shared) (σ : St) (H : Hp) (Q : List V → Hp → Prop), Inv X pins σ H s → t σ H Q → wpAny (model X.prog X.w) X.A (spliced (backTo pos (starEach es X.env))) (AP X pins σ Q) X.xe s
def PS (X : Cx) (st : Stmt) (t : TS) : Prop :=
  ∀ (pins : List (Addr × Obj)) (s : Shared) (σ : St) (H : Hp) (D : Ends), Inv X pins σ H s → t D σ H → wpAny (model X.prog X.w) X.A (exec st X.env) (SP X pins D) X.xe s
def PSs (X : Cx) (st : List Stmt) (t : TS) : Prop :=
  ∀ (pins : List (Addr × Obj)) (s : Shared) (σ : St) (H : Hp) (D : Ends), Inv X pins σ H s → t D σ H → wpAny (model X.prog X.w) X.A (execs st X.env) (SP X pins D) X.xe s
theorem thn {α : Type} {t : Sem α} {Q Q' : α → Shared → Prop} {M : Model} {A : Around} {E : Value → Shared → Prop} {s : Shared} (h : wpAny M A t Q E s) (hQ : ∀ a s, Q a s → Q' a s) : wpAny M A t Q' E s := wpAny_mono h hQ fun _ _ x => x
end L2
namespace L2
open PySem PySem.Spec PyProof.Rows
section
variable {X : Cx}
def tVar (i : Nat) : TE := fun σ H Q => ∃ v, σ[i]? = some (some v) ∧ Q v H
def tC (v : V) : TE := fun _ H Q => Q v H
theorem pe_var {i : Nat} {x : Str} {pos : Pos} (hN : X.N[i]? = some x) (hv : Vis X.env.scope x) (hd : (x == ("__debug__" : Str)) = false := by decide) (hcd : (x == ("__classdict__" : Str)) = false := by decide) : PE X (.Name x pos) (tVar i) := by
  intro pins s σ H Q I h
  obtain ⟨v, e, h⟩ := h
  obtain ⟨m, hn, hl⟩ := I.loc
  obtain ⟨u, r, l⟩ := hl i x v hN e hv
  have fin : EP X pins σ Q u s := ⟨v, H, I, r, h⟩
  rcases l with ⟨hk, hm⟩ | ⟨hk, c, hc, hcell⟩
  · exact wpAny_Name (wpAny_loadName_local I.ok.kind hk hn hm fin) hd
  · rcases hk with hk | hk
    · exact wpAny_Name (wpAny_loadName_cell I.ok.kind hk hc hcell fin) hd
    · exact wpAny_Name (wpAny_loadName_free I.ok.kind hk hc hcell fin hcd) hd
theorem pe_int {i j pos} : PE X (.Constant (.int i) j pos) (tC (.int i)) := fun _ _ _ H _ I h => wpAny_Constant_int ⟨.int i, H, I.tok _, ⟨_, rfl⟩, h⟩
theorem pe_bl {b j pos} : PE X (.Constant (.bool b) j pos) (tC (.bl b)) := fun _ _ _ H _ I h => Constant_bool ⟨.bl b, H, I, rfl, h⟩
theorem pe_non {j pos} : PE X (.Constant .none j pos) (tC .non) := fun _ _ _ H _ I h => Constant_none ⟨.non, H, I, rfl, h⟩
theorem pe_str {x j pos} : PE X (.Constant (.str x) j pos) (tC (.str x)) := fun _ _ _ H _ I h => Calls.Constant_str ⟨.str x, H, I.tok _, ⟨_, rfl⟩, h⟩
def Gl (X : Cx) (x : Str) : Prop := X.env.kindOf x = some .globalImplicit
theorem ld_glob {E : Value → Shared → Prop} {pins : List (Addr × Obj)} {s : Shared} {σ : St} {H : Hp} {x : Str} {u : Value} {pos : Pos} {Q : Value → Shared → Prop} (I : Inv X pins σ H s) (hg : Gl X x) (hm : X.mg x = some u) (h : Q u s)
    (hd : (x == ("__debug__" : Str)) = false := by decide) : wpAny (model X.prog X.w) X.A (eval (.Name x pos) X.env) Q E s :=
  Calls.Name_function_global I.ok.kind hg (Calls.loadGlobal_global (by rw [I.ok.glob]; exact I.mod.glob.keeps I.bk) hm h) hd
theorem ld_blt {E : Value → Shared → Prop} {pins : List (Addr × Obj)} {s : Shared} {σ : St} {H : Hp} {x : Str} {u : Value} {pos : Pos} {Q : Value → Shared → Prop} (I : Inv X pins σ H s) (hg : Gl X x) (hm : X.mg x = none) (hv : bootBuiltins x = some u) (h : Q u s)
    (hn : x ≠ "__name__" := by decide) (hd : (x == ("__debug__" : Str)) = false := by decide) : wpAny (model X.prog X.w) X.A (eval (.Name x pos) X.env) Q E s := by
  obtain ⟨mb, h1, h2⟩ := I.mod.blt
  exact Calls.Name_function_global I.ok.kind hg (Calls.loadGlobal_builtin (by rw [I.ok.glob]; exact I.mod.glob.keeps I.bk) hm (by rw [I.ok.blt]; exact h1.keeps I.bk) ((h2 x hn).trans hv) h) hd
theorem pe_glob {x : Str} {v : V} {u : Value} {pos : Pos} (hg : Gl X x) (hm : X.mg x = some u) (r : RelV v u) (hd : (x == ("__debug__" : Str)) = false := by decide) : PE X (.Name x pos) (tC v) :=
  fun _ _ _ H _ I h => ld_glob I hg hm ⟨v, H, I, r, h⟩ hd
theorem pe_bltn {x : Str} {v : V} {u : Value} {pos : Pos} (hg : Gl X x) (hm : X.mg x = none) (hv : bootBuiltins x = some u) (r : RelV v u) (hn : x ≠ "__name__" := by decide) (hd : (x == ("__debug__" : Str)) = false := by decide) : PE X (.Name x pos) (tC v) :=
  fun _ _ _ H _ I h => ld_blt I hg hm hv ⟨v, H, I, r, h⟩ hn hd
def t2I (ta tb : TE) (k : Int → Int → Hp → Prop) : St → Hp → Prop := fun σ H => ta σ H fun x H1 => tb σ H1 fun y H2 => ∃ i j, x = .int i ∧ y = .int j ∧ k i j H2
def tAdd (ta tb : TE) : TE := fun σ H Q => t2I ta tb (fun i j H2 => Q (.int (i + j)) H2) σ H
def tSub (ta tb : TE) : TE := fun σ H Q => t2I ta tb (fun i j H2 => Q (.int (i - j)) H2) σ H
def tMul (ta tb : TE) : TE := fun σ H Q => t2I ta tb (fun i j H2 => (-(2 ^ 64) < i ∧ i < 2 ^ 64) ∧ Q (.int (i * j)) H2) σ H
variable {a b : Expr} {ta tb : TE} {pos : Pos}
def PC (X : Cx) (op : CmpOp) (a b : Expr) (t : TE) : Prop :=
  ∀ (pins : List (Addr × Obj)) (s : Shared) (σ : St) (H : Hp) (Q : VK), Inv X pins σ H s → t σ H Q →
    wpAny (model X.prog X.w) X.A (eval a X.env) (fun v s₁ => wpAny (model X.prog X.w) X.A (eval b X.env) (fun u s₂ => wpAny (model X.prog X.w) X.A (compareOp op v u) (EP X pins σ Q) X.xe s₂) X.xe s₁) X.xe s
def tCmp (p : Int → Int → Bool) (ta tb : TE) : TE := fun σ H Q => t2I ta tb (fun i j H2 => Q (.bl (p i j)) H2) σ H
abbrev tLt : TE → TE → TE := tCmp fun i j => decide (i < j)
abbrev tLe : TE → TE → TE := tCmp fun i j => decide (i ≤ j)
abbrev tGt : TE → TE → TE := tCmp fun i j => decide (j < i)
abbrev tGe : TE → TE → TE := tCmp fun i j => decide (j ≤ i)
abbrev tEqI : TE → TE → TE := tCmp fun i j => decide (i = j)
abbrev tNeI : TE → TE → TE := tCmp fun i j => !decide (i = j)
def tIsN (ta : TE) : TE := fun σ H Q => ta σ H fun x H1 => Q (.bl (decide (x = .non))) H1
def tNotN (ta : TE) : TE := fun σ H Q => ta σ H fun x H1 => Q (.bl (!decide (x = .non))) H1
def tB (t : TE) : TT := fun σ H Q => t σ H fun x H1 => ∃ c, x = .bl c ∧ Q c H1
theorem pt_cmp {op : CmpOp} {t : TE} (h : PC X op a b t) (h1 : behindInMarks op b = false := by first | exact nobehind _ (by decide) (by decide) | rfl) : PT X (.Compare a [op] [b] pos) (tB t) := by
  intro pins s σ H Q I hw
  refine wpAny_isTrue_Compare1 (thn (h pins s σ H _ I hw) fun v s1 h1 => thn h1 fun u s2 h2 => thn h2 fun c s3 ⟨x, H1, I1, r1, q1⟩ => ?_) h1
  obtain ⟨d, rfl, q⟩ := q1
  cases r1
  exact wpAny_truthy_bool ⟨H1, I1, q⟩
theorem pt_val {e : Expr} {t : TE} (h : PE X e t) (he : ∀ whole, isTrue e X.env whole = (do let v ← whole; standAt e.pos; holding [v] (truthy v)) := by intro _; rfl) : PT X e (tB t) := by
  intro pins s σ H Q I hw
  refine isTrue_plain (thn (h pins s σ H _ I hw) fun v s1 ⟨x, H1, I1, r1, q1⟩ => ?_) (he _)
  obtain ⟨d, rfl, q⟩ := q1
  cases r1
  exact wpAny_truthy_bool ⟨H1, I1, q⟩
variable {tA tB' : TT} {rest : List Expr}
def tAnd (t u : TT) : TT := fun σ H Q => t σ H fun c H1 => if c = true then u σ H1 Q else Q false H1
def tOr (t u : TT) : TT := fun σ H Q => t σ H fun c H1 => if c = true then Q true H1 else u σ H1 Q
def tNot (t : TT) : TT := fun σ H Q => t σ H fun c H1 => Q (!c) H1
theorem pw_and1 (ha : PT X a tA) : PW X (.BoolOp .And [a] pos) tA := by
  intro wh pins s σ H Q I h
  refine isTrue_and (thn (ha pins s σ H Q I h) fun c s1 e => ?_)
  cases c with
  | true => exact isTrue_and_nil e
  | false => exact e
theorem pw_or1 (ha : PT X a tA) : PW X (.BoolOp .Or [a] pos) tA := by
  intro wh pins s σ H Q I h
  refine isTrue_or (thn (ha pins s σ H Q I h) fun c s1 e => ?_)
  cases c with
  | false => exact isTrue_or_nil e
  | true => exact e
theorem pw_and (ha : PT X a tA) (hb : PW X (.BoolOp .And (b :: rest) pos) tB') : PW X (.BoolOp .And (a :: b :: rest) pos) (tAnd tA tB') := by
  intro wh pins s σ H Q I h
  refine isTrue_and (thn (ha pins s σ H _ I h) fun c s1 ⟨H1, I1, q1⟩ => ?_)
  cases c with
  | true => exact hb wh pins s1 σ H1 Q I1 q1
  | false => exact ⟨H1, I1, q1⟩
theorem pw_or (ha : PT X a tA) (hb : PW X (.BoolOp .Or (b :: rest) pos) tB') : PW X (.BoolOp .Or (a :: b :: rest) pos) (tOr tA tB') := by
  intro wh pins s σ H Q I h
  refine isTrue_or (thn (ha pins s σ H _ I h) fun c s1 ⟨H1, I1, q1⟩ => ?_)
  cases c with
  | true => exact ⟨H1, I1, q1⟩
  | false => exact hb wh pins s1 σ H1 Q I1 q1
theorem pt_not (ha : PT X a tA) : PT X (.UnaryOp .Not a pos) (tNot tA) := by
  intro pins s σ H Q I h
  exact isTrue_not (ha pins s σ H (fun c H1 => Q (!c) H1) I h)
def tAndV (ta tb : TE) : TE := fun σ H Q => ta σ H fun x H1 => ∃ c, x = .bl c ∧ if c = true then tb σ H1 Q else Q (.bl false) H1
def tOrV (ta tb : TE) : TE := fun σ H Q => ta σ H fun x H1 => ∃ c, x = .bl c ∧ if c = true then Q (.bl true) H1 else tb σ H1 Q
def tNotV (ta : TE) : TE := fun σ H Q => ta σ H fun x H1 => ∃ c, x = .bl c ∧ Q (.bl (!c)) H1
theorem pe_one {op} {t : TE} (h : PE X a t) : PE X (.BoolOp op [a] pos) t := fun pins s σ H Q I hw => BoolOp_one (h pins s σ H Q I hw)
theorem pe_and (ha : PE X a ta) (hb : PE X (.BoolOp .And (b :: rest) pos) tb) : PE X (.BoolOp .And (a :: b :: rest) pos) (tAndV ta tb) := by
  intro pins s σ H Q I h
  refine BoolOp_and (thn (ha pins s σ H _ I h) fun v s1 ⟨x, H1, I1, r1, q1⟩ => ?_)
  obtain ⟨c, rfl, q1⟩ := q1
  cases r1
  refine wpAny_truthy_bool ?_
  cases c with
  | true => exact hb pins s1 σ H1 Q I1 q1
  | false => exact ⟨.bl false, H1, I1, rfl, q1⟩
theorem pe_not (ha : PE X a ta) : PE X (.UnaryOp .Not a pos) (tNotV ta) := by
  intro pins s σ H Q I h
  refine UnaryOp_ (thn (ha pins s σ H _ I h) fun v s1 ⟨x, H1, I1, r1, q1⟩ => ?_)
  obtain ⟨c, rfl, q1⟩ := q1
  cases r1
  exact not_of (wpAny_truthy_bool ⟨.bl (!c), H1, I1, rfl, q1⟩)
def tIf (t : TT) (ta tb : TE) : TE := fun σ H Q => t σ H fun c H1 => if c = true then ta σ H1 Q else tb σ H1 Q
theorem pe_ifExp {c : Expr} (hc : PT X c tA) (ha : PE X a ta) (hb : PE X b tb) : PE X (.IfExp c a b pos) (tIf tA ta tb) := by
  intro pins s σ H Q I h
  refine wpAny_IfExp (thn (hc pins s σ H _ I h) fun d s1 ⟨H1, I1, q1⟩ => ?_)
  cases d with
  | true => exact ha pins s1 σ H1 Q I1 q1
  | false => exact hb pins s1 σ H1 Q I1 q1
end
end L2
namespace L2
open PySem PySem.Spec PyProof.Rows
def SqL (K : PySem.W.Frag) (H : Hp) (a : Addr) (xs : List V) : Prop :=
  Rd H a (.lst xs) ∨
    ∃ (o : Obj) (its : Array Value) (n : Nat), K.lookup a = some o ∧ o.cls = .type "list" ∧ o.dict = none ∧ o.data = .seq its n ∧ its.size ≤ sizeLine ∧ Vals xs its.toList
def SqT (K : PySem.W.Frag) (H : Hp) (a : Addr) (xs : List V) : Prop :=
  Rd H a (.tup xs) ∨
    ∃ (o : Obj) (its : Array Value) (n : Nat), K.lookup a = some o ∧ o.cls = .type "tuple" ∧ o.data = .seq its n ∧ its.size ≤ sizeLine ∧ Vals xs its.toList
def absV : Value → Option V
  | .none => some .non
  | .bool b => some (.bl b)
  | .int i _ => some (.int i)
  | .str x _ => some (.str x)
  | .bytes b _ => some (.byt b)
  | .float b _ => some (.flt b)
  | .ref a => some (.ref a)
  | .type n => some (.ty n)
  | _ => none
theorem RelV.abs {x : V} {u : Value} (r : RelV x u) : absV u = some x := by
  cases x with
  | non => cases r; rfl
  | bl _ => cases r; rfl
  | int _ => obtain ⟨t, rfl⟩ := r; rfl
  | str _ => obtain ⟨t, rfl⟩ := r; rfl
  | byt _ => obtain ⟨t, rfl⟩ := r; rfl
  | flt _ => obtain ⟨t, rfl⟩ := r; rfl
  | ref _ => cases r; rfl
  | ty _ => cases r; rfl
theorem RelV.inj {x y : V} {u : Value} (r : RelV x u) (q : RelV y u) : x = y := Option.some.inj (r.abs.symm.trans q.abs)
theorem Vals.inj : ∀ {xs ys : List V} {us : List Value}, Vals xs us → Vals ys us → xs = ys
  | _, _, _, .nil, .nil => rfl
  | _, _, _, .cons r t, .cons r' t' => by rw [r.inj r', Vals.inj t t']
section
variable {X : Cx} {pins : List (Addr × Obj)} {σ : St} {H : Hp} {s : Shared} {a : Addr} {xs ys : List V}
theorem SqL.of {K : PySem.W.Frag} (h : H a = some (.lst xs)) : SqL K H a xs := .inl (.inl h)
theorem SqT.of {K : PySem.W.Frag} (h : H a = some (.tup xs)) : SqT K H a xs := .inl (.inl h)
theorem Inv.list (I : Inv X pins σ H s) (h : SqL X.K H a xs) : ∃ its : List Value, Vals xs its ∧ PlainL s.heap a its.toArray ∧ xs.length ≤ sizeLine := by
  rcases h with h | ⟨o, its, n, hk, hc, hd, hs, hz, r⟩
  · obtain ⟨z, its, n, r, e⟩ := h.ok I.hok
    exact ⟨its, r, ⟨_, n, e, rfl, rfl, rfl⟩, z⟩
  · refine ⟨its.toList, r, ⟨o, n, I.kIn a o hk, hc, hd, by simpa using hs⟩, ?_⟩
    have e := r.length
    simp only [Array.length_toList] at e
    omega
theorem Inv.tuple (I : Inv X pins σ H s) (h : SqT X.K H a xs) : ∃ its : List Value, Vals xs its ∧ IsTup s.heap a its.toArray ∧ xs.length ≤ sizeLine := by
  rcases h with h | ⟨o, its, n, hk, hc, hs, hz, r⟩
  · obtain ⟨z, its, r, p⟩ := h.ok I.hok
    exact ⟨its, r, p, z⟩
  · refine ⟨its.toList, r, ⟨o, I.kIn a o hk, hc, n, by simpa using hs⟩, ?_⟩
    have e := r.length
    simp only [Array.length_toList] at e
    omega
theorem Inv.list_inj (I : Inv X pins σ H s) (h : SqL X.K H a xs) (h' : SqL X.K H a ys) : xs = ys := by
  obtain ⟨its, r, ⟨o, n, e, _, _, d⟩, _⟩ := I.list h
  obtain ⟨its', r', ⟨o', n', e', _, _, d'⟩, _⟩ := I.list h'
  rw [e] at e'; cases e'
  rw [d] at d'
  injection d' with d1 _
  have : its = its' := by simpa using congrArg Array.toList d1
  subst this
  exact r.inj r'
theorem Inv.tuple_inj (I : Inv X pins σ H s) (h : SqT X.K H a xs) (h' : SqT X.K H a ys) : xs = ys := by
  obtain ⟨its, r, ⟨o, e, _, n, d⟩, _⟩ := I.tuple h
  obtain ⟨its', r', ⟨o', e', _, n', d'⟩, _⟩ := I.tuple h'
  rw [e] at e'; cases e'
  rw [d] at d'
  injection d' with d1 _
  have : its = its' := by simpa using congrArg Array.toList d1
  subst this
  exact r.inj r'
end
abbrev Cx.wish (X : Cx) (E : Value → Shared → Prop) : Cx := { X with xe := E }
abbrev Cx.nox (X : Cx) : Cx := X.wish fun _ _ => False
theorem Cx.Ok.wish {X : Cx} (ok : X.Ok) (E : Value → Shared → Prop) : (X.wish E).Ok :=
  ⟨ok.mod, ok.kind, ok.glob, ok.blt, ok.above, ok.inj, ok.has, ok.cab, ok.hd, ok.frames, ok.stk, ok.exf, ok.bs, ok.bsz, ok.noex, ok.exfs, ok.funs, ok.frf⟩
theorem Cx.Ok.unwish {X : Cx} {E : Value → Shared → Prop} (ok : (X.wish E).Ok) : X.Ok :=
  ⟨ok.mod, ok.kind, ok.glob, ok.blt, ok.above, ok.inj, ok.has, ok.cab, ok.hd, ok.frames, ok.stk, ok.exf, ok.bs, ok.bsz, ok.noex, ok.exfs, ok.funs, ok.frf⟩
section
variable {X : Cx} {pins : List (Addr × Obj)} {σ : St} {H : Hp} {s : Shared} {E : Value → Shared → Prop}
theorem Inv.wish (I : Inv X pins σ H s) (E : Value → Shared → Prop) : Inv (X.wish E) pins σ H s := ⟨I.ok.wish E, I.os, I.bare, I.base, I.loc, I.cell, I.free, I.freeC, I.pin, I.hok, I.len⟩
theorem Inv.unwish (I : Inv (X.wish E) pins σ H s) : Inv X pins σ H s := ⟨I.ok.unwish, I.os, I.bare, I.base, I.loc, I.cell, I.free, I.freeC, I.pin, I.hok, I.len⟩
theorem SP.unwish {D : Ends} {f : Flow} {s' : Shared} (h : SP (X.wish E) pins D f s') : SP X pins D f s' := by
  cases f with
  | next => obtain ⟨σ', H', I, q⟩ := h; exact ⟨σ', H', I.unwish, q⟩
  | brk => obtain ⟨σ', H', I, q⟩ := h; exact ⟨σ', H', I.unwish, q⟩
  | cont => obtain ⟨σ', H', I, q⟩ := h; exact ⟨σ', H', I.unwish, q⟩
  | ret u => obtain ⟨v, σ', H', I, r, q⟩ := h; exact ⟨v, σ', H', I.unwish, r, q⟩
theorem PSs.nox {st : List Stmt} {t : TS} (h : PSs X.nox st t) : PSs X st t := fun pins s σ H D I hw =>
  wpAny_mono (h pins s σ H D (I.wish _) hw) (fun _ _ q => q.unwish) fun _ _ z => False.elim z
end
section
variable {X : Cx} {st : Stmt} {rest : List Stmt} {t u : TS} {e : Expr} {te : TE} {pos : Pos}
def tNext : TS := fun D σ H => D.nx σ H
def tSeq (t u : TS) : TS := fun D σ H => t { D with nx := u D } σ H
theorem pss_nil : PSs X [] tNext := fun _ _ σ H _ I h => wpAny_execs_nil ⟨σ, H, I, h⟩
theorem pss_cons (h1 : PS X st t) (h2 : PSs X rest u) : PSs X (st :: rest) (tSeq t u) := by
  intro pins s σ H D I h
  refine wpAny_execs_cons (thn (h1 pins s σ H { D with nx := u D } I h) fun f s1 q => ?_)
  cases f with
  | next =>
    obtain ⟨σ', H', I', q⟩ := q
    exact h2 pins s1 σ' H' D I' q
  | ret v => exact q
  | brk => exact q
  | cont => exact q
theorem pss_one (h1 : PS X st t) : PSs X [st] t := by
  intro pins s σ H D I h
  refine wpAny_execs_cons (thn (h1 pins s σ H D I h) fun f s1 q => ?_)
  cases f with
  | next => exact wpAny_execs_nil q
  | ret v => exact q
  | brk => exact q
  | cont => exact q
def tBreak : TS := fun D σ H => D.bk σ H
def tCont : TS := fun D σ H => D.ct σ H
theorem Inv.quiet {pins : List (Addr × Obj)} {σ : St} {H : Hp} {s : Shared} (I : Inv X pins σ H s) : interactive X.env = false := by simp [interactive, I.ok.kind]
def tDrop (te : TE) : TS := fun D σ H => te σ H fun _ H1 => D.nx σ H1
theorem ps_expr (he : PE X e te) (hs : swapsWith e none pos.line X.env = pure false := by rfl) : PS X (.Expr e pos) (tDrop te) := by
  intro pins s σ H D I h
  exact wpAny_Expr_any (thn (he pins s σ H _ I h) fun v s1 ⟨x, H1, I1, r1, q1⟩ => ⟨σ, H1, I1, q1⟩) I.quiet hs
def tRet (te : TE) : TS := fun D σ H => te σ H D.rt
theorem ps_ret (he : PE X e te) : PS X (.Return (some e) pos) (tRet te) := by
  intro pins s σ H D I h
  exact wpAny_Return_some (thn (he pins s σ H _ I h) fun v s1 ⟨x, H1, I1, r1, q1⟩ => ⟨x, σ, H1, I1, r1, q1⟩)
def tRetN : TS := fun D _ H => D.rt .non H
def tIfS (c : TT) (t u : TS) : TS := fun D σ H => c σ H fun b H1 => if b = true then t D σ H1 else u D σ H1
theorem ps_if {c : Expr} {a b : List Stmt} {tc : TT} (hc : PT X c tc) (ha : PSs X a t) (hb : PSs X b u) : PS X (.If c a b pos) (tIfS tc t u) := by
  intro pins s σ H D I h
  refine wpAny_If (thn (hc pins s σ H _ I h) fun d s1 ⟨H1, I1, q1⟩ => ?_)
  cases d with
  | true => exact ha pins s1 σ H1 D I1 q1
  | false => exact hb pins s1 σ H1 D I1 q1
def tNever : TS := fun _ _ _ => False
theorem ps_never : PS X st tNever := fun _ _ _ _ _ _ h => h.elim
end
abbrev TG := V → St → Hp → (St → Hp → Prop) → Prop
abbrev TGs := List V → St → Hp → (St → Hp → Prop) → Prop
def PG (X : Cx) (target : Expr) (t : TG) : Prop :=
  ∀ (pins : List (Addr × Obj)) (s : Shared) (σ : St) (H : Hp) (v : V) (u : Value) (Q : St → Hp → Prop), Inv X pins σ H s → RelV v u → t v σ H Q →
    wpAny (model X.prog X.w) X.A (assign target X.env u) (fun _ s' => ∃ σ' H', Inv X pins σ' H' s' ∧ Q σ' H') X.xe s
def PGs (X : Cx) (ts : List Expr) (t : TGs) : Prop :=
  ∀ (pins : List (Addr × Obj)) (s : Shared) (σ : St) (H : Hp) (vs : List V) (us : List Value) (Q : St → Hp → Prop), Inv X pins σ H s → Vals vs us → t vs σ H Q →
    wpAny (model X.prog X.w) X.A (assignInOrder ((assignEach ts X.env).map (·.2)) us) (fun _ s' => ∃ σ' H', Inv X pins σ' H' s' ∧ Q σ' H') X.xe s
abbrev TSet := V → V → V → Hp → (Hp → Prop) → Prop
def PSet (X : Cx) (t : TSet) : Prop :=
  ∀ (pins : List (Addr × Obj)) (s : Shared) (σ : St) (H : Hp) (o i v : V) (ov iv u : Value) (Q : Hp → Prop), Inv X pins σ H s → RelV o ov → RelV i iv → RelV v u → t o i v H Q →
    wpAny (model X.prog X.w) X.A (setItem ov iv u) (fun _ s' => ∃ H', Inv X pins σ H' s' ∧ Q H') X.xe s
abbrev TIp := V → V → Hp → VK → Prop
def PIp (X : Cx) (op : Operator) (t : TIp) : Prop :=
  ∀ (pins : List (Addr × Obj)) (s : Shared) (σ : St) (H : Hp) (x y : V) (v u : Value) (Q : VK), Inv X pins σ H s → RelV x v → RelV y u → t x y H Q →
    wpAny (model X.prog X.w) X.A (inplaceOp op v u) (EP X pins σ Q) X.xe s
section
variable {X : Cx} {pos : Pos}
def gName (i : Nat) : TG := fun v σ H Q => Q (σ.set i (some v)) H
theorem pg_name {i : Nat} {x : Str} (hN : X.N.Nodup) (hi : X.N[i]? = some x) (hx : Loc X.env.scope x) (hf : X.fn x = true ∨ X.env.scope.names.lookup x = some .local := by first | exact .inl rfl | exact .inr rfl | assumption) : PG X (.Name x pos) (gName i) := by
  intro pins s σ H v u Q I r h
  exact wpAny_assign_Name (store_ok I hN hi hx r (fun s' I' => ⟨_, H, I', h⟩) hf)
def gNil : TGs := fun vs σ H Q => vs = [] ∧ Q σ H
def gCons (t : TG) (u : TGs) : TGs := fun vs σ H Q => ∃ v r, vs = v :: r ∧ t v σ H fun σ' H' => u r σ' H' Q
theorem pgs_nil : PGs X [] gNil := by
  intro pins s σ H vs us Q I r h
  obtain ⟨e, h⟩ := h
  subst e
  cases r
  exact assignInOrder_nil ⟨σ, H, I, h⟩
theorem pgs_cons {e : Expr} {es : List Expr} {t : TG} {u : TGs} (h1 : PG X e t) (h2 : PGs X es u)
    (hs : (assignEach (e :: es) X.env).map (·.2) = assign e X.env :: (assignEach es X.env).map (·.2) := by rfl) : PGs X (e :: es) (gCons t u) := by
  intro pins s σ H vs us Q I r h
  obtain ⟨v, vr, e1, h⟩ := h
  subst e1
  cases r with
  | cons r rr =>
    rw [hs]
    refine assignInOrder_cons (thn (h1 pins s σ H _ _ _ I r h) fun _ s1 ⟨σ1, H1, I1, q1⟩ => ?_)
    exact h2 pins s1 σ1 H1 _ _ Q I1 rr q1
def gTup (K : PySem.W.Frag) (n : Nat) (t : TGs) : TG := fun v σ H Q => ∃ a xs, v = .ref a ∧ SqT K H a xs ∧ xs.length = n ∧ t xs σ H Q
theorem pg_tup {es : List Expr} {k : Nat} {t : TGs} {n : Nat} (hc : X.calm = true) (h : PGs X es t)
    (hn : (assignEach es X.env).length = n := by rfl) (hst : (assignEach es X.env).findIdx? (·.1) = none := by rfl) : PG X (.Tuple es k pos) (gTup X.K n t) := by
  intro pins s σ H v u Q I r hw
  obtain ⟨a, xs, e1, hq, hl, hw⟩ := hw
  subst e1
  cases r
  obtain ⟨its, rv, ht, hz⟩ := I.tuple hq
  refine assign_Tuple_tuple (I.ok.hd hc) ht (by simp [hn, ← hl, rv.length]) hst fun h' hx => ?_
  have I1 : Inv X pins σ H { s with heap := h' } := I.kept (t' := s.toks) fun b o e => hx b o (Nat.ne_of_lt (Heap.lt_size e)) e
  exact h pins _ σ H xs _ Q I1 (by simpa using rv) hw
def gSub (to ti : TE) (t : TSet) : TG := fun v σ H Q => to σ H fun o H1 => ti σ H1 fun i H2 => t o i v H2 fun H3 => Q σ H3
def tAsg (te : TE) (g : TG) : TS := fun D σ H => te σ H fun x H1 => g x σ H1 D.nx
theorem ps_set {i : Nat} {x : Str} {e : Expr} {te : TE} {pos' : Pos} (hN : X.N.Nodup) (hi : X.N[i]? = some x) (hx : Loc X.env.scope x) (he : PE X e te) (hs : swapsWith e (some (.Name x pos')) pos.line X.env = pure false := by rfl) (hf : X.fn x = true ∨ X.env.scope.names.lookup x = some .local := by first | exact .inl rfl | exact .inr rfl | assumption) :
    PS X (.Assign [.Name x pos'] e pos) (tAsg te (gName i)) := by
  intro pins s σ H D I h
  refine wpAny_Assign_Name (thn (he pins s σ H _ I h) fun v s1 ⟨y, H1, I1, r1, q1⟩ => ?_) hs
  exact store_ok I1 hN hi hx r1 (fun s2 I2 => ⟨_, H1, I2, q1⟩) hf
def tPar (i j : Nat) (ta : TA) : TS := fun D σ H => ta σ H fun vs H1 => ∃ v w, vs = [v, w] ∧ D.nx ((σ.set i (some v)).set j (some w)) H1
def tAug (i : Nat) (te : TE) (ti : TIp) : TS := fun D σ H => ∃ x, σ[i]? = some (some x) ∧ te σ H fun y H1 => ti x y H1 fun z H2 => D.nx (σ.set i (some z)) H2
def tAugS (to ti te : TE) (tget : V → V → Hp → VK → Prop) (tip : TIp) (tset : TSet) : TS := fun D σ H => to σ H fun o H1 => ti σ H1 fun i H2 => tget o i H2 fun x H3 => te σ H3 fun y H4 => tip x y H4 fun z H5 => tset o i z H5 fun H6 => D.nx σ H6
def PGet (X : Cx) (t : V → V → Hp → VK → Prop) : Prop :=
  ∀ (pins : List (Addr × Obj)) (s : Shared) (σ : St) (H : Hp) (o i : V) (ov iv : Value) (Q : VK), Inv X pins σ H s → RelV o ov → RelV i iv → t o i H Q →
    wpAny (model X.prog X.w) X.A (getItem ov iv) (EP X pins σ Q) X.xe s
def ipI (f : Int → Int → Int) : TIp := fun x y H Q => ∃ i j, x = .int i ∧ y = .int j ∧ Q (.int (f i j)) H
end
section
variable {X : Cx} {pos : Pos}
def tWhile (c : TT) (tb : TS) : TS := fun D σ H => ∃ W : Nat → St → Hp → Prop, (∃ m, W m σ H) ∧ ∀ m σ H, W m σ H →
  c σ H fun b H1 => if b = true then ∃ N : St → Hp → Prop, (∀ σ' H', N σ' H' → ∃ m', m' < m ∧ W m' σ' H') ∧ tb { D with nx := N, ct := N, bk := D.nx } σ H1 else D.nx σ H1
theorem ps_while {c : Expr} {body : List Stmt} {tc : TT} {tb : TS} (hp : PassesOwn (model X.prog X.w) X.A X.env X.xe) (hc : PT X c tc) (hb : PSs X body tb) : PS X (.While c body [] pos) (tWhile tc tb) := by
  intro pins s σ H D I h
  obtain ⟨W, ⟨m0, w0⟩, turn⟩ := h
  refine wpAny_While (codeAny_whileLoop (fun n s' => ∃ σ' H', Inv X pins σ' H' s' ∧ W n σ' H') ?_ m0 ⟨σ, H, I, w0⟩)
  rintro n s1 ⟨σ1, H1, I1, w1⟩
  refine wpAny_passesOwn hp (thn (hc pins s1 σ1 H1 _ I1 (turn n σ1 H1 w1)) fun b s2 ⟨H2, I2, q2⟩ => ?_)
  cases b with
  | true =>
    obtain ⟨N, hN, q2⟩ := q2
    rw [if_pos rfl]
    refine wpAny_passesOwn hp (thn (hb pins s2 σ1 H2 _ I2 q2) fun f s3 q3 => ?_)
    cases f with
    | next =>
      obtain ⟨σ3, H3, I3, n3⟩ := q3
      obtain ⟨m', hm, w3⟩ := hN σ3 H3 n3
      exact ⟨m', hm, σ3, H3, I3, w3⟩
    | cont =>
      obtain ⟨σ3, H3, I3, n3⟩ := q3
      obtain ⟨m', hm, w3⟩ := hN σ3 H3 n3
      exact ⟨m', hm, σ3, H3, I3, w3⟩
    | brk => exact q3
    | ret v => exact q3
  | false =>
    rw [if_neg Bool.false_ne_true]
    exact wpAny_execs_nil ⟨σ1, H2, I2, q2⟩
end
structure It where
  go : Nat → Hp → Prop
  yld : Nat → Hp → V → Hp → Prop
  stop : Nat → Hp → Prop
def FpOk (X : Cx) (pins : List (Addr × Obj)) (H : Hp) (b : Addr) : Prop :=
  H b = none ∧ b ≠ X.env.locals ∧ b ∉ X.fs ∧ (b ∈ X.ex ∨ X.s₀.heap.objs.size ≤ b) ∧ (∀ x c, X.env.cells.lookup x = some c → c ≠ b) ∧ ∀ p ∈ X.pn ++ pins, p.1 ≠ b
theorem Inv.fpOk {X : Cx} {pins : List (Addr × Obj)} {σ : St} {H H' : Hp} {s : Shared} {b : Addr} (I : Inv X pins σ H s) (hb : s.heap.objs.size ≤ b) (hn : H' b = none) : FpOk X pins H' b := by
  refine ⟨hn, Nat.ne_of_gt (Nat.lt_of_lt_of_le I.lt hb), I.nofs hb, .inr (Nat.le_trans I.sz hb), fun x c e z => ?_, fun p hp z => ?_⟩
  · obtain ⟨v, q⟩ := I.cell x c e
    exact absurd (Nat.lt_of_lt_of_le q.lt (by rw [z]; exact hb)) (Nat.lt_irrefl _)
  · exact absurd (Nat.lt_of_lt_of_le (Heap.lt_size (I.pin p hp).1) (by rw [z]; exact hb)) (Nat.lt_irrefl _)
structure Turn (P : Program) (w : World) (K : PySem.W.Frag) (tg : Expr) (J : It) (fp : List Addr) (it : Addr) (tn : Nat → Heap → Prop) : Prop where
  mem : it ∈ fp
  obj : ∀ i h, tn i h → ∀ b ∈ fp, ∃ o, h.get? b = some o ∧ ∀ v, o.data ≠ .cell v
  keep : ∀ i h h', tn i h → (∀ b ∈ fp, ∀ o, h.get? b = some o → h'.get? b = some o) → tn i h'
  item : ∀ (X : Cx), X.prog = P → X.w = w → X.K = K → X.calm = true → ∀ (i : Nat) (pins : List (Addr × Obj)) (s : Shared) (σ : St) (H : Hp) (E : Value → Shared → Prop), Inv X pins σ H s → (∀ b ∈ fp, FpOk X pins H b) → tn i s.heap → J.go i H →
    wpAny (model P w) X.A (pyNext (.ref it)) (fun r s1 => ∃ u, r = some u ∧
      wpAny (model P w) X.A (letOwnedTupleGo tg (.ref it) u) (fun _ s2 => ∃ x H', Inv X pins σ H' s2 ∧ RelV x u ∧ J.yld i H x H' ∧ tn (i + 1) s2.heap ∧ ∀ b ∈ fp, H' b = none) E s1) E s
  done : ∀ (X : Cx), X.prog = P → X.w = w → X.K = K → X.calm = true → ∀ (i : Nat) (pins : List (Addr × Obj)) (s : Shared) (σ : St) (H : Hp) (E : Value → Shared → Prop), Inv X pins σ H s → (∀ b ∈ fp, FpOk X pins H b) → tn i s.heap → J.stop i H →
    wpAny (model P w) X.A (pyNext (.ref it)) (fun r s1 => r = none ∧ Inv X pins σ H s1) E s
  self : ∀ (A : Around) (i : Nat) (s : Shared) (Q : Value → Shared → Prop) (E : Value → Shared → Prop), tn i s.heap → Q (.ref it) s → wpAny (model P w) A (pyIter (.ref it)) Q E s
abbrev TI := St → Hp → (It → Hp → Prop) → Prop
def PIE (X : Cx) (pins : List (Addr × Obj)) (σ : St) (tg : Expr) (R : It → Hp → Prop) (itv : Value) (s2 : Shared) : Prop :=
  ∃ (it : Addr) (fp : List Addr) (tn : Nat → Heap → Prop) (J : It) (H' : Hp), itv = .ref it ∧ Inv X pins σ H' s2 ∧ Turn X.prog X.w X.K tg J fp it tn ∧ tn 0 s2.heap ∧ (∀ b ∈ fp, FpOk X pins H' b) ∧ R J H'
def PI (X : Cx) (tg iter : Expr) (wi : TI) : Prop :=
  ∀ (pins : List (Addr × Obj)) (s : Shared) (σ : St) (H : Hp) (R : It → Hp → Prop), Inv X pins σ H s → wi σ H R →
    wpAny (model X.prog X.w) X.A (eval iter X.env) (fun v s1 => wpAny (model X.prog X.w) X.A (pyIter v) (PIE X pins σ tg R) X.xe s1) X.xe s
theorem go_of {M : Model} {A : Around} {E : Value → Shared → Prop} {s : Shared} {tg : Expr} {it : Addr} {u : Value} {o : Obj} {n : String} {vs : Array Value} {Q : Unit → Shared → Prop} (ho : s.heap.get? it = some o) (hc : o.cls = .type n) (hd : o.data = .fields vs)
    (hn : ["enumerate", "zip", "dict_itemiterator", "dict_reverseitemiterator", "odict_iterator", "itertools.zip_longest", "itertools.pairwise"].contains n = false) (hQ : Q () s) : wpAny M A (letOwnedTupleGo tg (.ref it) u) Q E s := by
  unfold letOwnedTupleGo
  cases tg <;> first
    | exact wpAny_pure hQ
    | (cases u <;> first
        | exact wpAny_pure hQ
        | (refine wpAny_bind (wpAny_load ho ?_)
           rw [hc, hd]
           show wpAny M A (if (["enumerate", "zip", "dict_itemiterator", "dict_reverseitemiterator", "odict_iterator", "itertools.zip_longest", "itertools.pairwise"].contains n && vs[0]? == some (rawInt _)) = true then _ else _) Q E s
           rw [if_neg (by intro h; rw [hn, Bool.false_and] at h; cases h)]
           exact wpAny_pure hQ))
def Itl (K : PySem.W.Frag) (a : Addr) : It :=
  ⟨fun i H => ∃ xs x, SqL K H a xs ∧ xs[i]? = some x, fun i H x H' => H' = H ∧ ∀ xs, SqL K H a xs → xs[i]? = some x, fun i H => ∃ xs, SqL K H a xs ∧ xs.length ≤ i⟩
def Itt (K : PySem.W.Frag) (a : Addr) : It :=
  ⟨fun i H => ∃ xs x, SqT K H a xs ∧ xs[i]? = some x, fun i H x H' => H' = H ∧ ∀ xs, SqT K H a xs → xs[i]? = some x, fun i H => ∃ xs, SqT K H a xs ∧ xs.length ≤ i⟩
def Itr (lo : Int) (n : Nat) : It := ⟨fun i _ => i < n, fun i H x H' => H' = H ∧ x = .int (lo + i), fun i _ => n ≤ i⟩
theorem turn_list {P : Program} {w : World} {K : PySem.W.Frag} {tg : Expr} (a it : Addr) : Turn P w K tg (Itl K a) [it] it (fun i h => h.IsListIter it a i) where
  mem := by simp
  obj := fun i h st b hb => by
    have e : b = it := by simpa using hb
    subst e
    obtain ⟨o, e, c, d⟩ := st
    exact ⟨o, e, fun v z => by rw [d] at z; cases z⟩
  keep := fun i h h' st k => st.at fun o e => k it (by simp) o e
  item := by
    intro X hP hw hK hc i pins s σ H E I hf st hg
    subst hP hw hK
    obtain ⟨xs, x, hq, hx⟩ := hg
    obtain ⟨its, rv, p, hz⟩ := I.list hq
    obtain ⟨u, hu, ru⟩ := rv.get hx
    obtain ⟨f0, f1, f2, f3, f4, f5⟩ := hf it (by simp)
    refine wpAny_pyNext_list_item st p.isList (x := u) (by simpa using hu) fun h' st' sb => ?_
    have I1 : Inv X pins σ H { s with heap := h' } := I.turned (t' := s.toks) (fun b o hb e => (sb.2 b hb).trans e) f0 f1 f3 f4 f5
    obtain ⟨o, e, c, d⟩ := id st'
    exact ⟨u, rfl, go_of (s := { s with heap := h' }) e c d (by decide) ⟨x, H, I1, ru, ⟨rfl, fun ys hy => by rw [I.list_inj hy hq]; exact hx⟩, st', fun b hb => (hf b hb).1⟩⟩
  done := by
    intro X hP hw hK hc i pins s σ H E I hf st hg
    subst hP hw hK
    obtain ⟨xs, hq, hx⟩ := hg
    obtain ⟨its, rv, p, hz⟩ := I.list hq
    obtain ⟨f0, f1, f2, f3, f4, f5⟩ := hf it (by simp)
    have hl := rv.length
    exact wpAny_pyNext_list_end (I.ok.hd hc) st p.isList (by simp; omega) fun h' eb => ⟨rfl, I.turned (t' := s.toks) (fun b o hb e => eb b o hb e) f0 f1 f3 f4 f5⟩
  self := fun _ _ _ _ _ st h => wpAny_pyIter_listiter st h
theorem turn_tuple {P : Program} {w : World} {K : PySem.W.Frag} {tg : Expr} (a it : Addr) : Turn P w K tg (Itt K a) [it] it (fun i h => h.IsTupleIter it a i) where
  mem := by simp
  obj := fun i h st b hb => by
    have e : b = it := by simpa using hb
    subst e
    obtain ⟨o, e, c, d⟩ := st
    exact ⟨o, e, fun v z => by rw [d] at z; cases z⟩
  keep := fun i h h' st k => st.at fun o e => k it (by simp) o e
  item := by
    intro X hP hw hK hc i pins s σ H E I hf st hg
    subst hP hw hK
    obtain ⟨xs, x, hq, hx⟩ := hg
    obtain ⟨its, rv, p, hz⟩ := I.tuple hq
    obtain ⟨u, hu, ru⟩ := rv.get hx
    obtain ⟨f0, f1, f2, f3, f4, f5⟩ := hf it (by simp)
    refine wpAny_pyNext_tuple_item st (show s.heap.IsTuple a its.toArray from p) (x := u) (by simpa using hu) fun h' st' sb => ?_
    have I1 : Inv X pins σ H { s with heap := h' } := I.turned (t' := s.toks) (fun b o hb e => (sb.2 b hb).trans e) f0 f1 f3 f4 f5
    obtain ⟨o, e, c, d⟩ := id st'
    exact ⟨u, rfl, go_of (s := { s with heap := h' }) e c d (by decide) ⟨x, H, I1, ru, ⟨rfl, fun ys hy => by rw [I.tuple_inj hy hq]; exact hx⟩, st', fun b hb => (hf b hb).1⟩⟩
  done := by
    intro X hP hw hK hc i pins s σ H E I hf st hg
    subst hP hw hK
    obtain ⟨xs, hq, hx⟩ := hg
    obtain ⟨its, rv, p, hz⟩ := I.tuple hq
    obtain ⟨f0, f1, f2, f3, f4, f5⟩ := hf it (by simp)
    have hl := rv.length
    exact wpAny_pyNext_tuple_end (I.ok.hd hc) st (show s.heap.IsTuple a its.toArray from p) (by simp; omega) fun h' eb => ⟨rfl, I.turned (t' := s.toks) (fun b o hb e => eb b o hb e) f0 f1 f3 f4 f5⟩
  self := fun _ _ _ _ _ st h => wpAny_pyIter_tupleiter st h
theorem turn_range {P : Program} {w : World} {K : PySem.W.Frag} {tg : Expr} (it : Addr) (lo : Int) (n : Nat) : Turn P w K tg (Itr lo n) [it] it (fun i h => IsRangeIter h it (lo + (i : Nat) * 1) ((n : Int) - (i : Nat)) 1) where
  mem := by simp
  obj := fun i h st b hb => by
    have e : b = it := by simpa using hb
    subst e
    exact ⟨_, st, fun v z => by
      have z' : Data.fields _ = Data.cell v := z
      cases z'⟩
  keep := fun i h h' st k => k it (by simp) _ st
  item := by
    intro X hP hw hK hc i pins s σ H E I hf st hg
    subst hP hw hK
    obtain ⟨f0, f1, f2, f3, f4, f5⟩ := hf it (by simp)
    have W := Walks.range (prog := X.prog) (w := X.w) (I.ok.hd hc) it lo 1 n
    refine W.item i s _ _ hg st fun v h' tk hv st' kk => ?_
    obtain ⟨t, rfl⟩ := hv
    have I1 : Inv X pins σ H { s with heap := h', toks := tk } := I.turned (fun b o hb e => kk b o (by simpa using hb) e) f0 f1 f3 f4 f5
    refine ⟨_, rfl, go_of (s := { s with heap := h', toks := tk }) (n := "range_iterator") st' rfl rfl (by decide) ⟨.int (lo + i), H, I1, ⟨t, ?_⟩, ⟨rfl, rfl⟩, st', fun b hb => (hf b hb).1⟩⟩
    rw [Int.mul_one]
  done := by
    intro X hP hw hK hc i pins s σ H E I hf st hg
    subst hP hw hK
    obtain ⟨f0, f1, f2, f3, f4, f5⟩ := hf it (by simp)
    exact wpAny_pyNext_range_end (I.ok.hd hc) st (by have : n ≤ i := hg; omega) fun h' eb => ⟨rfl, I.turned (t' := s.toks) (fun b o hb e => eb b o hb e) f0 f1 f3 f4 f5⟩
  self := fun _ _ _ _ _ st h => wpAny_pyIter_rangeiter st h
end L2
namespace L2
open PySem PySem.Spec PyProof.Rows
section
variable {X : Cx} {tg : Expr}
def iList (K : PySem.W.Frag) (tl : TE) : TI := fun σ H R => tl σ H fun x H1 => ∃ a, x = .ref a ∧ (∃ xs, SqL K H1 a xs) ∧ R (Itl K a) H1
def iTup (K : PySem.W.Frag) (tl : TE) : TI := fun σ H R => tl σ H fun x H1 => ∃ a, x = .ref a ∧ (∃ xs, SqT K H1 a xs) ∧ R (Itt K a) H1
theorem pi_list {l : Expr} {tl : TE} (hl : PE X l tl) : PI X tg l (iList X.K tl) := by
  intro pins s σ H R I h
  refine thn (hl pins s σ H _ I h) fun v s1 ⟨x, H1, I1, r1, q1⟩ => ?_
  obtain ⟨a, e, ⟨xs, hq⟩, q⟩ := q1
  subst e
  cases r1
  obtain ⟨its, rv, p, hz⟩ := I1.list hq
  refine wpAny_pyIter_list p.isList ?_
  refine ⟨s1.heap.objs.size, [s1.heap.objs.size], _, _, H1, rfl, I1.kept (t' := s1.toks) fun b o e => Heap.get?_push_of_some _ e, turn_list a _, ⟨_, Heap.get?_push_size _ rfl, rfl, rfl⟩, fun b hb => ?_, q⟩
  have e : b = s1.heap.objs.size := by simpa using hb
  subst e
  exact I1.fpOk (Nat.le_refl _) (I1.hok.fresh (Nat.le_refl _))
theorem pi_tup {l : Expr} {tl : TE} (hl : PE X l tl) : PI X tg l (iTup X.K tl) := by
  intro pins s σ H R I h
  refine thn (hl pins s σ H _ I h) fun v s1 ⟨x, H1, I1, r1, q1⟩ => ?_
  obtain ⟨a, e, ⟨xs, hq⟩, q⟩ := q1
  subst e
  cases r1
  obtain ⟨its, rv, p, hz⟩ := I1.tuple hq
  refine wpAny_pyIter_tuple (show s1.heap.IsTuple a its.toArray from p) ?_
  refine ⟨s1.heap.objs.size, [s1.heap.objs.size], _, _, H1, rfl, I1.kept (t' := s1.toks) fun b o e => Heap.get?_push_of_some _ e, turn_tuple a _, ⟨_, Heap.get?_push_size _ rfl, rfl, rfl⟩, fun b hb => ?_, q⟩
  have e : b = s1.heap.objs.size := by simpa using hb
  subst e
  exact I1.fpOk (Nat.le_refl _) (I1.hok.fresh (Nat.le_refl _))
theorem range_it {pins : List (Addr × Obj)} {σ : St} {H : Hp} {s : Shared} {R : It → Hp → Prop} {E : Value → Shared → Prop} {lo hi : Int} {t u v : Tok} {tk : Nat} (I : Inv X pins σ H s) (h1 : -(2 ^ 62) ≤ lo) (h2 : lo < 2 ^ 62) (h3 : -(2 ^ 62) ≤ hi) (h4 : hi < 2 ^ 62)
    (q : R (Itr lo (hi - lo).toNat) H) : wpAny (model X.prog X.w) X.A (pyIter (.ref s.heap.objs.size)) (PIE X pins σ tg R) E { s with heap := s.heap.push { cls := .type "range", data := .fields #[.int lo t, .int hi u, .int 1 v] }, toks := tk } := by
  refine wpAny_pyIter_range (IsRange.new ..) (small_one h1 h2 h3 h4) ?_
  have I1 : Inv X pins σ H { s with heap := s.heap.push { cls := .type "range", data := .fields #[.int lo t, .int hi u, .int 1 v] }, toks := tk } := I.kept fun b o e => Heap.get?_push_of_some _ e
  refine ⟨(s.heap.push { cls := .type "range", data := .fields #[.int lo t, .int hi u, .int 1 v] }).objs.size, [(s.heap.push { cls := .type "range", data := .fields #[.int lo t, .int hi u, .int 1 v] }).objs.size], _, _, H, rfl,
    I1.kept (t' := tk) fun b o e => Heap.get?_push_of_some _ e, turn_range _ lo (hi - lo).toNat, ?_, fun b hb => ?_, q⟩
  · have e1 : lo + ((0 : Nat) : Int) * 1 = lo := by simp
    have e2 : (((hi - lo).toNat : Nat) : Int) - ((0 : Nat) : Int) = Builtin.Range.rangeSize lo hi 1 := by rw [rangeSize_one]; split <;> omega
    show IsRangeIter _ _ (lo + ((0 : Nat) : Int) * 1) ((((hi - lo).toNat : Nat) : Int) - ((0 : Nat) : Int)) 1
    rw [e1, e2]
    exact Heap.get?_push_size _ rfl
  · have e : b = (s.heap.push { cls := .type "range", data := .fields #[.int lo t, .int hi u, .int 1 v] }).objs.size := by simpa using hb
    subst e
    exact I1.fpOk (Nat.le_refl _) (I1.hok.fresh (Nat.le_refl _))
def iRng1 (ta : TA) : TI := fun σ H R => ta σ H fun vs H1 => ∃ j : Int, vs = [.int j] ∧ -(2 ^ 62) ≤ j ∧ j < 2 ^ 62 ∧ R (Itr 0 j.toNat) H1
def iRng2 (ta : TA) : TI := fun σ H R => ta σ H fun vs H1 => ∃ i j : Int, vs = [.int i, .int j] ∧ (-(2 ^ 62) ≤ i ∧ i < 2 ^ 62 ∧ -(2 ^ 62) ≤ j ∧ j < 2 ^ 62) ∧ R (Itr i (j - i).toNat) H1
theorem pi_range1 {a : Expr} {ta : TA} {p pos : Pos} (hg : Gl X "range") (hm : X.mg "range" = none) (ha : PA X [a] ta) (hs : starEach [a] X.env = [(false, eval a X.env)] := by rfl) : PI X tg (.Call (.Name "range" p) [a] [] pos) (iRng1 ta) := by
  intro pins s σ H R I h
  refine Call_ (ld_blt I hg hm boot_range (PyProof.Rows.callWith_type1 (thn (ha pos pins s σ H _ I h) fun us s1 ⟨vs, H1, I1, r1, q1⟩ => ?_) hs rfl))
  obtain ⟨j, e, q1, q2, q⟩ := q1
  subst e
  cases r1 with
  | cons r rr =>
    cases rr
    obtain ⟨t, rfl⟩ := r
    exact call_range_1 (range_it I1 (by omega) (by omega) q1 q2 (by simpa using q))
def tFor (wi : TI) (g : TG) (tb : TS) : TS := fun D σ H => wi σ H fun J H1 => ∃ W : Nat → Nat → St → Hp → Prop, (∃ m, W 0 m σ H1) ∧ ∀ i m σ H, W i m σ H →
  (J.stop i H ∧ D.nx σ H) ∨ (J.go i H ∧ ∃ N : St → Hp → Prop, (∀ σ' H', N σ' H' → ∃ m', m' < m ∧ W (i + 1) m' σ' H') ∧ ∀ x H', J.yld i H x H' → g x σ H' fun σ2 H2 => tb { D with nx := N, ct := N, bk := D.nx } σ2 H2)
def pinsAt (fp : List Addr) (h : Heap) : List (Addr × Obj) := fp.filterMap fun b => (h.get? b).map fun o => (b, o)
theorem mem_pinsAt {fp : List Addr} {h : Heap} {b : Addr} {o : Obj} (hb : b ∈ fp) (e : h.get? b = some o) : (b, o) ∈ pinsAt fp h := List.mem_filterMap.mpr ⟨b, hb, by rw [e]; rfl⟩
theorem of_pinsAt {fp : List Addr} {h : Heap} {p : Addr × Obj} (hp : p ∈ pinsAt fp h) : p.1 ∈ fp ∧ h.get? p.1 = some p.2 := by
  obtain ⟨b, hb, e⟩ := List.mem_filterMap.mp hp
  cases q : h.get? b with
  | none => rw [q] at e; cases e
  | some o =>
    rw [q] at e
    have e' : (b, o) = p := Option.some.inj e
    subst e'
    exact ⟨hb, q⟩
theorem Inv.pinned {pins : List (Addr × Obj)} {σ : St} {H : Hp} {s : Shared} {fp : List Addr} (I : Inv X pins σ H s) (hf : ∀ b ∈ fp, FpOk X pins H b) (ho : ∀ b ∈ fp, ∃ o, s.heap.get? b = some o ∧ ∀ v, o.data ≠ .cell v) : Inv X (pins ++ pinsAt fp s.heap) σ H s :=
  I.pins_of fun p hp => (List.mem_append.mp hp).elim (fun z => I.pin p (List.mem_append_right _ z)) fun z => by
    obtain ⟨hb, e⟩ := of_pinsAt z
    obtain ⟨f0, f1, f2, _⟩ := hf p.1 hb
    obtain ⟨o, e', d⟩ := ho p.1 hb
    rw [e] at e'; cases e'
    exact ⟨e, f0, f1, f2, d⟩
theorem Inv.unpinned {pins pl : List (Addr × Obj)} {σ : St} {H : Hp} {s : Shared} (I : Inv X (pins ++ pl) σ H s) : Inv X pins σ H s := I.pins_of fun p hp => I.pin p (List.mem_append_right _ (List.mem_append_left _ hp))
theorem ps_for {iter : Expr} {body : List Stmt} {wi : TI} {g : TG} {tb : TS} {pos : Pos} (hp : PassesOwn (model X.prog X.w) X.A X.env X.xe) (hc : X.calm = true) (hi : PI X tg iter wi) (hg : PG X tg g) (hb : PSs X body tb)
    (hs : ∀ x, foldedSetIterable iter X.env x = pure x := by intro _; rfl) : PS X (.For tg iter body [] pos) (tFor wi g tb) := by
  intro pins s σ H D I h
  refine wpAny_For (thn (hi pins s σ H _ I h) fun v s1 h1 => thn h1 fun itv s2 h2 => ?_) hs
  obtain ⟨it, fp, tn, J, H2, e, I2, T, st2, f2, W, ⟨m0, w0⟩, turn⟩ := h2
  subst e
  have stat : ∀ {H' : Hp}, (∀ b ∈ fp, H' b = none) → ∀ b ∈ fp, FpOk X pins H' b := fun hn b hb => ⟨hn b hb, (f2 b hb).2⟩
  refine codeAny_forLoop_any (fun n s' => ∃ i σ' H', Inv X pins σ' H' s' ∧ tn i s'.heap ∧ (∀ b ∈ fp, H' b = none) ∧ W i n σ' H') ?_ m0 ⟨0, σ, H2, I2, st2, fun b hb => (f2 b hb).1, w0⟩
  rintro n s3 ⟨i, σ3, H3, I3, st3, fr3, w3⟩
  rcases turn i n σ3 H3 w3 with ⟨stop, qn⟩ | ⟨go, N, hN, step⟩
  · refine wpAny_passesOwn hp (thn (T.done X rfl rfl rfl hc i pins s3 σ3 H3 X.xe I3 (stat fr3) st3 stop) fun r s4 ⟨hr, I4⟩ => ?_)
    subst hr
    exact wpAny_execs_nil ⟨σ3, H3, I4, qn⟩
  · refine wpAny_passesOwn hp (thn (T.item X rfl rfl rfl hc i pins s3 σ3 H3 X.xe I3 (stat fr3) st3 go) fun r s4 ⟨u, hr, h4⟩ => ?_)
    subst hr
    refine wpAny_passesOwn hp (thn h4 fun _ s5 ⟨x, H5, I5, r5, y5, st5, fr5⟩ => ?_)
    have I5' := I5.pinned (stat fr5) (T.obj _ _ st5)
    refine wpAny_passesOwn hp (thn (hg _ s5 σ3 H5 x u _ I5' r5 (step x H5 y5)) fun _ s6 ⟨σ6, H6, I6, q6⟩ => ?_)
    refine wpAny_passesOwn hp (thn (hb _ s6 σ6 H6 _ I6 q6) fun f s7 q7 => ?_)
    have again : ∀ {σ7 : St} {H7 : Hp}, Inv X (pins ++ pinsAt fp s5.heap) σ7 H7 s7 → N σ7 H7 → ∃ m, m < n ∧ ∃ i σ' H', Inv X pins σ' H' s7 ∧ tn i s7.heap ∧ (∀ b ∈ fp, H' b = none) ∧ W i m σ' H' := fun {σ7 H7} I7 n7 => by
      obtain ⟨m', hm, w7⟩ := hN σ7 H7 n7
      refine ⟨m', hm, i + 1, σ7, H7, I7.unpinned, T.keep _ _ _ st5 fun b hb o e => (I7.pin (b, o) (List.mem_append_right _ (List.mem_append_right _ (mem_pinsAt hb e)))).1, fun b hb => ?_, w7⟩
      obtain ⟨o, e, d⟩ := T.obj _ _ st5 b hb
      exact (I7.pin (b, o) (List.mem_append_right _ (List.mem_append_right _ (mem_pinsAt hb e)))).2.1
    cases f with
    | next => obtain ⟨σ7, H7, I7, n7⟩ := q7; exact again I7 n7
    | cont => obtain ⟨σ7, H7, I7, n7⟩ := q7; exact again I7 n7
    | brk => obtain ⟨σ7, H7, I7, q7⟩ := q7; exact ⟨σ7, H7, I7.unpinned, q7⟩
    | ret v => obtain ⟨x7, σ7, H7, I7, r7, q7⟩ := q7; exact ⟨x7, σ7, H7, I7.unpinned, r7, q7⟩
end
end L2
namespace L2
open PySem PySem.Spec PyProof.Rows
abbrev R2 := V → V → Hp → VK → Prop
def OpR (X : Cx) (f : Value → Value → Sem Value) (r : R2) : Prop :=
  ∀ (pins : List (Addr × Obj)) (s : Shared) (σ : St) (H : Hp) (x y : V) (v u : Value) (Q : VK), Inv X pins σ H s → RelV x v → RelV y u → r x y H Q →
    wpAny (model X.prog X.w) X.A (f v u) (EP X pins σ Q) X.xe s
def UnR (X : Cx) (f : Value → Sem Value) (r : V → Hp → VK → Prop) : Prop :=
  ∀ (pins : List (Addr × Obj)) (s : Shared) (σ : St) (H : Hp) (x : V) (v : Value) (Q : VK), Inv X pins σ H s → RelV x v → r x H Q →
    wpAny (model X.prog X.w) X.A (f v) (EP X pins σ Q) X.xe s
def CallR (X : Cx) (f : Value) (r : List V → Hp → VK → Prop) : Prop :=
  ∀ (pins : List (Addr × Obj)) (s : Shared) (σ : St) (H : Hp) (xs : List V) (us : List Value) (Q : VK), Inv X pins σ H s → Vals xs us → r xs H Q →
    wpAny (model X.prog X.w) X.A (call f us) (EP X pins σ Q) X.xe s
def TruR (X : Cx) (r : V → Hp → (Bool → Hp → Prop) → Prop) : Prop :=
  ∀ (pins : List (Addr × Obj)) (s : Shared) (σ : St) (H : Hp) (x : V) (v : Value) (Q : Bool → Hp → Prop), Inv X pins σ H s → RelV x v → r x H Q →
    wpAny (model X.prog X.w) X.A (truthy v) (TP X pins σ Q) X.xe s
def tOp (r : R2) (ta tb : TE) : TE := fun σ H Q => ta σ H fun x H1 => tb σ H1 fun y H2 => r x y H2 Q
def tUn (r : V → Hp → VK → Prop) (ta : TE) : TE := fun σ H Q => ta σ H fun x H1 => r x H1 Q
def rI (C : Int → Int → Prop) (g : Int → Int → V) : R2 := fun x y H Q => ∃ i j, x = .int i ∧ y = .int j ∧ C i j ∧ Q (g i j) H
def rI0 (g : Int → Int → V) : R2 := fun x y H Q => ∃ i j, x = .int i ∧ y = .int j ∧ Q (g i j) H
def rU (g : Int → V) : V → Hp → VK → Prop := fun x H Q => ∃ i, x = .int i ∧ Q (g i) H
section
variable {X : Cx} {a b c : Expr} {ta tb tc : TE} {pos : Pos}
theorem binT (ha : PE X a ta) (hb : PE X b tb) {pins : List (Addr × Obj)} {s : Shared} {σ : St} {H : Hp} {R : V → V → Hp → Prop} (I : Inv X pins σ H s)
    (h : ta σ H fun x H1 => tb σ H1 fun y H2 => R x y H2) {Q : Value → Shared → Prop} {f : Value → Value → Sem Value}
    (hf : ∀ v u s2 x y H2, Inv X pins σ H2 s2 → RelV x v → RelV y u → R x y H2 → wpAny (model X.prog X.w) X.A (f v u) Q X.xe s2) :
    wpAny (model X.prog X.w) X.A (eval a X.env) (fun v s₁ => wpAny (model X.prog X.w) X.A (eval b X.env) (fun u s₂ => wpAny (model X.prog X.w) X.A (f v u) Q X.xe s₂) X.xe s₁) X.xe s := by
  refine thn (ha pins s σ H _ I h) fun v s1 ⟨x, H1, I1, r1, q1⟩ => ?_
  refine thn (hb pins s1 σ H1 _ I1 q1) fun u s2 ⟨y, H2, I2, r2, q2⟩ => ?_
  exact hf v u s2 x y H2 I2 r1 r2 q2
theorem pe_op {op : Operator} {r : R2} (ho : OpR X (binaryOp op) r) (ha : PE X a ta) (hb : PE X b tb) : PE X (.BinOp a op b pos) (tOp r ta tb) := by
  intro pins s σ H Q I h
  exact wpAny_BinOp (binT ha hb I h fun v u s2 x y H2 I2 rx ry q => ho pins s2 σ H2 x y v u Q I2 rx ry q)
theorem pe_un {op : UnaryOp} {r : V → Hp → VK → Prop} (ho : UnR X (unaryOp op) r) (ha : PE X a ta) : PE X (.UnaryOp op a pos) (tUn r ta) := by
  intro pins s σ H Q I h
  exact UnaryOp_ (thn (ha pins s σ H _ I h) fun v s1 ⟨x, H1, I1, r1, q1⟩ => ho pins s1 σ H1 x v Q I1 r1 q1)
theorem opI {f : Value → Value → Sem Value} {C : Int → Int → Prop} {g : Int → Int → Int}
    (rule : ∀ (i j : Int) (t u : Tok) (s : Shared) (Q : Value → Shared → Prop) (E : Value → Shared → Prop), C i j → Q (.int (g i j) s.toks) { s with toks := s.toks + 1 } → wpAny (model X.prog X.w) X.A (f (.int i t) (.int j u)) Q E s) :
    OpR X f (rI C fun i j => .int (g i j)) := by
  intro pins s σ H x y v u Q I rx ry h
  obtain ⟨i, j, rfl, rfl, hc, q⟩ := h
  obtain ⟨t, rfl⟩ := rx
  obtain ⟨t', rfl⟩ := ry
  exact rule i j t t' s _ _ hc ⟨.int (g i j), H, I.tok _, ⟨_, rfl⟩, q⟩
theorem opI0 {f : Value → Value → Sem Value} {g : Int → Int → Int}
    (rule : ∀ (i j : Int) (t u : Tok) (s : Shared) (Q : Value → Shared → Prop) (E : Value → Shared → Prop), Q (.int (g i j) s.toks) { s with toks := s.toks + 1 } → wpAny (model X.prog X.w) X.A (f (.int i t) (.int j u)) Q E s) :
    OpR X f (rI0 fun i j => .int (g i j)) := by
  intro pins s σ H x y v u Q I rx ry h
  obtain ⟨i, j, rfl, rfl, q⟩ := h
  obtain ⟨t, rfl⟩ := rx
  obtain ⟨t', rfl⟩ := ry
  exact rule i j t t' s _ _ ⟨.int (g i j), H, I.tok _, ⟨_, rfl⟩, q⟩
theorem opB0 {f : Value → Value → Sem Value} {g : Int → Int → Bool}
    (rule : ∀ (i j : Int) (t u : Tok) (s : Shared) (Q : Value → Shared → Prop) (E : Value → Shared → Prop), Q (.bool (g i j)) s → wpAny (model X.prog X.w) X.A (f (.int i t) (.int j u)) Q E s) :
    OpR X f (rI0 fun i j => .bl (g i j)) := by
  intro pins s σ H x y v u Q I rx ry h
  obtain ⟨i, j, rfl, rfl, q⟩ := h
  obtain ⟨t, rfl⟩ := rx
  obtain ⟨t', rfl⟩ := ry
  exact rule i j t t' s _ _ ⟨.bl (g i j), H, I, rfl, q⟩
def CDiv (i j : Int) : Prop := 0 < j ∧ j < 1073741824
def CDivN (i j : Int) : Prop := j ≠ 0 ∧ j.natAbs < 1073741824
def CPow (i j : Int) : Prop := 0 ≤ j ∧ j ≤ 1000000 ∧ i.natAbs < 2 ^ 64
def CMul (i j : Int) : Prop := (-(2 ^ 64) < i ∧ i < 2 ^ 64) ∨ (-(2 ^ 64) < j ∧ j < 2 ^ 64)
theorem op_add : OpR X (binaryOp .Add) (rI0 fun i j => .int (i + j)) := opI0 fun _ _ _ _ _ _ _ q => add_int q
theorem op_sub : OpR X (binaryOp .Sub) (rI0 fun i j => .int (i - j)) := opI0 fun _ _ _ _ _ _ _ q => sub_int q
theorem op_fdiv : OpR X (binaryOp .FloorDiv) (rI CDiv fun i j => .int (i / j)) := opI fun i j _ _ _ _ _ hc q => by
  have h1 : (0 : Int) < j := hc.1
  have h2 : j < 1073741824 := hc.2
  exact floordiv_int (by omega) (by rw [Int.fdiv_eq_ediv_of_nonneg i (by omega)]; exact q) (.inl (PyProof.noPylong_small (by omega)))
theorem op_mod : OpR X (binaryOp .Mod) (rI (fun _ j => 0 < j) fun i j => .int (i % j)) := opI fun i j _ _ _ _ _ hc q => by
  have h1 : (0 : Int) < j := hc
  exact mod_int' (by omega) (by rw [Int.fmod_eq_emod_of_nonneg i (by omega)]; exact q)
theorem unI {f : Value → Sem Value} {g : Int → Int}
    (rule : ∀ (i : Int) (t : Tok) (s : Shared) (Q : Value → Shared → Prop) (E : Value → Shared → Prop), Q (.int (g i) s.toks) { s with toks := s.toks + 1 } → wpAny (model X.prog X.w) X.A (f (.int i t)) Q E s) :
    UnR X f (rU fun i => .int (g i)) := by
  intro pins s σ H x v Q I rx h
  obtain ⟨i, rfl, q⟩ := h
  obtain ⟨t, rfl⟩ := rx
  exact rule i t s _ _ ⟨.int (g i), H, I.tok _, ⟨_, rfl⟩, q⟩
theorem un_neg : UnR X (unaryOp .USub) (rU fun i => .int (-i)) := unI fun _ _ _ _ _ q => neg_int q
end
def scal : V → V → Bool
  | .non, .non => true | .non, .int _ => true | .int _, .non => true | .non, .bl _ => true | .bl _, .non => true | .non, .str _ => true | .str _, .non => true
  | .int _, .int _ => true | .bl _, .bl _ => true | .str _, .str _ => true | .byt _, .byt _ => true
  | .int _, .str _ => true | .str _, .int _ => true | .bl _, .str _ => true | .str _, .bl _ => true
  | _, _ => false
def rEq : R2 := fun x y H Q => scal x y = true ∧ Q (.bl (decide (x = y))) H
def rNe : R2 := fun x y H Q => scal x y = true ∧ Q (.bl (!decide (x = y))) H
theorem dec_int {i j : Int} : decide (V.int i = V.int j) = (i == j) := by
  rw [Bool.eq_iff_iff]
  simp
theorem dec_bl {i j : Bool} : decide (V.bl i = V.bl j) = (i == j) := by
  rw [Bool.eq_iff_iff]
  simp
theorem dec_str {i j : Str} : decide (V.str i = V.str j) = (i == j) := by
  rw [Bool.eq_iff_iff]
  simp
theorem dec_byt {i j : Array UInt8} : decide (V.byt i = V.byt j) = (i.toList == j.toList) := by
  rw [Bool.eq_iff_iff]
  cases i
  cases j
  simp
section
variable {X : Cx} {a b c : Expr} {ta tb tc : TE} {pos : Pos}
theorem fin_bl {pins : List (Addr × Obj)} {σ : St} {H : Hp} {s : Shared} {Q : VK} {k k' : Bool} (I : Inv X pins σ H s) (q : Q (.bl k) H) (e : k = k') : EP X pins σ Q (.bool k') s := by
  subst e
  exact ⟨.bl k, H, I, rfl, q⟩
theorem op_eq : OpR X (compareOp .Eq) rEq := by
  intro pins s σ H x y v u Q I rx ry h
  obtain ⟨hs, q⟩ := h
  cases x with
  | non =>
    cases rx
    cases y with
    | non => cases ry; exact PySem.EqNone.eq_none_none (fin_bl I q (by simp))
    | bl j => cases ry; exact PySem.EqNone.eq_none_bool (fin_bl I q (by simp))
    | int j => obtain ⟨t', rfl⟩ := ry; exact PySem.EqNone.eq_none_int (fin_bl I q (by simp))
    | str j => obtain ⟨t', rfl⟩ := ry; exact PySem.EqNone.eq_none_str (fin_bl I q (by simp))
    | _ => exact absurd (show false = true from hs) Bool.false_ne_true
  | bl i =>
    cases rx
    cases y with
    | non => cases ry; exact PySem.EqNone.eq_bool_none (fin_bl I q (by simp))
    | bl j => cases ry; exact eq_bool (fin_bl I q dec_bl)
    | str j => obtain ⟨t', rfl⟩ := ry; exact PySem.EqMixed.eq_bool_str (fin_bl I q (by simp))
    | _ => exact absurd (show false = true from hs) Bool.false_ne_true
  | int i =>
    obtain ⟨t, rfl⟩ := rx
    cases y with
    | non => cases ry; exact PySem.EqNone.eq_int_none (fin_bl I q (by simp))
    | int j => obtain ⟨t', rfl⟩ := ry; exact eq_int (fin_bl I q dec_int)
    | str j => obtain ⟨t', rfl⟩ := ry; exact PySem.EqMixed.eq_int_str (fin_bl I q (by simp))
    | _ => exact absurd (show false = true from hs) Bool.false_ne_true
  | str i =>
    obtain ⟨t, rfl⟩ := rx
    cases y with
    | non => cases ry; exact PySem.EqNone.eq_str_none (fin_bl I q (by simp))
    | bl j => cases ry; exact PySem.EqMixed.eq_str_bool (fin_bl I q (by simp))
    | int j => obtain ⟨t', rfl⟩ := ry; exact PySem.EqMixed.eq_str_int (fin_bl I q (by simp))
    | str j => obtain ⟨t', rfl⟩ := ry; exact eq_str (fin_bl I q dec_str)
    | _ => exact absurd (show false = true from hs) Bool.false_ne_true
  | byt i =>
    obtain ⟨t, rfl⟩ := rx
    cases y with
    | byt j => obtain ⟨t', rfl⟩ := ry; exact PySem.W.eq_bytes (fin_bl I q dec_byt)
    | _ => exact absurd (show false = true from hs) Bool.false_ne_true
  | _ => cases y <;> exact absurd (show false = true from hs) Bool.false_ne_true
theorem op_ne : OpR X (compareOp .NotEq) rNe := by
  intro pins s σ H x y v u Q I rx ry h
  obtain ⟨hs, q⟩ := h
  cases x with
  | non =>
    cases rx
    cases y with
    | non => cases ry; exact PySem.EqNone.ne_none_none (fin_bl I q (by simp))
    | bl j => cases ry; exact PySem.EqNone.ne_none_bool (fin_bl I q (by simp))
    | int j => obtain ⟨t', rfl⟩ := ry; exact PySem.EqNone.ne_none_int (fin_bl I q (by simp))
    | str j => obtain ⟨t', rfl⟩ := ry; exact PySem.EqNone.ne_none_str (fin_bl I q (by simp))
    | _ => exact absurd (show false = true from hs) Bool.false_ne_true
  | bl i =>
    cases rx
    cases y with
    | non => cases ry; exact PySem.EqNone.ne_bool_none (fin_bl I q (by simp))
    | bl j => cases ry; exact ne_bool (fin_bl I q (congrArg not dec_bl))
    | str j => obtain ⟨t', rfl⟩ := ry; exact PySem.EqMixed.ne_bool_str (fin_bl I q (by simp))
    | _ => exact absurd (show false = true from hs) Bool.false_ne_true
  | int i =>
    obtain ⟨t, rfl⟩ := rx
    cases y with
    | non => cases ry; exact PySem.EqNone.ne_int_none (fin_bl I q (by simp))
    | int j => obtain ⟨t', rfl⟩ := ry; exact ne_int (fin_bl I q (congrArg not dec_int))
    | str j => obtain ⟨t', rfl⟩ := ry; exact PySem.EqMixed.ne_int_str (fin_bl I q (by simp))
    | _ => exact absurd (show false = true from hs) Bool.false_ne_true
  | str i =>
    obtain ⟨t, rfl⟩ := rx
    cases y with
    | non => cases ry; exact PySem.EqNone.ne_str_none (fin_bl I q (by simp))
    | bl j => cases ry; exact PySem.EqMixed.ne_str_bool (fin_bl I q (by simp))
    | int j => obtain ⟨t', rfl⟩ := ry; exact PySem.EqMixed.ne_str_int (fin_bl I q (by simp))
    | str j => obtain ⟨t', rfl⟩ := ry; exact ne_str (fin_bl I q (congrArg not dec_str))
    | _ => exact absurd (show false = true from hs) Bool.false_ne_true
  | byt i =>
    obtain ⟨t, rfl⟩ := rx
    cases y with
    | byt j => obtain ⟨t', rfl⟩ := ry; exact PySem.W.ne_bytes (fin_bl I q (congrArg not dec_byt))
    | _ => exact absurd (show false = true from hs) Bool.false_ne_true
  | _ => cases y <;> exact absurd (show false = true from hs) Bool.false_ne_true
theorem op_lt : OpR X (compareOp .Lt) (rI0 fun i j => .bl (decide (i < j))) := opB0 fun _ _ _ _ _ _ _ q => lt_int q
theorem op_le : OpR X (compareOp .LtE) (rI0 fun i j => .bl (decide (i ≤ j))) := opB0 fun _ _ _ _ _ _ _ q => le_int q
theorem op_gt : OpR X (compareOp .Gt) (rI0 fun i j => .bl (decide (j < i))) := opB0 fun _ _ _ _ _ _ _ q => gt_int q
theorem op_isN : OpR X (compareOp .Is) (fun x y H Q => y = .non ∧ Q (.bl (decide (x = .non))) H) := by
  intro pins s σ H x y v u Q I rx ry h
  obtain ⟨rfl, q⟩ := h
  cases ry
  refine is_none_gen (fin_bl I q ?_)
  cases x <;> first
    | (cases rx; rfl)
    | (obtain ⟨t, rfl⟩ := rx; rfl)
theorem op_notN : OpR X (compareOp .IsNot) (fun x y H Q => y = .non ∧ Q (.bl (!decide (x = .non))) H) := by
  intro pins s σ H x y v u Q I rx ry h
  obtain ⟨rfl, q⟩ := h
  cases ry
  refine isnot_none_gen (fin_bl I q ?_)
  cases x <;> first
    | (cases rx; rfl)
    | (obtain ⟨t, rfl⟩ := rx; rfl)
def isObj : HO → Bool
  | .lst _ => true
  | .ins _ _ _ => true
  | _ => false
theorem nomark (b : Expr) {op : CmpOp} (h : op ≠ .In := by decide) (h2 : op ≠ .NotIn := by decide) : behindInMarks op b = false := by
  have e1 : (op == CmpOp.In) = false := by cases op <;> first | rfl | exact absurd rfl h
  have e2 : (op == CmpOp.NotIn) = false := by cases op <;> first | rfl | exact absurd rfl h2
  cases b <;> simp [behindInMarks, e1, e2]
theorem pe_cmpR {op : CmpOp} {r : R2} (ho : OpR X (compareOp op) r) (ha : PE X a ta) (hb : PE X b tb) (hm : behindInMarks op b = false) : PE X (.Compare a [op] [b] pos) (tOp r ta tb) := by
  intro pins s σ H Q I h
  exact wpAny_Compare1 (binT ha hb I h fun v u s2 x y H2 I2 rx ry q => ho pins s2 σ H2 x y v u Q I2 rx ry q) hm
def tTest (t : TE) : TT := fun σ H Q => t σ H fun x H' => ∃ k, x = .bl k ∧ Q k H'
theorem pt_cmpR {op : CmpOp} {r : R2} (ho : OpR X (compareOp op) r) (ha : PE X a ta) (hb : PE X b tb) (hm : behindInMarks op b = false) : PT X (.Compare a [op] [b] pos) (tTest (tOp r ta tb)) := by
  intro pins s σ H Q I h
  refine wpAny_isTrue_Compare1 (thn (ha pins s σ H _ I h) fun v s1 ⟨x, H1, I1, r1, q1⟩ => thn (hb pins s1 σ H1 _ I1 q1) fun u s2 ⟨y, H2, I2, r2, q2⟩ =>
    thn (ho pins s2 σ H2 x y v u _ I2 r1 r2 q2) fun c s3 ⟨z, H3, I3, r3, k, e, q3⟩ => ?_) hm
  subst e
  cases r3
  exact wpAny_truthy_bool ⟨H3, I3, q3⟩
def tChain (r r' : R2) (ta tb tc : TE) : TE := fun σ H Q => ta σ H fun x H1 => tb σ H1 fun y H2 => r x y H2 fun z H3 => ∃ k, z = .bl k ∧
  (if k = true then tc σ H3 fun w' H4 => r' y w' H4 Q else Q (.bl false) H3)
theorem pe_chain {op op' : CmpOp} {r r' : R2} (ho : OpR X (compareOp op) r) (ho' : OpR X (compareOp op') r') (ha : PE X a ta) (hb : PE X b tb) (hc : PE X c tc)
    (hm : lastMarks [op, op'] [b, c] = false := by with_unfolding_all rfl) : PE X (.Compare a [op, op'] [b, c] pos) (tChain r r' ta tb tc) := by
  intro pins s σ H Q I h
  refine Compare_chain (thn (ha pins s σ H _ I h) fun v s1 ⟨x, H1, I1, r1, q1⟩ => chain_link (thn (hb pins s1 σ H1 _ I1 q1) fun u s2 ⟨y, H2, I2, r2, q2⟩ =>
    thn (ho pins s2 σ H2 x y v u _ I2 r1 r2 q2) fun d s3 ⟨z, H3, I3, r3, k, e, q3⟩ => ?_)) hm
  subst e
  cases r3
  refine wpAny_truthy_bool ?_
  cases k with
  | false => exact ite_ff ⟨.bl false, H3, I3, rfl, q3⟩
  | true => exact ite_tt (chain_last (thn (hc pins s3 σ H3 _ I3 q3) fun w' s4 ⟨z', H4, I4, r4, q4⟩ => ho' pins s4 σ H4 y z' u w' Q I4 r2 r4 q4))
theorem pt_chain {op op' : CmpOp} {r r' : R2} (ho : OpR X (compareOp op) r) (ho' : OpR X (compareOp op') r') (ha : PE X a ta) (hb : PE X b tb) (hc : PE X c tc)
    (hm : lastMarks [op, op'] [b, c] = false := by with_unfolding_all rfl) : PT X (.Compare a [op, op'] [b, c] pos) (tTest (tChain r r' ta tb tc)) := by
  intro pins s σ H Q I h
  refine isTrue_chain (thn (ha pins s σ H _ I h) fun v s1 ⟨x, H1, I1, r1, q1⟩ => test_link (thn (hb pins s1 σ H1 _ I1 q1) fun u s2 ⟨y, H2, I2, r2, q2⟩ =>
    thn (ho pins s2 σ H2 x y v u _ I2 r1 r2 q2) fun d s3 ⟨z, H3, I3, r3, k, e, q3⟩ => ?_)) hm
  subst e
  cases r3
  refine wpAny_truthy_bool ?_
  cases k with
  | false =>
    obtain ⟨k', e', q'⟩ := q3
    cases e'
    exact ite_ff ⟨H3, I3, q'⟩
  | true =>
    refine ite_tt (test_last (thn (hc pins s3 σ H3 _ I3 q3) fun w' s4 ⟨z', H4, I4, r4, q4⟩ => thn (ho' pins s4 σ H4 y z' u w' _ I4 r2 r4 q4) fun d' s5 ⟨z2, H5, I5, r5, k2, e2, q5⟩ => ?_))
    subst e2
    cases r5
    exact wpAny_truthy_bool ⟨H5, I5, q5⟩
def TruV (K : PySem.W.Frag) (x : V) (H : Hp) (k : Bool) : Prop :=
  match x with
  | .non => k = false
  | .bl b => k = b
  | .int i => k = (i != 0)
  | .str y => y.length ≤ sizeLine ∧ k = ((y.length : Int) != 0)
  | .byt y => y.size ≤ sizeLine ∧ k = ((y.size : Int) != 0)
  | .ref p => (∃ xs, SqL K H p xs ∧ k = !xs.isEmpty) ∨ (∃ xs, SqT K H p xs ∧ k = !xs.isEmpty) ∨ ∃ kvs, H p = some (.dK kvs) ∧ k = !kvs.isEmpty
  | _ => False
theorem line63 : (sizeLine : Nat) < 2 ^ 63 := by rw [sizeLine_eq]; decide
def PlainIxT (b : Expr) : Prop := ∀ o i, subscripted b false o i = operate [o, i] (getItem o i)
theorem vals1 {x : V} {us : List Value} (r : Vals [x] us) : ∃ u, us = [u] ∧ RelV x u := by
  cases r with
  | cons r1 r2 => cases r2; exact ⟨_, rfl, r1⟩
theorem vals2 {x y : V} {us : List Value} (r : Vals [x, y] us) : ∃ u w', us = [u, w'] ∧ RelV x u ∧ RelV y w' := by
  cases r with
  | cons r1 r2 =>
    cases r2 with
    | cons r3 r4 => cases r4; exact ⟨_, _, rfl, r1, r3⟩
theorem call_min2 (hc : X.calm = true) : CallR X (.builtin "min") (fun xs H Q => ∃ i j, xs = [.int i, .int j] ∧ Q (.int (if j < i then j else i)) H) := by
  intro pins s σ H xs us Q I r h
  obtain ⟨i, j, rfl, q⟩ := h
  obtain ⟨u, w', rfl, ⟨t, rfl⟩, ⟨t', rfl⟩⟩ := vals2 r
  refine min_two_ints (I.ok.hd hc) fun h' tk k => ⟨_, H, I.kept k, ?_, q⟩
  by_cases hj : j < i
  · rw [if_pos hj, if_pos hj]; exact ⟨_, rfl⟩
  · rw [if_neg hj, if_neg hj]; exact ⟨_, rfl⟩
def LenV (K : PySem.W.Frag) (x : V) (H : Hp) (n : Nat) : Prop :=
  match x with
  | .str y => y.length ≤ sizeLine ∧ n = y.length
  | .byt y => y.size ≤ sizeLine ∧ n = y.size
  | .ref p => (∃ xs, SqL K H p xs ∧ n = xs.length) ∨ ∃ xs, SqT K H p xs ∧ n = xs.length
  | _ => False
theorem call_len : CallR X (.builtin "len") (fun xs H Q => ∃ x n, xs = [x] ∧ LenV X.K x H n ∧ Q (.int n) H) := by
  intro pins s σ H xs us Q I r h
  obtain ⟨x, n, rfl, e, q⟩ := h
  obtain ⟨u, rfl, rx⟩ := vals1 r
  have hl := line63
  have hs : sizeLine = 16777216 := sizeLine_eq
  cases x with
  | str y =>
    obtain ⟨t, rfl⟩ := rx
    obtain ⟨hy, e'⟩ : y.length ≤ sizeLine ∧ n = y.length := e
    subst e'
    exact len_str (by omega) ⟨.int _, H, I.tok _, ⟨_, rfl⟩, q⟩
  | byt y =>
    obtain ⟨t, rfl⟩ := rx
    obtain ⟨hy, e'⟩ : y.size ≤ sizeLine ∧ n = y.size := e
    subst e'
    exact PySem.W.len_bytes (by omega) ⟨.int _, H, I.tok _, ⟨_, rfl⟩, q⟩
  | ref p =>
    cases rx
    have e' : (∃ xs, SqL X.K H p xs ∧ n = xs.length) ∨ ∃ xs, SqT X.K H p xs ∧ n = xs.length := e
    rcases e' with ⟨xs, hx, e'⟩ | ⟨xs, hx, e'⟩
    · subst e'
      obtain ⟨its, r', pl, hz⟩ := I.list hx
      have hlen := r'.length
      exact Calls.call_len_list pl.isList (by simp only [List.size_toArray]; omega) ⟨.int xs.length, H, I.tok _, ⟨_, by simp only [List.size_toArray]; rw [hlen]⟩, q⟩
    · subst e'
      obtain ⟨its, r', pl, hz⟩ := I.tuple hx
      have hlen := r'.length
      exact len_tuple pl (by simp only [List.size_toArray]; omega) ⟨.int xs.length, H, I.tok _, ⟨_, by simp only [List.size_toArray]; rw [hlen]⟩, q⟩
  | _ => exact (show False from e).elim
end
end L2
namespace L2
open PySem PySem.Spec PyProof.Rows
structure ObjM (h : Heap) (x dx C : Addr) (mA : Str → Option Value) : Prop where
  obj : h.get? x = some (PySem.W.instObj C dx)
  ns : h.Ns1 dx mA
  ne : dx ≠ x
theorem lookIn_ns {h : Heap} {dx : Addr} {mA : Str → Option Value} (n : h.Ns1 dx mA) : ∃ od, h.get? dx = some od ∧ ∀ name, PySem.W.lookIn name od = some (mA name) := by
  obtain ⟨o, es, ep, ho, hd, hk, _, hm⟩ := n
  refine ⟨o, ho, fun name => ?_⟩
  have e := hm name
  unfold nsFind findBy at e
  rw [← Array.find?_toList] at e
  unfold PySem.W.lookIn
  rw [hd]
  dsimp only
  split
  · rename_i y q
    rw [q] at e
    exact congrArg some e
  · rename_i q
    rw [q] at e
    have a : es.toList.any (·.refKey) = false := by
      rw [List.any_eq_false]
      intro y hy
      obtain ⟨z, t, hkey⟩ := hk y (Array.mem_toList_iff.mp hy)
      simp [DictEntry.refKey, hkey]
    have a' : ¬ es.toList.any (·.refKey) = true := by rw [a]; exact Bool.false_ne_true
    rw [if_neg a']
    exact congrArg some e
theorem ObjM.look {h : Heap} {x dx C : Addr} {mA : Str → Option Value} (I : ObjM h x dx C mA) : ∃ od, PySem.W.InstAt h x (PySem.W.instObj C dx) C (some od) ∧ ∀ name, PySem.W.lookIn name od = some (mA name) :=
  let ⟨od, ho, hl⟩ := lookIn_ns I.ns
  ⟨od, ⟨I.obj, rfl, rfl, ho⟩, hl⟩
section
variable {prog : Program} {w : World} {A : Around} {E : Value → Shared → Prop} {s : Shared} {K : PySem.W.Frag} {x dx C f : Addr} {mA : Str → Option Value} {name : Str} {v : Value}
theorem get_map {expr : Bool} {Q : Value → Shared → Prop} (X : K.In s.heap) (I : ObjM s.heap x dx C mA) (hg : PySem.W.plainGet K C name = true) (hh : PySem.W.hasDictIn K C = true)
    (ha : PySem.W.findIn K (.ref C) name = some none) (hv : mA name = some v) (hv' : PySem.W.handedIn v = true) (h : Q v { s with toks := s.toks + 1 }) :
    wpAny (model prog w) A (getAttr (.ref x) name expr) Q E s := by
  obtain ⟨od, J, hl⟩ := I.look
  exact PySem.W.get_value X J (PySem.W.plainGet_of hg).1 (PySem.W.findObj_own hh ha rfl (by rw [hl, hv])) hv' h
theorem get_meth {pl : Sem Bool} {Q : Value × List Value → Shared → Prop} (X : K.In s.heap) (I : ObjM s.heap x dx C mA) (hg : PySem.W.plainGet K C name = true)
    (hf : PySem.W.findIn K (.ref C) name = some (some (.ref f))) (ht : PySem.W.isFn K (.ref f) = true) (hv : mA name = none) (h : Q (.ref f, [.ref x]) s) :
    wpAny (model prog w) A (getMethod (.ref x) name pl) Q E s := by
  obtain ⟨od, J, hl⟩ := I.look
  exact PySem.W.method_fn X J (PySem.W.plainGet_of hg).1 (PySem.W.plainGet_of hg).2 hf (beq_iff_eq.mp ht) (by show (PySem.W.lookIn name od).map (·.isSome) = some false; rw [hl, hv]; rfl) h
theorem set_map {ns : List Str} {Q : Unit → Shared → Prop} (X : K.In s.heap) (I : ObjM s.heap x dx C mA)
    (hs : PySem.W.findIn K (.ref C) "__setattr__" = some (some (.builtin "object.__setattr__"))) (hp : PySem.W.plainOver K C = true) (ht : PySem.W.takerIn K C name = some none) (hh : PySem.W.hasDictIn K C = true)
    (hw : PySem.Within mA ns) (hsz : ns.length ≤ sizeLine)
    (h : ∀ h', ObjM h' x dx C (fun y => if y = name then some v else mA y) → Heap.SameBut dx s.heap h' → Q () { s with heap := h', toks := s.toks + 2 }) :
    wpAny (model prog w) A (setAttr (.ref x) name v) Q E s := by
  obtain ⟨od, J, hl⟩ := I.look
  refine PySem.W.set_plain X J hs (PySem.W.osa_open (s := { s with toks := s.toks + 1 }) (r := none) X J hp ht fun b => ?_)
  obtain ⟨cd, hc, hd'⟩ := PySem.W.any_some hh
  have hx : s.heap.get? x = some ⟨.ref C, some dx, .plain, #[]⟩ := I.obj
  refine wpAny_bind (wpAny_pure (wpAny_bind (wpAny_bind (wpAny_loadPart hx (wpAny_bind (PySem.W.Looks.here (s := { s with toks := s.toks + 1 }) (PySem.W.looks_clsIn X hc) ?_))))))
  rw [hd']
  refine wpAny_pure (a := some dx) (wpAny_bind (wpAny_pure (wpAny_bind ?_)))
  refine wpAny_nsSet1 (s := { s with toks := s.toks + 1 }) I.ns fun h' hn2 hs2 => ?_
  obtain ⟨oD, esD, epD, hoD, hdD, hcD⟩ := hn2.count (PySem.Within.cons name v hw)
  refine wpAny_bind (wpAny_lookBehind hoD (by rw [hdD]; exact pastItsLine_dict (Nat.le_trans hcD (by rw [List.length_cons]; omega))) ?_)
  exact wpAny_pure (h _ ⟨(hs2.2 _ (Ne.symm I.ne)).trans I.obj, hn2, I.ne⟩ hs2)
theorem make_map {R : Result → Shared → Prop} {vs : List Value} {kw : List (Str × Value)} (X : K.In s.heap) (hm : PySem.W.makesIn K C = true)
    (hi : PySem.W.findIn K (.ref C) "__init__" = some (some (.ref f))) (hf : PySem.W.typeIn K (.ref f) = some (.type "function"))
    (h : codeAny (model prog w) (A.under (.builtin "type.__call__" ⟨.ref C :: vs, kw⟩)) (.call (.ref f) ⟨.ref (s.heap.objs.size + 1) :: vs, kw⟩) (PySem.W.InitBack (s.heap.objs.size + 1) R)
      { s with heap := (s.heap.push PySem.W.emptyDict).push (PySem.W.instObj C s.heap.objs.size) }) :
    codeAny (model prog w) A (.call (.ref C) ⟨vs, kw⟩) R s := by
  obtain ⟨hh, g, d, t, os⟩ := s
  exact PySem.W.make_core (PySem.W.makes_of X hm) (PySem.W.looks_findIn X hi) (fun self => PySem.W.bind_fn X self hf) (.inl rfl) h
end
def putF (f : Str) (v : V) : List (Str × V) → List (Str × V)
  | [] => [(f, v)]
  | (g, x) :: r => if g = f then (g, v) :: r else (g, x) :: putF f v r
theorem lookup_putF (f g : Str) (v : V) : ∀ fs : List (Str × V), (putF f v fs).lookup g = if g = f then some v else fs.lookup g
  | [] => by
    show List.lookup g [(f, v)] = _
    by_cases h : g = f
    · have hb : (g == f) = true := beq_iff_eq.mpr h
      simp only [List.lookup, hb, if_pos h]
    · have hb : (g == f) = false := beq_eq_false_iff_ne.mpr h
      simp only [List.lookup, hb, if_neg h]
  | (k, x) :: r => by
    have ih := lookup_putF f g v r
    rw [show putF f v ((k, x) :: r) = (if k = f then (k, v) :: r else (k, x) :: putF f v r) from rfl]
    by_cases hk : k = f
    · rw [if_pos hk]
      by_cases h : g = k
      · have hb : (g == k) = true := beq_iff_eq.mpr h
        simp only [List.lookup, hb, if_pos (h.trans hk)]
      · have hb : (g == k) = false := beq_eq_false_iff_ne.mpr h
        simp only [List.lookup, hb, if_neg (fun e : g = f => h (e.trans hk.symm))]
    · rw [if_neg hk]
      by_cases h : g = k
      · have hb : (g == k) = true := beq_iff_eq.mpr h
        simp only [List.lookup, hb, if_neg (fun e : g = f => hk (h.symm.trans e))]
      · have hb : (g == k) = false := beq_eq_false_iff_ne.mpr h
        simp only [List.lookup, hb]
        exact ih
theorem keys_putF (f : Str) (v : V) : ∀ fs : List (Str × V), f ∈ (putF f v fs).map (·.1) ∧ ∀ g, g ∈ fs.map (·.1) → g ∈ (putF f v fs).map (·.1)
  | [] => ⟨by simp [putF], fun g h => by simp at h⟩
  | (k, x) :: r => by
    obtain ⟨i1, i2⟩ := keys_putF f v r
    rw [show putF f v ((k, x) :: r) = (if k = f then (k, v) :: r else (k, x) :: putF f v r) from rfl]
    by_cases hk : k = f
    · rw [if_pos hk]
      subst hk
      exact ⟨by simp, fun g h => by simpa using h⟩
    · rw [if_neg hk]
      refine ⟨?_, fun g h => ?_⟩
      · rw [List.map_cons]
        exact List.mem_cons_of_mem _ i1
      · rw [List.map_cons] at h ⊢
        rcases List.mem_cons.mp h with e | e
        · exact List.mem_cons.mpr (.inl e)
        · exact List.mem_cons_of_mem _ (i2 g e)
theorem length_putF (f : Str) (v : V) : ∀ fs : List (Str × V), (putF f v fs).length ≤ fs.length + 1
  | [] => by simp [putF]
  | (k, x) :: r => by
    have ih := length_putF f v r
    rw [show putF f v ((k, x) :: r) = (if k = f then (k, v) :: r else (k, x) :: putF f v r) from rfl]
    by_cases hk : k = f
    · rw [if_pos hk, List.length_cons, List.length_cons]; omega
    · rw [if_neg hk, List.length_cons, List.length_cons]; omega
theorem RelO.some_of {v : V} {o : Option Value} (r : RelO (some v) o) : ∃ u, o = some u ∧ RelV v u := by
  cases o with
  | none => exact (show False from r).elim
  | some u => exact ⟨u, rfl, r⟩
theorem RelO.none_of {o : Option Value} (r : RelO none o) : o = none := by
  cases o with
  | none => rfl
  | some u => exact (show False from r).elim
theorem handed_of {v : V} {u : Value} (r : RelV v u) : PySem.W.handedIn u = true := by
  cases v with
  | non => cases (show u = Value.none from r); rfl
  | bl b => cases (show u = Value.bool b from r); rfl
  | int i => obtain ⟨t, e⟩ := (show ∃ t, u = Value.int i t from r); cases e; rfl
  | str x => obtain ⟨t, e⟩ := (show ∃ t, u = Value.str x t from r); cases e; rfl
  | byt b => obtain ⟨t, e⟩ := (show ∃ t, u = Value.bytes b t from r); cases e; rfl
  | flt b => obtain ⟨t, e⟩ := (show ∃ t, u = Value.float b t from r); cases e; rfl
  | ref a => cases (show u = Value.ref a from r); rfl
  | ty n => cases (show u = Value.type n from r); rfl
section
variable {P : Program} {w : World} {H H' : Hp} {h h' : Heap} {a C dx : Addr} {fs fs' : List (Str × V)}
theorem ins_get (hok : HOk P w H h) (e : H a = some (.ins C dx fs)) : ∃ mA, ObjM h a dx C mA ∧ (∀ f, RelO (fs.lookup f) (mA f)) ∧ PySem.Within mA (fs.map (·.1)) ∧ fs.length ≤ 1000 ∧ H dx = some (.own a) := by
  obtain ⟨d, z, ne, ob, mA, n, r, q⟩ := (show ObjOk P w H h a (.ins C dx fs) from hok a _ e)
  exact ⟨mA, ⟨ob, n, ne⟩, r, q, z, d⟩
end
structure Cls (K : PySem.W.Frag) (C : Addr) : Prop where
  pg : PySem.W.plainGet K C Str.empty = true
  hd : PySem.W.hasDictIn K C = true
  po : PySem.W.plainOver K C = true
  sa : PySem.W.findIn K (.ref C) "__setattr__" = some (some (.builtin "object.__setattr__"))
theorem Cls.get {K : PySem.W.Frag} {C : Addr} (c : Cls K C) (f : Str) : PySem.W.plainGet K C f = true := c.pg
def NoAttr (K : PySem.W.Frag) (C : Addr) (f : Str) : Prop := PySem.W.findIn K (.ref C) f = some none
theorem NoAttr.taker {K : PySem.W.Frag} {C : Addr} {f : Str} (n : NoAttr K C f) : PySem.W.takerIn K C f = some none := by
  unfold PySem.W.takerIn
  rw [show PySem.W.findIn K (.ref C) f = some none from n]
  rfl
structure Con (K : PySem.W.Frag) (C : Addr) (f : Str) (v : V) (u : Value) : Prop where
  at_ : PySem.W.findIn K (.ref C) f = some (some u)
  rel : RelV v u
  get : PySem.W.specialIn K u "__get__" = some none
  cp : PySem.W.copiedNames.contains f = false
structure Meth (K : PySem.W.Frag) (C : Addr) (m : Str) (f : Addr) : Prop where
  at_ : PySem.W.findIn K (.ref C) m = some (some (.ref f))
  fn : PySem.W.isFn K (.ref f) = true
  kp : PySem.W.keepIn K (.ref f) = true
section
variable {X : Cx} {pins : List (Addr × Obj)} {σ : St} {H : Hp} {s : Shared} {a C dx : Addr} {fs : List (Str × V)} {f : Str} {v : V} {A : Around} {E : Value → Shared → Prop}
theorem getattr_ok {b : Bool} {Q : Value → Shared → Prop} (I : Inv X pins σ H s) (e : H a = some (.ins C dx fs)) (c : Cls X.K C) (n : NoAttr X.K C f) (l : fs.lookup f = some v)
    (h : ∀ u s', Inv X pins σ H s' → RelV v u → Q u s') : wpAny (model X.prog X.w) A (getAttr (.ref a) f b) Q E s := by
  obtain ⟨mA, O, r, _, _, _⟩ := ins_get I.hok e
  obtain ⟨u, hu, ru⟩ := RelO.some_of (v := v) (o := mA f) (by rw [← l]; exact r f)
  exact get_map I.kIn O (c.get f) c.hd n hu (handed_of ru) (h u _ (I.tok _) ru)
theorem getmeth_ok {m : Str} {g : Addr} {pl : Sem Bool} {Q : Value × List Value → Shared → Prop} (I : Inv X pins σ H s) (e : H a = some (.ins C dx fs)) (c : Cls X.K C) (k : Meth X.K C m g) (l : fs.lookup m = none)
    (h : Q (.ref g, [.ref a]) s) : wpAny (model X.prog X.w) A (getMethod (.ref a) m pl) Q E s := by
  obtain ⟨mA, O, r, _, _, _⟩ := ins_get I.hok e
  have hn : mA m = none := RelO.none_of (by rw [← l]; exact r m)
  exact get_meth I.kIn O (c.get m) k.at_ k.fn hn h
theorem setattr_ok {y : V} {u : Value} {Q : Unit → Shared → Prop} (I : Inv X pins σ H s) (e : H a = some (.ins C dx fs)) (c : Cls X.K C) (n : NoAttr X.K C f) (hl : fs.length < 1000) (ry : RelV y u)
    (h : ∀ s', Inv X pins σ (upd H a (.ins C dx (putF f y fs))) s' → Q () s') : wpAny (model X.prog X.w) A (setAttr (.ref a) f u) Q E s := by
  obtain ⟨mA, O, r, wi, _, ho⟩ := ins_get I.hok e
  have hz : (fs.map (·.1)).length ≤ sizeLine := by rw [List.length_map, sizeLine_eq]; omega
  refine set_map I.kIn O c.sa c.po n.taker c.hd wi hz fun h' O' sb => h _ ?_
  have hd : ∃ o, h'.get? dx = some o := let ⟨o, _, _, e', _⟩ := O'.ns; ⟨o, e'⟩
  refine I.write (x := a) (e := dx) (by rw [e]; exact True.intro) (.inr ho) (fun b q hb z => (sb.2 b hb).trans z) hd ?_
  refine ⟨by rw [upd_ne O.ne]; exact ho, ?_, O.ne, O'.obj, _, O'.ns, fun g => ?_, fun g hg => ?_⟩
  · have := length_putF f y fs; omega
  · show RelO ((putF f y fs).lookup g) (if g = f then some u else mA g)
    rw [lookup_putF]
    by_cases q : g = f
    · rw [if_pos q, if_pos q]; exact ry
    · rw [if_neg q, if_neg q]; exact r g
  · by_cases q : g = f
    · rw [q]; exact (keys_putF f y fs).1
    · refine (keys_putF f y fs).2 g (wi g fun z => hg ?_)
      show (if g = f then some u else mA g) = none
      rw [if_neg q]; exact z
theorem Inv.made (I : Inv X pins σ H s) : Inv X pins σ (upd (upd H s.heap.objs.size (.own (s.heap.objs.size + 1))) (s.heap.objs.size + 1) (.ins C s.heap.objs.size []))
    { s with heap := (s.heap.push PySem.W.emptyDict).push (PySem.W.instObj C s.heap.objs.size) } := by
  have e1 : (s.heap.push PySem.W.emptyDict).get? s.heap.objs.size = some PySem.W.emptyDict := Heap.get?_push_size s.heap rfl
  have e2 : ((s.heap.push PySem.W.emptyDict).push (PySem.W.instObj C s.heap.objs.size)).get? (s.heap.objs.size + 1) = some (PySem.W.instObj C s.heap.objs.size) := by
    have := Heap.get?_push_size (s.heap.push PySem.W.emptyDict) (o := PySem.W.instObj C s.heap.objs.size) rfl
    rwa [Heap.size_push] at this
  have e3 : (s.heap.push PySem.W.emptyDict).Ns s.heap.objs.size (fun _ => none) := ⟨PySem.W.emptyDict, #[], _, e1, rfl, (fun e he => absurd he (by simp)), fun _ => rfl⟩
  have I1 := I.laid (a := s.heap.objs.size) (o := .own (s.heap.objs.size + 1)) (h' := s.heap.push PySem.W.emptyDict) (t' := s.toks) (fun b u q => Heap.get?_push_of_some _ q) (Nat.le_refl _) ⟨_, e1⟩
  refine I1.laid (a := s.heap.objs.size + 1) (o := .ins C s.heap.objs.size []) (t' := s.toks) (fun b u q => Heap.get?_push_of_some _ q) (Nat.le_of_eq (Heap.size_push _ _)) ?_
  have ne : s.heap.objs.size ≠ s.heap.objs.size + 1 := Nat.ne_of_lt (Nat.lt_succ_self _)
  refine ⟨by rw [upd_ne ne, upd_same], Nat.zero_le _, ne, e2, fun _ => none, (Heap.Ns1.of_empty e3).at fun o q => Heap.get?_push_of_some _ q, fun _ => True.intro, fun y hy => absurd rfl hy⟩
theorem attr_of {prog : Program} {w : World} {env : Env} {e : Expr} {f : Str} {pos : Pos} {s : Shared} {Q : Value → Shared → Prop} (hb : attributeBase e f env (eval e env) = eval e env)
    (h : wpAny (model prog w) A (eval e env) (fun o s₁ => wpAny (model prog w) A (getAttr o f true) Q E s₁) E s) : wpAny (model prog w) A (eval (.Attribute e f pos) env) Q E s :=
  Attribute_any_ h (by rw [arm_eval_Attribute, hb])
end
def tFld (K : PySem.W.Frag) (ta : TE) (f : Str) : TE := fun σ H Q => ta σ H fun x H1 => ∃ a C dx fs v, x = .ref a ∧ H1 a = some (.ins C dx fs) ∧ Cls K C ∧ NoAttr K C f ∧ fs.lookup f = some v ∧ Q v H1
def tCon (K : PySem.W.Frag) (ta : TE) (f : Str) : TE := fun σ H Q => ta σ H fun x H1 => ∃ a C dx fs v u, x = .ref a ∧ H1 a = some (.ins C dx fs) ∧ Cls K C ∧ Con K C f v u ∧ fs.lookup f = none ∧ Q v H1
def sFld (K : PySem.W.Frag) (ta tv : TE) (f : Str) : TS := fun D σ H => tv σ H fun y H1 => ta σ H1 fun x H2 => ∃ a C dx fs, x = .ref a ∧ H2 a = some (.ins C dx fs) ∧ Cls K C ∧ NoAttr K C f ∧ fs.length < 1000 ∧
  D.nx σ (upd H2 a (.ins C dx (putF f y fs)))
def InOp (X : Cx) (op : Operator) (rd : V → V → Hp → VK → Prop) : Prop :=
  ∀ (pins : List (Addr × Obj)) (s : Shared) (σ : St) (H : Hp) (x y : V) (u v : Value) (Q : VK), Inv X pins σ H s → RelV x u → RelV y v → rd x y H Q → wpAny (model X.prog X.w) X.A (inplaceOp op u v) (EP X pins σ Q) X.xe s
def sFldAug (K : PySem.W.Frag) (ta tv : TE) (rd : V → V → Hp → VK → Prop) (f : Str) : TS := fun D σ H => ta σ H fun x H1 => ∃ a C dx fs v, x = .ref a ∧ H1 a = some (.ins C dx fs) ∧ Cls K C ∧ NoAttr K C f ∧ fs.lookup f = some v ∧
  tv σ H1 fun y H2 => rd v y H2 fun z H3 => ∃ dx' fs', H3 a = some (.ins C dx' fs') ∧ fs'.length < 1000 ∧ D.nx σ (upd H3 a (.ins C dx' (putF f z fs')))
section
variable {X : Cx} {o e value : Expr} {f : Str} {pos pos' tpos : Pos} {ta tv : TE}
theorem pe_fld (he : PE X e ta) (hb : attributeBase e f X.env (eval e X.env) = eval e X.env) : PE X (.Attribute e f pos) (tFld X.K ta f) := by
  intro pins s σ H Q I h
  refine attr_of hb (thn (he pins s σ H _ I h) fun u s1 ⟨x, H1, I1, rx, a, C, dx, fs, v, ex, ea, c, n, l, q⟩ => ?_)
  subst ex
  obtain rfl : u = Value.ref a := rx
  exact getattr_ok I1 ea c n l fun u' s2 I2 ru => ⟨v, H1, I2, ru, q⟩
theorem ps_fld (ha : PE X o ta) (hv : PE X value tv) (hs : swapsWith value (some (.Attribute o f pos')) pos.line X.env = pure false) : PS X (.Assign [.Attribute o f pos'] value pos) (sFld X.K ta tv f) := by
  intro pins s σ H D I h
  refine plainObj_wpAny_Assign_Attribute (thn (hv pins s σ H _ I h) fun u s1 ⟨y, H1, I1, ry, q⟩ => thn (ha pins s1 σ H1 _ I1 q) fun ov s2 ⟨x, H2, I2, rx, a, C, dx, fs, ex, ea, c, n, l, q2⟩ => ?_) hs
  subst ex
  obtain rfl : ov = Value.ref a := rx
  exact setattr_ok I2 ea c n l ry fun s3 I3 => ⟨σ, _, I3, q2⟩
def rAdd : V → V → Hp → VK → Prop := fun x y H Q => ∃ i j, x = .int i ∧ y = .int j ∧ Q (.int (i + j)) H
def rSub : V → V → Hp → VK → Prop := fun x y H Q => ∃ i j, x = .int i ∧ y = .int j ∧ Q (.int (i - j)) H
end
section
variable {X : Cx} {pins : List (Addr × Obj)} {σ : St} {H : Hp} {s : Shared} {A : Around} {E : Value → Shared → Prop} {Q : Value → Shared → Prop} {c : Value} {b : Bool}
inductive TyOf (K : PySem.W.Frag) (H : Hp) : V → Value → Prop where
  | non : TyOf K H .non (.type "NoneType")
  | bl (x : Bool) : TyOf K H (.bl x) (.type "bool")
  | int (i : Int) : TyOf K H (.int i) (.type "int")
  | str (x : Str) : TyOf K H (.str x) (.type "str")
  | flt (x : UInt64) : TyOf K H (.flt x) (.type "float")
  | lst {a : Addr} {xs : List V} (e : H a = some (.lst xs)) : TyOf K H (.ref a) (.type "list")
  | frz {a : Addr} {o : Obj} {xs : List V} (e : H a = some (.frz o (.lst xs))) : TyOf K H (.ref a) (.type "list")
  | tup {a : Addr} {xs : List V} (e : H a = some (.tup xs)) : TyOf K H (.ref a) (.type "tuple")
  | dK {a : Addr} {kvs : List (Key × V)} (e : H a = some (.dK kvs)) : TyOf K H (.ref a) (.type "dict")
  | dT {a : Addr} {kvs : List (List Key × V)} (e : H a = some (.dT kvs)) : TyOf K H (.ref a) (.type "dict")
  | ins {a C dx : Addr} {fs : List (Str × V)} (e : H a = some (.ins C dx fs)) (cl : Cls K C) (ha : PySem.W.findIn K (.ref C) "__class__" = some (some (.builtin "object.__class__")))
      (hn : PySem.W.specialIn K (.builtin "object.__class__") "__get__" = some (some (.builtin "getset_descriptor.__get__"))) (htk : PySem.W.takesIn K (.builtin "object.__class__") = some true)
      (hm : PySem.W.mroIn K C (.type "object") = some true) : TyOf K H (.ref a) (.ref C)
theorem isinst_ok {x : V} {u t : Value} (I : Inv X pins σ H s) (rx : RelV x u) (ty : TyOf X.K H x t) (e : PySem.W.kitOne X.K t c = some b) (h : ∀ tk, Q (.bool b) { s with toks := tk }) :
    wpAny (model X.prog X.w) A (call (.builtin "isinstance") [u, c]) Q E s := by
  cases ty with
  | non => cases (show u = Value.none from rx); exact PySem.W.kia_one PySem.W.kitx_none I.kIn True.intro e (fun z => nomatch z) h
  | bl y => cases (show u = Value.bool y from rx); exact PySem.W.kia_one PySem.W.kitx_bool I.kIn True.intro e (fun z => nomatch z) h
  | int i => obtain ⟨t, q⟩ := (show ∃ t, u = Value.int i t from rx); cases q; exact PySem.W.kia_one PySem.W.kitx_int I.kIn True.intro e (fun z => nomatch z) h
  | str y => obtain ⟨t, q⟩ := (show ∃ t, u = Value.str y t from rx); cases q; exact PySem.W.kia_one PySem.W.kitx_str I.kIn True.intro e (fun z => nomatch z) h
  | flt y => obtain ⟨t, q⟩ := (show ∃ t, u = Value.float y t from rx); cases q; exact PySem.W.kia_one PySem.W.kitx_float I.kIn True.intro e (fun z => nomatch z) h
  | @lst a xs ea =>
    cases (show u = Value.ref a from rx)
    obtain ⟨_, _, n, _, h1⟩ := (show ObjOk X.prog X.w H s.heap a (.lst xs) from I.hok a _ ea)
    exact PySem.W.kia_one PySem.W.kitx_list I.kIn ⟨_, h1, rfl⟩ e (fun z => nomatch z) h
  | @frz a ob xs ea =>
    cases (show u = Value.ref a from rx)
    obtain ⟨_, _, _, n, _, h1⟩ := (show ObjOk X.prog X.w H s.heap a (.frz ob (.lst xs)) from I.hok a _ ea)
    exact PySem.W.kia_one PySem.W.kitx_list I.kIn ⟨_, h1, rfl⟩ e (fun z => nomatch z) h
  | @tup a xs ea =>
    cases (show u = Value.ref a from rx)
    obtain ⟨_, _, _, p⟩ := (show ObjOk X.prog X.w H s.heap a (.tup xs) from I.hok a _ ea)
    obtain ⟨o, h1, h2, _⟩ := p
    exact PySem.W.kia_one PySem.W.kitx_tuple I.kIn ⟨o, h1, h2⟩ e (fun z => nomatch z) h
  | @dK a kvs ea =>
    cases (show u = Value.ref a from rx)
    obtain ⟨_, _, vs, _, p⟩ := (show ObjOk X.prog X.w H s.heap a (.dK kvs) from I.hok a _ ea)
    obtain ⟨o, es, ep, h1, h2, _⟩ := p
    exact PySem.W.kia_one PySem.W.kitx_dict I.kIn ⟨o, h1, h2.1⟩ e (fun z => nomatch z) h
  | @dT a kvs ea =>
    cases (show u = Value.ref a from rx)
    obtain ⟨_, _, xs, _, o, es, ep, h1, h2, _⟩ := (show ObjOk X.prog X.w H s.heap a (.dT kvs) from I.hok a _ ea)
    exact PySem.W.kia_one PySem.W.kitx_dict I.kIn ⟨o, h1, h2.1⟩ e (fun z => nomatch z) h
  | @ins a C dx fs ea cl ha hn htk hm =>
    cases (show u = Value.ref a from rx)
    obtain ⟨mA, O, _⟩ := ins_get I.hok ea
    obtain ⟨od, J, _⟩ := O.look
    exact PySem.W.kia_one (PySem.W.kitx_own (cl.get _) cl.hd ha hn htk hm) I.kIn J e (fun z => nomatch z) h
end
end L2
namespace L2
open PySem PySem.Spec PyProof.Rows
structure Room (k : Nat) (A : Around) : Prop where
  hd : A.handled = none
  dp : A.depth + 3 * k + 5 < recursionLimit
  un : A.units + 16 * k + 200 < cLine
theorem Room.mono {j k : Nat} {A : Around} (r : Room k A) (h : j ≤ k) : Room j A := ⟨r.hd, by have := r.dp; omega, by have := r.un; omega⟩
theorem Room.deeper {k : Nat} {A : Around} (r : Room (k + 1) A) (env : Env) : Room k (A.deeper env) :=
  ⟨r.hd, by have := r.dp; show A.depth + 1 + 3 * k + 5 < _; omega, by have := r.un; show A.units + 3 + 16 * k + 200 < _; omega⟩
theorem make_depth {A : Around} {C : Addr} {us : List Value} {kw : List (Str × Value)} : (A.under (.builtin "type.__call__" ⟨.ref C :: us, kw⟩)).depth = A.depth + 1 := by
  first | rfl | simp [Around.under, Code.weight, Code.isCreation, Code.isGuard, Code.isCaller, Code.frames, Code.isFrame, guardIds]
theorem make_units {A : Around} {C : Addr} {us : List Value} {kw : List (Str × Value)} : (A.under (.builtin "type.__call__" ⟨.ref C :: us, kw⟩)).units = A.units + 1 := by
  first | rfl | simp [Around.under, Code.cUnits, Code.frames, Code.isFrame]
theorem Room.make {k : Nat} {A : Around} (r : Room (k + 1) A) (C : Addr) (us : List Value) (kw : List (Str × Value)) : Room k (A.under (.builtin "type.__call__" ⟨.ref C :: us, kw⟩)) :=
  ⟨r.hd, by have := r.dp; rw [make_depth]; omega, by have := r.un; rw [make_units]; omega⟩
theorem Room.depth {k : Nat} {A : Around} (r : Room k A) : A.depth < recursionLimit := by have := r.dp; omega
theorem Room.units {k : Nat} {A : Around} (r : Room k A) : A.units + 64 < cLine := by have := r.un; omega
theorem Room.units0 {k : Nat} {A : Around} (r : Room k A) : A.units < cLine := by have := r.un; omega
def tNil : TA := fun _ H Q => Q [] H
def tCons (ta : TE) (tr : TA) : TA := fun σ H Q => ta σ H fun x H1 => tr σ H1 fun xs H2 => Q (x :: xs) H2
section
variable {X : Cx} {e : Expr} {es : List Expr} {te : TE} {t : TA} {pos : Pos}
theorem pa_nil : PA X [] tNil := fun _ _ _ _ H Q I h => Calls.spliced_nil ⟨[], H, I, .nil, h⟩
theorem pa_cons (ha : PE X e te) (hr : PA X es t) (hs : starEach (e :: es) X.env = (false, eval e X.env) :: starEach es X.env := by rfl) : PA X (e :: es) (tCons te t) := by
  intro pos pins s σ H Q I h
  rw [hs]
  show wpAny _ _ (spliced ((false, eval e X.env) :: backTo pos (starEach es X.env))) _ _ s
  refine Calls.spliced_cons (thn (ha pins s σ H _ I h) fun u s1 ⟨x, H1, I1, r1, q1⟩ => ?_)
  exact thn (hr pos pins s1 σ H1 _ I1 q1) fun us s2 ⟨xs, H2, I2, r2, q2⟩ => ⟨x :: xs, H2, I2, .cons r1 r2, q2⟩
def tTup (t : TA) : TE := fun σ H Q => t σ H fun xs H1 => xs.length ≤ sizeLine ∧ ∀ p, H1 p = none → Q (.ref p) (upd H1 p (.tup xs))
def tLst (t : TA) : TE := fun σ H Q => t σ H fun xs H1 => xs.length ≤ sizeLine ∧ ∀ p, H1 p = none → Q (.ref p) (upd H1 p (.lst xs))
theorem pe_tup {x1} (h : PA X es t) : PE X (.Tuple es x1 pos) (tTup t) := by
  intro pins s σ H Q I hq
  refine wpAny_Tuple_spliced (thn (h pos pins s σ H _ I hq) fun us s1 ⟨xs, H1, I1, r, z, q⟩ => ⟨by rw [← r.length]; exact z, ?_⟩)
  have hf : H1 s1.heap.objs.size = none := I1.hok.fresh (Nat.le_refl _)
  refine ⟨.ref s1.heap.objs.size, upd H1 s1.heap.objs.size (.tup xs), I1.laid (t' := s1.toks) (fun b u e => Heap.get?_push_of_some _ e) (Nat.le_refl _) ?_, rfl, q _ hf⟩
  exact ⟨z, us, r, ⟨_, Heap.get?_push_size _ rfl, rfl, _, rfl⟩⟩
theorem pe_lst (h : PA X es t) : PE X (.List es pos) (tLst t) := by
  intro pins s σ H Q I hq
  refine wpAny_List_spliced (thn (h pos pins s σ H _ I hq) fun us s1 ⟨xs, H1, I1, r, z, q⟩ => ⟨by rw [← r.length]; exact z, ?_⟩)
  have hf : H1 s1.heap.objs.size = none := I1.hok.fresh (Nat.le_refl _)
  refine ⟨.ref s1.heap.objs.size, upd H1 s1.heap.objs.size (.lst xs), I1.laid (t' := s1.toks) (fun b u e => Heap.get?_push_of_some _ e) (Nat.le_refl _) ?_, rfl, q _ hf⟩
  exact ⟨z, us, 0, r, Heap.get?_push_size _ rfl⟩
end
abbrev Sp := List V → Hp → VK → XK → Prop
abbrev CXT := List Env → Hp → Shared → XK → Value → Shared → Prop
structure Env0 (P : Program) (w : World) (K : PySem.W.Frag) (mg : Str → Option Value) (base : Heap) (A : Around) (outer : List Env) (s : Shared) (H : Hp) : Prop where
  frames : A.frames = some outer
  mod : Mod K mg base
  bs : ∀ b o, base.get? b = some o → s.heap.get? b = some o ∧ H b = none
  bsz : base.objs.size ≤ s.heap.objs.size
  funs : s.heap.FunFrames base outer
  frf : ∀ b ∈ frs outer, H b = none
  hok : HOk P w H s.heap
  bare : AllBare s.gens
def CE (outer : List Env) (P : Program) (w : World) (H : Hp) (s : Shared) (Q : VK) (u : Value) (s' : Shared) : Prop :=
  ∃ v H', s'.os = s.os ∧ AllBare s'.gens ∧ Un (frs outer) [] H H' s.heap s'.heap ∧ HOk P w H' s'.heap ∧ RelV v u ∧ Q v H'
def CR (CX : CXT) (outer : List Env) (P : Program) (w : World) (H : Hp) (s : Shared) (Q : VK) (E : XK) (r : Result) (s' : Shared) : Prop :=
  match r with
  | .ok (.ret u) => CE outer P w H s Q u s'
  | .ok _ => False
  | .error e => CX outer H s E e s'
structure FnOk (P : Program) (w : World) (K : PySem.W.Frag) (mg : Str → Option Value) (base : Heap) (CX : CXT) (k : Nat) (f : Addr) (fd : FuncData) (ps : List Str) (sp : Sp) : Prop where
  len : ∀ vs H Q E, sp vs H Q E → vs.length = ps.length
  run : ∀ (A : Around) (outer : List Env) (s : Shared) (H : Hp) (args : Args) (us : List Value) (vs : List V) (Q : VK) (E : XK), Room k A → Env0 P w K mg base A outer s H → BindsTo s fd args (ps.zip us) → Vals vs us → sp vs H Q E →
    codeAny (model P w) A (.call (.ref f) args) (CR CX outer P w H s Q E) s
theorem FnOk.mono {P : Program} {w : World} {K : PySem.W.Frag} {mg : Str → Option Value} {base : Heap} {CX : CXT} {j k : Nat} {f : Addr} {fd : FuncData} {ps : List Str} {sp : Sp} (F : FnOk P w K mg base CX j f fd ps sp) (h : j ≤ k) :
    FnOk P w K mg base CX k f fd ps sp := ⟨F.len, fun A outer s H args us vs Q E hr => F.run A outer s H args us vs Q E (hr.mono h)⟩
theorem FnOk.imp {P : Program} {w : World} {K : PySem.W.Frag} {mg : Str → Option Value} {base : Heap} {CX : CXT} {k : Nat} {f : Addr} {fd : FuncData} {ps : List Str} {sp sp' : Sp} (F : FnOk P w K mg base CX k f fd ps sp)
    (h : ∀ vs H Q E, sp' vs H Q E → sp vs H Q E) : FnOk P w K mg base CX k f fd ps sp' :=
  ⟨fun vs H Q E q => F.len vs H Q E (h _ _ _ _ q), fun A outer s H args us vs Q E hr he hb hv hs => F.run A outer s H args us vs Q E hr he hb hv (h _ _ _ _ hs)⟩
theorem Env0.make {P : Program} {w : World} {K : PySem.W.Frag} {mg : Str → Option Value} {base : Heap} {A : Around} {outer : List Env} {s : Shared} {H : Hp} (e : Env0 P w K mg base A outer s H) (C : Addr) (us : List Value) (kw : List (Str × Value)) :
    Env0 P w K mg base (A.under (.builtin "type.__call__" ⟨.ref C :: us, kw⟩)) outer s H := ⟨by first | exact e.frames | (simpa [Around.under, Code.envs, Code.isFrame, pushEnvs] using e.frames), e.mod, e.bs, e.bsz, e.funs, e.frf, e.hok, e.bare⟩
section
variable {X : Cx} {pins : List (Addr × Obj)} {σ : St} {H : Hp} {s s' : Shared}
theorem Inv.env0 (I : Inv X pins σ H s) : Env0 X.prog X.w X.K X.mg X.base X.A X.stack s H :=
  ⟨I.ok.frames, I.ok.mod, I.bs, Nat.le_trans I.ok.bsz I.sz, I.stack, I.stkFree, I.hok, I.bare⟩
theorem Inv.after {Q : VK} {u : Value} (I : Inv X pins σ H s) (h : CE X.stack X.prog X.w H s Q u s') : EP X pins σ Q u s' := by
  obtain ⟨v, H', os, bare, un, hok, r, q⟩ := h
  obtain ⟨hh, g, d, t, os'⟩ := s'
  obtain rfl : os' = s.os := os
  exact ⟨v, H', I.call (h' := hh) (g' := g) (d' := d) (t' := t) (ch := []) un hok bare (fun b z => absurd z (by simp)), r, q⟩
end
def tCall (sp : Sp) (dvs : List V) (E : XK) (t : TA) : TE := fun σ H Q => t σ H fun vs H1 => sp (vs ++ dvs) H1 Q E
def tMeth (C : Addr) (m : Str) (sp : Sp) (dvs : List V) (E : XK) (ta : TE) (t : TA) : TE := fun σ H Q => ta σ H fun x H1 => ∃ a dx fs, x = .ref a ∧ H1 a = some (.ins C dx fs) ∧ fs.lookup m = none ∧
  t σ H1 fun vs H2 => sp (x :: (vs ++ dvs)) H2 Q E
def tMake (C : Addr) (sp : Sp) (dvs : List V) (E : XK) (t : TA) : TE := fun σ H Q => t σ H fun vs H1 => ∀ x dx, H1 x = none → H1 dx = none → dx ≠ x →
  sp (.ref x :: (vs ++ dvs)) (upd (upd H1 dx (.own x)) x (.ins C dx [])) (fun v H2 => v = .non ∧ Q (.ref x) H2) E
def Binds (K : PySem.W.Frag) (fd : FuncData) (ps : List Str) (ds : List Value) : Prop :=
  ∀ (s : Shared) (us : List Value), K.In s.heap → (us ++ ds).length = ps.length → BindsTo s fd ⟨us, []⟩ (ps.zip (us ++ ds))
theorem Binds.all {K : PySem.W.Frag} {fd : FuncData} {ps : List Str} (h : ∀ us : List Value, us.length = ps.length → bindArgs fd ⟨us, []⟩ = pure (ps.zip us)) : Binds K fd ps [] := fun s us _ hl => by
  rw [List.append_nil] at hl ⊢
  exact .of_eq (h us hl)
def Passes (CX : CXT) (X : Cx) (E : XK) : Prop := ∀ (pins : List (Addr × Obj)) (σ : St) (H : Hp) (s : Shared) (e : Value) (s' : Shared), Inv X pins σ H s → CX X.stack H s E e s' → X.xe e s'
section
variable {X : Cx} {CX : CXT} {k : Nat} {f C : Addr} {fd : FuncData} {ps : List Str} {sp : Sp} {dvs : List V} {ds : List Value} {E : XK} {x m : Str} {p pos apos : Pos} {e o : Expr} {es : List Expr} {ta : TE} {t : TA}
theorem run_fn {pins : List (Addr × Obj)} {σ : St} {H : Hp} {s : Shared} {Q : VK} {us : List Value} {vs : List V} (F : FnOk X.prog X.w X.K X.mg X.base CX k f fd ps sp) (hr : Room k X.A) (hb : Binds X.K fd ps ds) (hd : Vals dvs ds) (hx : Passes CX X E)
    (I : Inv X pins σ H s) (r : Vals vs us) (h : sp (vs ++ dvs) H Q E) : wpAny (model X.prog X.w) X.A (call (.ref f) us) (EP X pins σ Q) X.xe s := by
  have r2 : Vals (vs ++ dvs) (us ++ ds) := r.append hd
  have hl : (us ++ ds).length = ps.length := by rw [← r2.length]; exact F.len _ _ _ _ h
  refine wpAny_call (codeAny_mono (F.run X.A X.stack s H ⟨us, []⟩ (us ++ ds) (vs ++ dvs) Q E hr I.env0 (hb s us I.kIn hl) r2 h) fun r s' hq => ?_)
  cases r with
  | error e => exact hx pins σ H s e s' I hq
  | ok fl =>
    cases fl with
    | ret u => exact I.after hq
    | next => exact False.elim hq
    | brk => exact False.elim hq
    | cont => exact False.elim hq
theorem pe_call (F : FnOk X.prog X.w X.K X.mg X.base CX k f fd ps sp) (hr : Room k X.A) (hg : Gl X x) (hm : X.mg x = some (.ref f)) (hk : PySem.W.keepIn X.K (.ref f) = true) (hb : Binds X.K fd ps ds) (hd : Vals dvs ds) (hx : Passes CX X E)
    (ha : PA X (e :: es) t) (hdb : (x == ("__debug__" : Str)) = false := by decide) (he : starEach (e :: es) X.env = (false, eval e X.env) :: starEach es X.env := by rfl) (hpl : (backTo pos (starEach es X.env)).any (·.1) = false := by rfl) :
    PE X (.Call (.Name x p) (e :: es) [] pos) (tCall sp dvs E t) := by
  intro pins s σ H Q I h
  refine wpAny_Call_Name_kw (ld_glob I hg hm ?_ hdb)
  refine PySem.W.callWith_K (h₀ := X.base) I.ok.mod.kin hk (thn (ha pos pins s σ H _ I h) fun us s1 ⟨vs, H1, I1, r, q⟩ => ⟨I1.kIn, ?_⟩) he hpl
  exact run_fn F hr hb hd hx I1 r q
structure Mk (K : PySem.W.Frag) (C f : Addr) : Prop where
  makes : PySem.W.makesIn K C = true
  init : PySem.W.findIn K (.ref C) "__init__" = some (some (.ref f))
  fn : PySem.W.isFn K (.ref f) = true
  kp : PySem.W.keepIn K (.ref C) = true
theorem run_make {pins : List (Addr × Obj)} {σ : St} {H : Hp} {s : Shared} {Q : VK} {us : List Value} {vs : List V} (M : Mk X.K C f) (F : FnOk X.prog X.w X.K X.mg X.base CX k f fd ps sp) (hr : Room (k + 1) X.A) (hb : Binds X.K fd ps ds) (hd : Vals dvs ds)
    (hx : Passes CX X E) (I : Inv X pins σ H s) (r : Vals vs us)
    (h : ∀ x dx, H x = none → H dx = none → dx ≠ x → sp (.ref x :: (vs ++ dvs)) (upd (upd H dx (.own x)) x (.ins C dx [])) (fun v H2 => v = .non ∧ Q (.ref x) H2) E) :
    wpAny (model X.prog X.w) X.A (call (.ref C) us) (EP X pins σ Q) X.xe s := by
  have hq := h (s.heap.objs.size + 1) s.heap.objs.size (I.hok.fresh (Nat.le_succ _)) (I.hok.fresh (Nat.le_refl _)) (Nat.ne_of_lt (Nat.lt_succ_self _))
  have I2 := Inv.made (C := C) I
  have r2 : Vals (V.ref (s.heap.objs.size + 1) :: (vs ++ dvs)) (Value.ref (s.heap.objs.size + 1) :: (us ++ ds)) := .cons rfl (r.append hd)
  have hl : (Value.ref (s.heap.objs.size + 1) :: us ++ ds).length = ps.length := by
    have e := r2.length
    rw [F.len _ _ _ _ hq] at e
    exact e.symm
  refine wpAny_call (make_map (f := f) I.kIn M.makes M.init (beq_iff_eq.mp M.fn) (codeAny_mono (F.run _ X.stack _ _ ⟨Value.ref (s.heap.objs.size + 1) :: us, []⟩ (Value.ref (s.heap.objs.size + 1) :: (us ++ ds)) _ _ E (hr.make C us [])
    (I2.env0.make C us []) (hb _ (Value.ref (s.heap.objs.size + 1) :: us) I2.kIn hl) r2 hq) fun r s' hq' => ?_))
  cases r with
  | error e => exact hx pins σ _ _ e s' I2 hq'
  | ok fl =>
    cases fl with
    | ret u =>
      obtain ⟨v, H', I3, rv, ev, q3⟩ := I2.after hq'
      subst ev
      exact ⟨rv, ⟨V.ref (s.heap.objs.size + 1), H', I3, rfl, q3⟩⟩
    | next => exact False.elim hq'
    | brk => exact False.elim hq'
    | cont => exact False.elim hq'
theorem pe_make (M : Mk X.K C f) (F : FnOk X.prog X.w X.K X.mg X.base CX k f fd ps sp) (hr : Room (k + 1) X.A) (hg : Gl X x) (hm : X.mg x = some (.ref C)) (hb : Binds X.K fd ps ds) (hd : Vals dvs ds) (hx : Passes CX X E)
    (ha : PA X (e :: es) t) (hdb : (x == ("__debug__" : Str)) = false := by decide) (he : starEach (e :: es) X.env = (false, eval e X.env) :: starEach es X.env := by rfl) (hpl : (backTo pos (starEach es X.env)).any (·.1) = false := by rfl) :
    PE X (.Call (.Name x p) (e :: es) [] pos) (tMake C sp dvs E t) := by
  intro pins s σ H Q I h
  refine wpAny_Call_Name_kw (ld_glob I hg hm ?_ hdb)
  refine PySem.W.callWith_K (h₀ := X.base) I.ok.mod.kin M.kp (thn (ha pos pins s σ H _ I h) fun us s1 ⟨vs, H1, I1, r, q⟩ => ⟨I1.kIn, ?_⟩) he hpl
  exact run_make M F hr hb hd hx I1 r q
end
def PK (X : Cx) (kws : List Keyword) (t : TA) : Prop :=
  ∀ (pos : Pos) (pins : List (Addr × Obj)) (s : Shared) (σ : St) (H : Hp) (Q : List V → Hp → Prop), Inv X pins σ H s → t σ H Q → wpAny (model X.prog X.w) X.A (evalAll ((backToKw pos (keywordEach kws X.env)).map (·.2))) (AP X pins σ Q) X.xe s
section
variable {X : Cx} {CX : CXT} {k : Nat} {f C : Addr} {fd : FuncData} {ps ks : List Str} {sp : Sp} {E : XK} {x m : Str} {p pos apos kpos : Pos} {e o : Expr} {es : List Expr} {kws : List Keyword} {te ta : TE} {t tk : TA} {nm : Option Str}
structure KBinds (K : PySem.W.Frag) (fd : FuncData) (ps ks : List Str) (g : List Value → List Value → List Value) (gV : List V → List V → List V) : Prop where
  to : ∀ (s : Shared) (us ws : List Value), K.In s.heap → (g us ws).length = ps.length → BindsTo s fd ⟨us, ks.zip ws⟩ (ps.zip (g us ws))
  rel : ∀ {vs : List V} {us : List Value} {zs : List V} {ws : List Value}, Vals vs us → Vals zs ws → Vals (gV vs zs) (g us ws)
def tCallK (sp : Sp) (gV : List V → List V → List V) (E : XK) (t tk : TA) : TE := fun σ H Q => t σ H fun vs H1 => tk σ H1 fun zs H2 => sp (gV vs zs) H2 Q E
variable {g : List Value → List Value → List Value} {gV : List V → List V → List V}
end
structure FnScope (N P : List Str) (sc : Scope) : Prop where
  kind : sc.kind = .function
  co : sc.isCoroutine = false
  gen : sc.isGenerator = false
  nd : N.Nodup
  pre : N.take P.length = P
  par : ∀ x ∈ P, sc.names.lookup x = some .local ∨ sc.names.lookup x = some .cell
  nofree : ∀ y ∈ sc.names, y.2 ≠ .free
theorem bindL_out {kindOf : Str → Option NameKind} {x : Str} : ∀ {binds : List (Str × Value)} {m : Str → Option Value}, (∀ v, (x, v) ∉ binds) → bindL kindOf binds m x = m x
  | [], _, _ => rfl
  | (n, v) :: r, m, h => by
    unfold bindL
    rw [bindL_out fun w hw => h w (List.mem_cons_of_mem _ hw)]
    split
    · have : x ≠ n := by rintro rfl; exact h v List.mem_cons_self
      simp [this]
    · rfl
theorem bindC_out {kindOf : Str → Option NameKind} {x : Str} : ∀ {binds : List (Str × Value)} {m : Str → Option Value}, (∀ v, (x, v) ∉ binds) → bindC kindOf binds m x = m x
  | [], _, _ => rfl
  | (n, v) :: r, m, h => by
    unfold bindC
    rw [bindC_out fun w hw => h w (List.mem_cons_of_mem _ hw)]
    split
    · rfl
    · have : x ≠ n := by rintro rfl; exact h v List.mem_cons_self
      simp [this]
theorem bindL_get {kindOf : Str → Option NameKind} {x : Str} {v : Value} : ∀ {P : List Str} {vs : List Value} {i : Nat} {m : Str → Option Value}, P.Nodup → P[i]? = some x → vs[i]? = some v → kindOf x = some .local →
    bindL kindOf (P.zip vs) m x = some v
  | [], _, _, _, _, h, _, _ => by simp at h
  | _ :: _, [], _, _, _, _, h, _ => by simp at h
  | p :: P, w :: vs, 0, m, nd, h1, h2, hk => by
    simp at h1 h2; subst h1; subst h2
    show bindL kindOf ((p, w) :: P.zip vs) m p = _
    unfold bindL
    rw [bindL_out fun v hv => (List.nodup_cons.mp nd).1 (List.of_mem_zip hv).1, if_pos hk]
    simp
  | p :: P, w :: vs, i + 1, m, nd, h1, h2, hk => by
    show bindL kindOf ((p, w) :: P.zip vs) m x = _
    unfold bindL
    exact bindL_get (i := i) (List.nodup_cons.mp nd).2 (by simpa using h1) (by simpa using h2) hk
theorem bindC_get {kindOf : Str → Option NameKind} {x : Str} {v : Value} : ∀ {P : List Str} {vs : List Value} {i : Nat} {m : Str → Option Value}, P.Nodup → P[i]? = some x → vs[i]? = some v → kindOf x ≠ some .local →
    bindC kindOf (P.zip vs) m x = some v
  | [], _, _, _, _, h, _, _ => by simp at h
  | _ :: _, [], _, _, _, _, h, _ => by simp at h
  | p :: P, w :: vs, 0, m, nd, h1, h2, hk => by
    simp at h1 h2; subst h1; subst h2
    show bindC kindOf ((p, w) :: P.zip vs) m p = _
    unfold bindC
    rw [bindC_out fun v hv => (List.nodup_cons.mp nd).1 (List.of_mem_zip hv).1, if_neg hk]
    simp
  | p :: P, w :: vs, i + 1, m, nd, h1, h2, hk => by
    show bindC kindOf ((p, w) :: P.zip vs) m x = _
    unfold bindC
    exact bindC_get (i := i) (List.nodup_cons.mp nd).2 (by simpa using h1) (by simpa using h2) hk
def start (N : List Str) (vs : List V) : St := vs.map some ++ List.replicate (N.length - vs.length) none
def cxOf (CX : CXT) (P : Program) (w : World) (K : PySem.W.Frag) (mg : Str → Option Value) (base : Heap) (N : List Str) (qual : Str) (scope : Scope) (f : Addr) (cd : Value) (A : Around) (outer : List Env) (s : Shared) (H : Hp) (E : XK) : Cx where
  prog := P
  w := w
  K := K
  mg := mg
  base := base
  A := A.deeper (envOfC qual scope s.heap.objs.size f cd)
  N := N
  s₀ := s
  H₀ := H
  env := envOfC qual scope s.heap.objs.size f cd
  outer := outer
  stack := envOfC qual scope s.heap.objs.size f cd :: outer
  ex := []
  calm := true
  fn := fun _ => true
  pn := []
  xe := fun e s' => wpAny (model P w) (A.deeper (envOfC qual scope s.heap.objs.size f cd)) (leaving (envOfC qual scope s.heap.objs.size f cd) e) (fun _ s'' => CX outer H s E e s'') (fun e' s'' => CX outer H s E e' s'') s'
theorem cell_has {sc : Scope} {n : Nat} {x : Str} (h : sc.names.lookup x = some .cell) : ∃ c, (cellsFrom n sc.names []).lookup x = some c := by
  have q := PySem.W.cellsFrom_some sc.names n [] (.inl h)
  exact Option.isSome_iff_exists.mp q
theorem inv_start {CX : CXT} {P : Program} {w : World} {K : PySem.W.Frag} {mg : Str → Option Value} {base : Heap} {N ps : List Str} {qual : Str} {scope : Scope} {f : Addr} {cd : Value} {A : Around} {outer : List Env} {s s1 : Shared} {H : Hp} {E : XK} {us : List Value} {vs : List V}
    (S : FnScope N ps scope) (hd : A.handled = none) (e0 : Env0 P w K mg base A outer s H) (hl : vs.length = ps.length) (r : Vals vs us)
    (x : InCallC s s.heap.objs.size (bindL (envOfC qual scope s.heap.objs.size f cd).kindOf (ps.zip us) fun _ => none) (cellsFrom (s.heap.objs.size + 1) scope.names []) (bindC (envOfC qual scope s.heap.objs.size f cd).kindOf (ps.zip us) fun _ => none) s1) :
    Inv (cxOf CX P w K mg base N qual scope f cd A outer s H E) [] (start N vs) H s1 := by
  have hpl : ps.length ≤ N.length := by have := congrArg List.length S.pre; rw [List.length_take] at this; omega
  obtain ⟨h1, tk, rfl, hk⟩ := x.done
  have noA : ∀ b : Addr, b ∉ (cxOf CX P w K mg base N qual scope f cd A outer s H E).ex := fun b z => absurd (show b ∈ ([] : List Addr) from z) (by simp)
  refine ⟨⟨e0.mod, S.kind, rfl, rfl, Nat.le_refl _, fun y z c h1 h2 => ?_, fun y hy => ?_, fun y c _ h => ?_, fun _ => hd, Around.frames_deeper e0.frames, .inr ⟨rfl, rfl⟩, fun b z => absurd z (noA b), e0.bs, e0.bsz, fun b _ _ => noA b, fun b z => absurd z (noA b), e0.funs, e0.frf⟩,
    rfl, e0.bare, Un.kept hk, ⟨_, x.toInCall.ns, fun i y v h1 h2 h3 => ?_⟩, fun y c h => ⟨_, x.cell y c h⟩, e0.hok.fresh (Nat.le_refl _), fun y c h => ?_, fun p hp => absurd (show p ∈ ([] : List (Addr × Obj)) from hp) (by simp), e0.hok.kept hk, ?_⟩
  · exact name_of_addr x.apart (PySem.mem_of_lookup h1) (PySem.mem_of_lookup h2)
  · have hy : scope.names.lookup y = some .cell ∨ scope.names.lookup y = some .free := hy
    rcases hy with hy | hy
    · exact cell_has hy
    · exact absurd rfl (S.nofree _ (PySem.mem_of_lookup hy))
  · exact Nat.le_of_lt (x.above y c (PySem.mem_of_lookup h))
  · have hi : i < vs.length := by
      unfold start at h2
      by_cases hi : i < vs.length
      · exact hi
      · rw [List.getElem?_append_right (by simpa using hi)] at h2
        rw [List.getElem?_replicate] at h2
        split at h2 <;> cases h2
    have ha : vs[i]? = some v := by
      unfold start at h2
      rw [List.getElem?_append_left (by simpa using hi), List.getElem?_map] at h2
      cases e : vs[i]? with
      | none => rw [e] at h2; cases h2
      | some a => rw [e] at h2; cases h2; rfl
    obtain ⟨u, hu, rv⟩ := r.get ha
    have hp : ps[i]? = some y := by
      rw [← S.pre, List.getElem?_take_of_lt (by omega)]; exact h1
    have ndP : ps.Nodup := by rw [← S.pre]; exact S.nd.sublist (List.take_sublist _ _)
    refine ⟨u, rv, ?_⟩
    rcases S.par y (List.mem_of_getElem? hp) with k | k
    · exact .inl ⟨k, bindL_get ndP hp hu k⟩
    · obtain ⟨c, e⟩ := cell_has (n := s.heap.objs.size + 1) k
      refine .inr ⟨.inl k, c, e, ?_⟩
      have q := x.cell y c e
      rw [bindC_get ndP hp hu (by show scope.names.lookup y ≠ _; rw [k]; decide)] at q
      exact q
  · exact e0.hok.fresh (Nat.le_of_lt (x.above y c (PySem.mem_of_lookup h)))
  · unfold start
    show _ = N.length
    rw [List.length_append, List.length_map, List.length_replicate]
    omega
theorem fn_of {CX : CXT} {P : Program} {w : World} {K : PySem.W.Frag} {mg : Str → Option Value} {base : Heap} {k : Nat} {f : Addr} {name qual : Str} {params : Arguments} {body : List Stmt} {scope : Scope} {dV kV doc pm cdv ct oc : Value} {an od : Option Addr}
    {osl : Array (Option Value)} {N ps : List Str} {sp : Sp} (lk : K.lookup f = some ⟨oc, od, .func (PySem.W.fnOf name qual params body scope dV kV doc pm an cdv ct), osl⟩) (hcd : PySem.W.codeIn K cdv qual = true) (S : FnScope N ps scope)
    (len : ∀ vs H Q E, sp vs H Q E → vs.length = ps.length)
    (hbody : ∀ (A : Around) (outer : List Env) (s : Shared) (H : Hp) (vs : List V) (Q : VK) (E : XK), Room k (A.deeper (envOfC qual scope s.heap.objs.size f cdv)) → sp vs H Q E →
      ∃ t, PSs (cxOf CX P w K mg base N qual scope f cdv A outer s H E) body t ∧ t { nx := fun _ H' => Q .non H', rt := Q } (start N vs) H) :
    FnOk P w K mg base CX (k + 1) f (PySem.W.fnOf name qual params body scope dV kV doc pm an cdv ct) ps sp := by
  refine ⟨len, fun A outer s H args us vs Q E hr e0 hb r hsp => ?_⟩
  have hl := len _ _ _ _ hsp
  have KX : K.In s.heap := e0.mod.kin.keeps fun b o e => (e0.bs b o e).1
  have lim : s.heap.NoLimit := e0.mod.nolimit.keeps fun b o e => (e0.bs b o e).1
  have hkind : ∀ y ∈ ps.zip us, scope.names.lookup y.1 = some .local ∨ (scope.names.lookup y.1 = some .cell ∧ ((cellsFrom (s.heap.objs.size + 1) scope.names []).lookup y.1).isSome = true) := fun ⟨n, v⟩ hy => by
    rcases S.par n (List.of_mem_zip hy).1 with q | q
    · exact .inl q
    · exact .inr ⟨q, PySem.W.cellsFrom_some _ _ _ (.inl q)⟩
  refine codeAny_call_function hr.depth (KX _ _ lk) rfl S.co S.gen rfl (PySem.W.codeRec_of KX hcd) (hb _ _ _ _ ?_)
  refine wpAny_newFunctionEnv_cells S.kind hkind fun env he s1 x => ?_
  subst he
  refine ⟨lim.keeps x.toInCall.keep, codeAny_func ?_⟩
  obtain ⟨t, ht, hq⟩ := hbody A outer s H vs Q E (hr.deeper _) hsp
  have I : Inv (cxOf CX P w K mg base N qual scope f cdv A outer s H E) [] (start N vs) H s1 := inv_start S hr.hd e0 hl r x
  refine wpAny_mono (ht [] s1 (start N vs) H _ I hq) (fun fl s' hs => ?_) fun e s' hs => hs
  have fin : ∀ {σ' : St} {H' : Hp} {v : V} {u : Value}, Inv (cxOf CX P w K mg base N qual scope f cdv A outer s H E) [] σ' H' s' → RelV v u → Q v H' → CE outer P w H s Q u s' :=
    fun {σ' H' v u} J rv q => ⟨v, H', J.os, J.bare, J.base, J.hok, rv, q⟩
  cases fl with
  | ret u =>
    obtain ⟨v, σ', H', J, rv, q⟩ := hs
    exact fin J rv q
  | next =>
    obtain ⟨σ', H', J, q⟩ := hs
    exact fin (v := V.non) (u := Value.none) J rfl q
  | brk =>
    obtain ⟨_, _, _, q⟩ := hs
    exact False.elim q
  | cont =>
    obtain ⟨_, _, _, q⟩ := hs
    exact False.elim q
end L2
namespace L2
open PySem PySem.Spec PyProof.Rows
section
variable {X : Cx} {x : Str} {p pos : Pos} {e : Expr} {es : List Expr} {t : TA} {id T : String} {r : List V → Hp → VK → Prop}
def tCB (r : List V → Hp → VK → Prop) (t : TA) : TE := fun σ H Q => t σ H fun vs H1 => r vs H1 Q
theorem pe_callB (hc : CallR X (.builtin id) r) (hg : Gl X x) (hm : X.mg x = none) (hv : bootBuiltins x = some (.builtin id)) (ha : PA X (e :: es) t) (hn : x ≠ "__name__" := by decide) (hdb : (x == ("__debug__" : Str)) = false := by decide)
    (he : starEach (e :: es) X.env = (false, eval e X.env) :: starEach es X.env := by rfl) (hpl : (backTo pos (starEach es X.env)).any (·.1) = false := by rfl) : PE X (.Call (.Name x p) (e :: es) [] pos) (tCB r t) := by
  intro pins s σ H Q I h
  refine wpAny_Call_Name_kw (ld_blt I hg hm hv ?_ hn hdb)
  exact PyProof.Rows.callWith_builtin1 (thn (ha pos pins s σ H _ I h) fun us s1 ⟨vs, H1, I1, r1, q1⟩ => hc pins s1 σ H1 vs us Q I1 r1 q1) he hpl
theorem pe_callTy (hc : CallR X (.type T) r) (hg : Gl X x) (hm : X.mg x = none) (hv : bootBuiltins x = some (.type T)) (ha : PA X (e :: es) t) (hn : x ≠ "__name__" := by decide) (hdb : (x == ("__debug__" : Str)) = false := by decide)
    (he : starEach (e :: es) X.env = (false, eval e X.env) :: starEach es X.env := by rfl) (hpl : (backTo pos (starEach es X.env)).any (·.1) = false := by rfl) : PE X (.Call (.Name x p) (e :: es) [] pos) (tCB r t) := by
  intro pins s σ H Q I h
  refine wpAny_Call_Name_kw (ld_blt I hg hm hv ?_ hn hdb)
  exact PyProof.Rows.callWith_type1 (thn (ha pos pins s σ H _ I h) fun us s1 ⟨vs, H1, I1, r1, q1⟩ => hc pins s1 σ H1 vs us Q I1 r1 q1) he hpl
end
end L2
namespace HT
open PySem PyProof.Rows
def lexLt : List Int → List Int → Bool
  | [], [] => false
  | [], _ :: _ => true
  | _ :: _, [] => false
  | x :: xs, y :: ys => if x = y then lexLt xs ys else decide (x < y)
section
open PySem.SeqAt
open PySem.AutoSeq1 (wpAny_loadPart')
open PySem.MeetsSeq PySem.MeetsSeq2 PySem.MeetsSeq3
end
section
variable {prog : Program} {w : World} {A : Around} {E : Value → Shared → Prop} {s : Shared}
def sIx (n d : Nat) : Option Int → Nat
  | none => d
  | some v => if v < 0 then (v + (n : Int)).toNat else min v.toNat n
theorem sIx_none (n d : Nat) : sIx n d none = d := rfl
theorem sIx_nat (n d k : Nat) : sIx n d (some (k : Int)) = min k n := by
  show (if (k : Int) < 0 then ((k : Int) + (n : Int)).toNat else min (k : Int).toNat n) = min k n
  rw [if_neg (by omega), Int.toNat_natCast]
theorem sIx_le (n d : Nat) (hd : d ≤ n) (o : Option Int) : sIx n d o ≤ n := by
  cases o with
  | none => exact hd
  | some v =>
    show (if v < 0 then (v + (n : Int)).toNat else min v.toNat n) ≤ n
    by_cases hv : v < 0
    · rw [if_pos hv]; omega
    · rw [if_neg hv]; exact Nat.min_le_right _ _
end
end HT
namespace L2
open PySem PySem.Spec PyProof.Rows
abbrev TO := St → Hp → (Option Int → Hp → Prop) → Prop
def PO (X : Cx) (e : Option Expr) (t : TO) : Prop :=
  ∀ (pins : List (Addr × Obj)) (s : Shared) (σ : St) (H : Hp) (Q : Option Int → Hp → Prop), Inv X pins σ H s → t σ H Q →
    wpAny (model X.prog X.w) X.A (evalPart e X.env) (fun u s' => ∃ o H', Inv X pins σ H' s' ∧ IsPart u o ∧ Q o H') X.xe s
def tNoPart : TO := fun _ H Q => Q none H
def tPart (t : TE) : TO := fun σ H Q => t σ H fun x H1 => ∃ i, x = .int i ∧ Q (some i) H1
section
variable {X : Cx} {e : Expr} {te : TE} {lo hi : Option Expr} {tl th : TO} {pos p2 : Pos}
theorem po_none : PO X none tNoPart := by
  intro pins s σ H Q I h
  rw [evalPart_none]
  exact wpAny_pure ⟨none, H, I, .none, h⟩
theorem po_some (h : PE X e te) : PO X (some e) (tPart te) := by
  intro pins s σ H Q I hw
  rw [evalPart_some]
  refine thn (h pins s σ H _ I hw) fun u s1 ⟨x, H1, I1, r1, q1⟩ => ?_
  obtain ⟨i, rfl, q⟩ := q1
  obtain ⟨t, rfl⟩ := r1
  exact ⟨some i, H1, I1, .int i t, q⟩
def SlR (X : Cx) (r : V → Option Int → Option Int → Hp → VK → Prop) : Prop :=
  ∀ (pins : List (Addr × Obj)) (s : Shared) (σ : St) (H : Hp) (x : V) (v vl vu : Value) (lo hi : Option Int) (sl : Addr) (Q : VK), Inv X pins σ H s → RelV x v → s.heap.IsSliceOf sl vl vu .none → IsPart vl lo → IsPart vu hi → r x lo hi H Q →
    ∃ T id, typeLookup (.type T) "__getitem__" = pure (some (.builtin id)) ∧ s.TypeIs v T ∧ wpAny (model X.prog X.w) X.A (getItem v (.ref sl)) (EP X pins σ Q) X.xe s
def tSl (r : V → Option Int → Option Int → Hp → VK → Prop) (te : TE) (tl th : TO) : TE := fun σ H Q => te σ H fun x H1 => tl σ H1 fun l H2 => th σ H2 fun u H3 => r x l u H3 Q
theorem pe_slice {r : V → Option Int → Option Int → Hp → VK → Prop} (hr : SlR X r) (he : PE X e te) (hl : PO X lo tl) (hu : PO X hi th) : PE X (.Subscript e (.Slice lo hi none p2) pos) (tSl r te tl th) := by
  intro pins s σ H Q I h
  refine Subscript_ (thn (he pins s σ H _ I h) fun v s1 ⟨x, H1, I1, r1, q1⟩ => ?_)
  refine wpAny_Slice (thn (hl pins s1 σ H1 _ I1 q1) fun vl s2 ⟨l, H2, I2, pl, q2⟩ => thn (hu pins s2 σ H2 _ I2 q2) fun vu s3 ⟨u, H3, I3, pu, q3⟩ => ?_)
  rw [evalPart_none]
  refine wpAny_pure ?_
  have I4 : Inv X pins σ H3 { s3 with heap := s3.heap.push { cls := .type "slice", data := .fields #[vl, vu, .none] } } := I3.kept (t' := s3.toks) fun b ob q => Heap.get?_push_of_some _ q
  obtain ⟨T, id, hT, ht, hg⟩ := hr pins { s3 with heap := s3.heap.push { cls := .type "slice", data := .fields #[vl, vu, .none] } } σ H3 x v vl vu l u s3.heap.objs.size Q I4 r1 (Heap.IsSliceOf.new ..) pl pu q3
  show wpAny (model X.prog X.w) X.A (subscriptTail e (.Slice lo hi none p2) v (.ref s3.heap.objs.size)) (EP X pins σ Q) X.xe { s3 with heap := s3.heap.push { cls := .type "slice", data := .fields #[vl, vu, .none] } }
  exact tail_any (ops := [.ref s3.heap.objs.size, v]) ht hT hg (by with_unfolding_all rfl)
def cutV (xs : List V) (lo hi : Option Int) : List V := (xs.drop (HT.sIx xs.length 0 lo)).take (HT.sIx xs.length xs.length hi - HT.sIx xs.length 0 lo)
theorem cutV_length (xs : List V) (lo hi : Option Int) : (cutV xs lo hi).length ≤ xs.length := by
  unfold cutV
  rw [List.length_take, List.length_drop]
  omega
def rSlT (K : PySem.W.Frag) : V → Option Int → Option Int → Hp → VK → Prop := fun x lo hi H Q => ∃ a xs, x = .ref a ∧ SqT K H a xs ∧
  ¬ (HT.sIx xs.length 0 lo = 0 ∧ HT.sIx xs.length xs.length hi = xs.length) ∧ ∀ p, H p = none → Q (.ref p) (upd H p (.tup (cutV xs lo hi)))
def rLtT (K : PySem.W.Frag) : R2 := fun x y H Q => ∃ a b ns ms, x = .ref a ∧ y = .ref b ∧ SqT K H a (ns.map V.int) ∧ SqT K H b (ms.map V.int) ∧ Q (.bl (HT.lexLt ns ms)) H
def rCatT (K : PySem.W.Frag) : R2 := fun x y H Q => ∃ a b xs ys, x = .ref a ∧ y = .ref b ∧ SqT K H a xs ∧ SqT K H b ys ∧ xs ≠ [] ∧ xs.length + ys.length ≤ sizeLine ∧
  (ys = [] → Q (.ref a) H) ∧ (ys ≠ [] → ∀ p, H p = none → Q (.ref p) (upd H p (.tup (xs ++ ys))))
end
end L2
namespace L2
open PySem PySem.Spec PyProof.Rows
def ixN (n : Nat) (i : Int) : Option Nat := if 0 ≤ i then (if i < n then some i.toNat else none) else if -(n : Int) ≤ i then some (i + n).toNat else none
def atI {α : Type} (xs : List α) (i : Int) : Option α := (ixN xs.length i).bind fun j => xs[j]?
theorem ixN_seq {n : Nat} {i : Int} {j : Nat} (h : ixN n i = some j) : seqIndex? i n = some j ∧ j < n ∧ -(n : Int) ≤ i ∧ i < n := by
  unfold ixN at h
  by_cases h0 : 0 ≤ i
  · rw [if_pos h0] at h
    by_cases h1 : i < n
    · rw [if_pos h1] at h
      have e : i.toNat = j := Option.some.inj h
      exact ⟨by rw [seqIndex_of h0 h1, e], by omega, by omega, h1⟩
    · rw [if_neg h1] at h; cases h
  · rw [if_neg h0] at h
    by_cases h1 : -(n : Int) ≤ i
    · rw [if_pos h1] at h
      have e : (i + n).toNat = j := Option.some.inj h
      exact ⟨by rw [seqIndex_neg (by omega) h1, e], by omega, h1, by omega⟩
    · rw [if_neg h1] at h; cases h
theorem atI_get {α : Type} {xs : List α} {i : Int} {v : α} (h : atI xs i = some v) : ∃ j, seqIndex? i xs.length = some j ∧ xs[j]? = some v ∧ j < xs.length ∧ -(xs.length : Int) ≤ i ∧ i < xs.length := by
  unfold atI at h
  cases e : ixN xs.length i with
  | none => rw [e] at h; cases h
  | some j =>
    rw [e] at h
    obtain ⟨h1, h2, h3, h4⟩ := ixN_seq e
    exact ⟨j, h1, h, h2, h3, h4⟩
theorem atI_nat {α : Type} {xs : List α} {j : Nat} {v : α} (h : xs[j]? = some v) : atI xs (j : Int) = some v := by
  have hj : j < xs.length := (List.getElem?_eq_some_iff.mp h).1
  have e : ixN xs.length (j : Int) = some j := by
    unfold ixN
    rw [if_pos (by omega), if_pos (by omega)]; simp
  unfold atI; rw [e]; exact h
theorem atI_last {α : Type} (xs : List α) (v : α) : atI (xs ++ [v]) (-1) = some v := by
  have hl : (xs ++ [v]).length = xs.length + 1 := by simp
  have e : ixN (xs ++ [v]).length (-1) = some xs.length := by
    unfold ixN
    rw [hl, if_neg (by decide), if_pos (by omega)]
    congr 1
    omega
  unfold atI
  rw [e]
  show (xs ++ [v])[xs.length]? = some v
  simp
def PlainIx (b : Expr) : Prop := ∀ o i, subscripted b false o i = operate [o, i] (getItem o i)
def IxR (X : Cx) (r : R2) : Prop :=
  ∀ (value slice : Expr) (pins : List (Addr × Obj)) (s : Shared) (σ : St) (H : Hp) (x y : V) (v u : Value) (Q : VK), Inv X pins σ H s → RelV x v → RelV y u → r x y H Q →
    subscripted slice false v u = operate [v, u] (getItem v u) → wpAny (model X.prog X.w) X.A (subscriptTail value slice v u) (EP X pins σ Q) X.xe s
def MtR (X : Cx) (id : String) (r : V → List V → Hp → VK → Prop) : Prop :=
  ∀ (pins : List (Addr × Obj)) (s : Shared) (σ : St) (H : Hp) (x : V) (xs : List V) (v : Value) (us : List Value) (Q : VK), Inv X pins σ H s → RelV x v → Vals xs us → r x xs H Q →
    wpAny (model X.prog X.w) X.A (call (.builtin id) (v :: us)) (EP X pins σ Q) X.xe s
section
variable {X : Cx} {a b : Expr} {ta tb : TE} {pos : Pos}
theorem pe_ix {r : R2} (hr : IxR X r) (ha : PE X a ta) (hb : PE X b tb) (hs : PlainIx b) : PE X (.Subscript a b pos) (tOp r ta tb) := by
  intro pins s σ H Q I h
  exact Subscript_ (binT ha hb I h fun v u s2 x y H2 I2 rx ry q => hr a b pins s2 σ H2 x y v u Q I2 rx ry q (hs _ _))
def rIxL (K : PySem.W.Frag) : R2 := fun x y H Q => ∃ p xs i v, x = .ref p ∧ y = .int i ∧ SqL K H p xs ∧ atI xs i = some v ∧ Q v H
def rIxT (K : PySem.W.Frag) : R2 := fun x y H Q => ∃ p xs i v, x = .ref p ∧ y = .int i ∧ SqT K H p xs ∧ atI xs i = some v ∧ Q v H
def rIxS : R2 := fun x y H Q => ∃ z i c, x = .str z ∧ y = .int i ∧ z.length ≤ sizeLine ∧ atI z.cps.toList i = some c ∧ Q (.str ⟨#[c]⟩) H
theorem ix_list : IxR X (rIxL X.K) := by
  intro value slice pins s σ H x y v u Q I rx ry h hs
  obtain ⟨p, xs, i, z, rfl, rfl, hq, he, q⟩ := h
  cases rx
  obtain ⟨t, rfl⟩ := ry
  obtain ⟨its, r, pl, hz⟩ := I.list hq
  obtain ⟨j, h1, h2, h3, h4, h5⟩ := atI_get he
  obtain ⟨w, ew, rw'⟩ := r.get h2
  have hl := r.length
  have hn := line63
  have fin : EP X pins σ Q w s := ⟨z, H, I, rw', q⟩
  by_cases h0 : 0 ≤ i
  · have hj : i.toNat = j := by
      rw [seqIndex_of h0 h5] at h1
      exact Option.some.inj h1
    exact item_listR pl.isList h0 (by omega) (by rw [hj]; simpa using ew) fin hs
  · have hj : (i + (its.toArray.size : Int)).toNat = j := by
      rw [seqIndex_neg (by omega) h4] at h1
      rw [List.size_toArray, ← hl]
      exact Option.some.inj h1
    exact subscriptTail_builtinR (x := w) pl.isList.typeIs slot_list_getitem.lookup
      (wpAny_getItem_list_neg (Q := fun r s' => r = w ∧ EP X pins σ Q r s') pl.isList (by omega) (by rw [List.size_toArray] <;> omega) (by omega) (by rw [hj]; simpa using ew) ⟨rfl, fin⟩) hs
theorem ix_tup : IxR X (rIxT X.K) := by
  intro value slice pins s σ H x y v u Q I rx ry h hs
  obtain ⟨p, xs, i, z, rfl, rfl, hq, he, q⟩ := h
  cases rx
  obtain ⟨t, rfl⟩ := ry
  obtain ⟨its, r, pl, hz⟩ := I.tuple hq
  obtain ⟨j, h1, h2, h3, h4, h5⟩ := atI_get he
  obtain ⟨w, ew, rw'⟩ := r.get h2
  have hl := r.length
  have hn := line63
  have fin : EP X pins σ Q w s := ⟨z, H, I, rw', q⟩
  exact subscriptTail_builtinR (x := w) pl.typeIs slot_tuple_getitem.lookup
    (getItem_tuple (j := j) (Q := fun r s' => r = w ∧ EP X pins σ Q r s') pl (by omega) (by omega) (by rw [List.size_toArray, ← hl]; exact h1) (by simpa using ew) ⟨rfl, fin⟩) hs
theorem ix_str : IxR X rIxS := by
  intro value slice pins s σ H x y v u Q I rx ry h hs
  obtain ⟨z, i, c, rfl, rfl, hz, he, q⟩ := h
  obtain ⟨t, rfl⟩ := rx
  obtain ⟨t', rfl⟩ := ry
  obtain ⟨j, h1, h2, h3, h4, h5⟩ := atI_get he
  have hl : z.cps.toList.length = z.length := by simp [Str.length]
  rw [hl] at h1 h4 h5
  have hn := line63
  exact tail_any (typeIs_str s z t) slot_str_getitem.lookup (getItem_str (c := c) (by
    have e1 : decide (i < -(2 ^ 63 : Int)) = false := decide_eq_false (by omega)
    have e2 : decide (i ≥ 2 ^ 63) = false := decide_eq_false (by omega)
    rw [e1, e2, Bool.or_false]) (by rw [h1]; simpa using h2) ⟨.str ⟨#[c]⟩, H, I.tok _, ⟨_, rfl⟩, q⟩) hs
def rIx (K : PySem.W.Frag) : R2 := fun x y H Q => rIxL K x y H Q ∨ rIxT K x y H Q ∨ rIxS x y H Q
def rSetL : V → V → V → Hp → (Hp → Prop) → Prop := fun o i v H Q => ∃ p xs k j, o = .ref p ∧ i = .int k ∧ H p = some (.lst xs) ∧ ixN xs.length k = some j ∧ Q (upd H p (.lst (xs.set j v)))
theorem slice_bounds (lo hi : Option Int) (n : Nat) : (sliceBounds lo hi none n).1 = ((HT.sIx n 0 lo : Nat) : Int) ∧ (sliceBounds lo hi none n).2.1 = ((HT.sIx n n hi : Nat) : Int) ∧ (sliceBounds lo hi none n).2.2 = 1 := by
  refine ⟨?_, ?_, rfl⟩
  · cases lo with
    | none => simp [sliceBounds, HT.sIx]
    | some i =>
      simp only [sliceBounds, HT.sIx, Option.getD_none, show (1 : Int) > 0 by decide, if_true]
      by_cases h : i < 0
      · simp only [h, if_true] <;> omega
      · simp only [h, if_false] <;> omega
  · cases hi with
    | none => simp [sliceBounds, HT.sIx]
    | some i =>
      simp only [sliceBounds, HT.sIx, Option.getD_none, show (1 : Int) > 0 by decide, if_true]
      by_cases h : i < 0
      · simp only [h, if_true] <;> omega
      · simp only [h, if_false] <;> omega
theorem slicePick_cut (its : List Value) (lo hi : Option Int) : slicePick its.toArray lo hi none = ((its.drop (HT.sIx its.length 0 lo)).take (HT.sIx its.length its.length hi - HT.sIx its.length 0 lo)).toArray := by
  obtain ⟨h1, h2, h3⟩ := slice_bounds lo hi its.toArray.size
  unfold slicePick
  rw [h1, h2, h3]
  simp only [sliceRange_one, pick_run, List.size_toArray] <;> rfl
def rSlL (K : PySem.W.Frag) : V → Option Int → Option Int → Hp → VK → Prop := fun x lo hi H Q => ∃ a xs, x = .ref a ∧ SqL K H a xs ∧ ∀ p, H p = none → Q (.ref p) (upd H p (.lst (cutV xs lo hi)))
theorem sl_list : SlR X (rSlL X.K) := by
  intro pins s σ H x v vl vu lo hi sl Q I rx hs pl pu h
  obtain ⟨a, xs, rfl, hx, q⟩ := h
  cases rx
  obtain ⟨its, r, ht, hz⟩ := I.list hx
  have hlen := r.length
  refine ⟨"list", _, slot_list_getitem.lookup, ht.isList.typeIs, ?_⟩
  refine wpAny_getItem_list_slice ht.isList hs pl pu .none (by simp) ?_ (by rw [List.size_toArray] <;> omega)
  rw [slicePick_cut, ← hlen]
  refine ⟨.ref s.heap.objs.size, _, I.laid (t' := s.toks) (o := .lst (cutV xs lo hi)) (fun b ob q => Heap.get?_push_of_some _ q) (Nat.le_refl _) ?_, rfl, q _ (I.hok.fresh (Nat.le_refl _))⟩
  exact ⟨Nat.le_trans (cutV_length xs lo hi) hz, _, 0, (r.drop (HT.sIx xs.length 0 lo)).take (HT.sIx xs.length xs.length hi - HT.sIx xs.length 0 lo), Heap.get?_push_size _ rfl⟩
def flatV : V → Bool
  | .non => true
  | .bl _ => true
  | .int _ => true
  | .str _ => true
  | _ => false
def eqV : V → V → Bool
  | .non, .non => true
  | .bl a, .bl b => a == b
  | .bl a, .int b => (if a then 1 else 0) == b
  | .int a, .bl b => a == (if b then 1 else 0)
  | .int a, .int b => a == b
  | .str a, .str b => a == b
  | _, _ => false
theorem eqAt_V {A : Around} {s : Shared} {y x : V} {u v : Value} (ry : RelV y u) (rx : RelV x v) (fy : flatV y = true) (fx : flatV x = true) : SeqAt.EqAt A s u v (eqV y x) := by
  cases y with
  | non =>
    cases ry
    cases x with
    | non => cases rx; exact SeqAt.EqAt.same _
    | bl b => cases rx; exact SeqAt.EqAt.none_bool b
    | int b => obtain ⟨t, rfl⟩ := rx; exact SeqAt.EqAt.none_int b t
    | str b => obtain ⟨t, rfl⟩ := rx; exact SeqAt.EqAt.none_str b t
    | _ => exact absurd (show false = true from fx) Bool.false_ne_true
  | bl a =>
    cases ry
    cases x with
    | non => cases rx; exact SeqAt.EqAt.bool_none a
    | bl b => cases rx; exact SeqAt.EqAt.bool_bool a b
    | int b => obtain ⟨t, rfl⟩ := rx; exact SeqAt.EqAt.bool_int a b t
    | str b => obtain ⟨t, rfl⟩ := rx; exact SeqAt.EqAt.bool_str a b t
    | _ => exact absurd (show false = true from fx) Bool.false_ne_true
  | int a =>
    obtain ⟨t', rfl⟩ := ry
    cases x with
    | non => cases rx; exact SeqAt.EqAt.int_none a t'
    | bl b => cases rx; exact SeqAt.EqAt.int_bool a t' b
    | int b => obtain ⟨t, rfl⟩ := rx; exact SeqAt.EqAt.int_int a t' b t
    | str b => obtain ⟨t, rfl⟩ := rx; exact SeqAt.EqAt.int_str a t' b t
    | _ => exact absurd (show false = true from fx) Bool.false_ne_true
  | str a =>
    obtain ⟨t', rfl⟩ := ry
    cases x with
    | non => cases rx; exact SeqAt.EqAt.str_none a t'
    | bl b => cases rx; exact SeqAt.EqAt.str_bool a t' b
    | int b => obtain ⟨t, rfl⟩ := rx; exact SeqAt.EqAt.str_int a t' b t
    | str b => obtain ⟨t, rfl⟩ := rx; exact SeqAt.EqAt.str_str a t' b t
    | _ => exact absurd (show false = true from fx) Bool.false_ne_true
  | _ => exact absurd (show false = true from fy) Bool.false_ne_true
def eqU (x : V) (u : Value) : Bool := match u with
  | .none => eqV .non x
  | .bool b => eqV (.bl b) x
  | .int i _ => eqV (.int i) x
  | .str z _ => eqV (.str z) x
  | _ => false
theorem eqU_of {x y : V} {u : Value} (r : RelV y u) (f : flatV y = true) : eqU x u = eqV y x := by
  cases y with
  | non => cases r; rfl
  | bl b => cases r; rfl
  | int i => obtain ⟨t, rfl⟩ := r; rfl
  | str z => obtain ⟨t, rfl⟩ := r; rfl
  | _ => exact absurd (show false = true from f) Bool.false_ne_true
theorem any_eqU {x : V} : ∀ {xs : List V} {us : List Value}, Vals xs us → xs.all flatV = true → us.any (eqU x) = xs.any fun y => eqV y x
  | _, _, .nil, _ => rfl
  | y :: xs, u :: us, .cons r t, f => by
    rw [List.all_cons, Bool.and_eq_true] at f
    rw [List.any_cons, List.any_cons, eqU_of r f.1, any_eqU t f.2]
theorem mem_eqAt {A : Around} {s : Shared} {x : V} {v : Value} (rx : RelV x v) (fx : flatV x = true) : ∀ {xs : List V} {us : List Value}, Vals xs us → xs.all flatV = true → ∀ u ∈ us, SeqAt.EqAt A s u v (eqU x u)
  | _, _, .nil, _ => fun u hu => by cases hu
  | y :: xs, u :: us, .cons r t, f => fun u' hu => by
    rw [List.all_cons, Bool.and_eq_true] at f
    rcases List.mem_cons.mp hu with rfl | hu
    · rw [eqU_of r f.1]; exact eqAt_V r rx f.1 fx
    · exact mem_eqAt rx fx t f.2 u' hu
def inV (x : V) (xs : List V) : Bool := xs.any fun y => eqV y x
def rIn (K : PySem.W.Frag) (neg : Bool) : R2 := fun x y H Q => ∃ p xs, y = .ref p ∧ (SqL K H p xs ∨ SqT K H p xs) ∧ flatV x = true ∧ xs.all flatV = true ∧ Q (.bl (if neg then !inV x xs else inV x xs)) H
theorem op_in_seq : OpR X (compareOp .In) (rIn X.K false) := by
  intro pins s σ H x y v u Q I rx ry h
  obtain ⟨p, xs, rfl, hq, fx, fs, q⟩ := h
  cases ry
  rcases hq with hq | hq
  · obtain ⟨its, r, pl, hz⟩ := I.list hq
    refine SeqAt.in_listAt (eqU x) pl.isList (fun w hw => mem_eqAt rx fx r fs w (by simpa using hw)) ⟨.bl _, H, I, rfl, ?_⟩
    rw [show its.toArray.any (eqU x) = its.any (eqU x) by simp, any_eqU r fs]
    exact q
  · obtain ⟨its, r, pl, hz⟩ := I.tuple hq
    refine SeqAt.in_tupleAt (eqU x) pl (fun w hw => mem_eqAt rx fx r fs w (by simpa using hw)) ⟨.bl _, H, I, rfl, ?_⟩
    rw [show its.toArray.any (eqU x) = its.any (eqU x) by simp, any_eqU r fs]
    exact q
theorem op_notIn_seq : OpR X (compareOp .NotIn) (rIn X.K true) := by
  intro pins s σ H x y v u Q I rx ry h
  obtain ⟨p, xs, rfl, hq, fx, fs, q⟩ := h
  cases ry
  rcases hq with hq | hq
  · obtain ⟨its, r, pl, hz⟩ := I.list hq
    refine SeqAt.notIn_listAt (eqU x) pl.isList (fun w hw => mem_eqAt rx fx r fs w (by simpa using hw)) ⟨.bl _, H, I, rfl, ?_⟩
    rw [show its.toArray.any (eqU x) = its.any (eqU x) by simp, any_eqU r fs]
    exact q
  · obtain ⟨its, r, pl, hz⟩ := I.tuple hq
    refine SeqAt.notIn_tupleAt (eqU x) pl (fun w hw => mem_eqAt rx fx r fs w (by simpa using hw)) ⟨.bl _, H, I, rfl, ?_⟩
    rw [show its.toArray.any (eqU x) = its.any (eqU x) by simp, any_eqU r fs]
    exact q
theorem call_list_of : CallR X (.type "list") (fun xs H Q => ∃ p ys, xs = [.ref p] ∧ (SqL X.K H p ys ∨ SqT X.K H p ys) ∧ ∀ l, H l = none → Q (.ref l) (upd H l (.lst ys))) := by
  intro pins s σ H xs us Q I r h
  obtain ⟨p, ys, rfl, hq, q⟩ := h
  obtain ⟨u, rfl, rx⟩ := vals1 r
  cases rx
  have fin : ∀ (its : List Value), Vals ys its → ys.length ≤ sizeLine → ∀ (h' : Heap) (c' : Nat), (∀ b o', s.heap.get? b = some o' → h'.get? b = some o') →
      h'.get? s.heap.objs.size = some { cls := .type "list", dict := none, data := .seq its.toArray c', slots := #[] } → EP X pins σ Q (.ref s.heap.objs.size) { s with heap := h' } := fun its r' hz h' c' kp e =>
    ⟨.ref s.heap.objs.size, _, I.laid (t' := s.toks) kp (Nat.le_refl _) (show ObjOk X.prog X.w _ h' _ (.lst ys) from ⟨hz, its, c', r', e⟩), rfl, q _ (I.hok.fresh (Nat.le_refl _))⟩
  rcases hq with hq | hq
  · obtain ⟨its, r', pl, hz⟩ := I.list hq
    have hlen := r'.length
    obtain ⟨o, ho, hc, n, hd⟩ := pl.isList
    exact call_list_seq p (.inl rfl) ho hc hd (fun h' c' kp e => fin its r' hz h' c' kp e) (by simp only [List.size_toArray] <;> omega)
  · obtain ⟨its, r', pl, hz⟩ := I.tuple hq
    have hlen := r'.length
    obtain ⟨o, ho, hc, n, hd⟩ := pl
    exact call_list_seq p (.inr rfl) ho hc hd (fun h' c' kp e => fin its r' hz h' c' kp e) (by simp only [List.size_toArray] <;> omega)
def tyV (K : PySem.W.Frag) (T : String) (x : V) (H : Hp) : Prop := match x with
  | .str _ => T = "str"
  | .int _ => T = "int"
  | .ref p => (T = "list" ∧ ∃ xs, SqL K H p xs) ∨ (T = "tuple" ∧ ∃ o, K.lookup p = some o ∧ o.cls = .type "tuple" ∧ o.dict = none) ∨
      (T = "dict" ∧ ((∃ kvs, H p = some (.dK kvs)) ∨ ∃ kvs, H p = some (.dT kvs))) ∨ (T = "set" ∧ ∃ S n, H p = some (.set S n))
  | _ => False
theorem tyV_is {pins : List (Addr × Obj)} {σ : St} {H : Hp} {s : Shared} {T : String} {x : V} {v : Value} (I : Inv X pins σ H s) (r : RelV x v) (ty : tyV X.K T x H) :
    s.TypeIs v T ∧ ∀ a, v = .ref a → ∃ ob, s.heap.get? a = some ob ∧ ob.dict = none := by
  cases x with
  | str z =>
    obtain ⟨t, rfl⟩ := r
    cases (show T = "str" from ty)
    exact ⟨typeIs_str s z t, fun _ e => nomatch e⟩
  | int i =>
    obtain ⟨t, rfl⟩ := r
    cases (show T = "int" from ty)
    exact ⟨typeIs_int s i t, fun _ e => nomatch e⟩
  | ref p =>
    cases r
    rcases ty with ⟨rfl, xs, hq⟩ | ⟨rfl, o, hk, hc, hd⟩ | ⟨rfl, hk⟩ | ⟨rfl, S, n, hk⟩
    · obtain ⟨its, _, pl, _⟩ := I.list hq
      refine ⟨pl.isList.typeIs, fun a e => ?_⟩
      cases e
      obtain ⟨o, n, e, c, hd, _⟩ := pl
      exact ⟨o, e, hd⟩
    · refine ⟨⟨o, I.kIn p o hk, hc⟩, fun a e => ?_⟩
      cases e
      exact ⟨o, I.kIn _ o hk, hd⟩
    · have z : ∃ o, s.heap.get? p = some o ∧ o.ExactDict := by
        rcases hk with ⟨kvs, hk⟩ | ⟨kvs, hk⟩
        · obtain ⟨_, _, _, _, o, _, _, e, ex, _⟩ := I.hok p _ hk
          exact ⟨o, e, ex⟩
        · obtain ⟨_, _, _, _, o, _, _, e, ex, _⟩ := I.hok p _ hk
          exact ⟨o, e, ex⟩
      obtain ⟨o, e, ex⟩ := z
      refine ⟨⟨o, e, ex.1⟩, fun a e2 => ?_⟩
      cases e2
      exact ⟨o, e, ex.2.1⟩
    · obtain ⟨o, _, _, _, e, ex, _⟩ := I.hok p _ hk
      refine ⟨⟨o, e, ex.1⟩, fun a e2 => ?_⟩
      cases e2
      exact ⟨o, e, ex.2.1⟩
  | _ => exact False.elim ty
def tBM0 (K : PySem.W.Frag) (T : String) (r : V → List V → Hp → VK → Prop) (to : TE) : TE := fun σ H Q => to σ H fun x H1 => tyV K T x H1 ∧ r x [] H1 Q
def tBM (K : PySem.W.Frag) (T : String) (r : V → List V → Hp → VK → Prop) (to : TE) (t : TA) : TE := fun σ H Q => to σ H fun x H1 => tyV K T x H1 ∧ t σ H1 fun xs H2 => r x xs H2 Q
variable {o e : Expr} {es : List Expr} {to : TE} {t : TA} {name : Str} {apos cpos : Pos} {T id : String} {r : V → List V → Hp → VK → Prop}
theorem pe_bm (pa : PlainAttrs T) (slot : Slot T name id) (hty : typeOf (.builtin id) = pure (.type "method_descriptor")) (hm : MtR X id r) (ho : PE X o to) (ha : PA X (e :: es) t)
    (hbase : attributeBase o name X.env (eval o X.env) = eval o X.env := by rfl)
    (hfew : ((backTo cpos (starEach (e :: es) X.env)).all (fun x => !x.1) && (backToKw cpos (keywordEach [] X.env)).all (fun x => x.1.isSome)
      && decide ((e :: es).length + ([] : List Keyword).length + (if ([] : List Keyword).isEmpty then 0 else 1) < 30)) = true := by rfl)
    (hline : (apos.endLine == cpos.line) = true := by rfl) (hs : starEach (e :: es) X.env = (false, eval e X.env) :: starEach es X.env := by rfl) (hplain : (backTo cpos (starEach es X.env)).any (·.1) = false := by rfl) :
    PE X (.Call (.Attribute o name apos) (e :: es) [] cpos) (tBM X.K T r to t) := by
  intro pins s σ H Q I h
  refine wpAny_Call_method_late hbase hfew hline rfl (thn (ho pins s σ H _ I h) fun v s1 ⟨x, H1, I1, r1, ty, q1⟩ => ?_)
  obtain ⟨h1, h2⟩ := tyV_is I1 r1 ty
  refine ⟨T, id, pa, slot, hty, h1, h2, ?_⟩
  have hA := ha cpos pins s1 σ H1 _ I1 q1
  rw [hs] at hA ⊢
  refine Calls.callWith_builtin (by show (false || (backTo cpos (starEach es X.env)).any (·.1)) = false; rw [hplain] <;> rfl) (Calls.evalArgs_plain ?_)
  exact thn hA fun us s2 ⟨vs, H2, I2, r2, q2⟩ => hm pins s2 σ H2 x vs v us Q I2 r1 r2 q2
end
end L2
namespace L2
open PySem PySem.Spec PyProof.Rows
def MtM (X : Cx) (id : String) (r : V → List V → Hp → VK → Prop) : Prop :=
  ∀ (pins : List (Addr × Obj)) (s : Shared) (σ : St) (H : Hp) (x : V) (xs : List V) (v : Value) (us : List Value) (Q : VK), Inv X pins σ H s → RelV x v → Vals xs us → r x xs H Q →
    wpAny (model X.prog X.w) X.A (call (.builtin id) (v :: us)) (EP X pins σ Q) X.xe s
theorem Vals.one : ∀ {x : V} {us : List Value}, Vals [x] us → ∃ u, us = [u] ∧ RelV x u
  | _, _, .cons r .nil => ⟨_, rfl, r⟩
theorem Vals.reverse {xs : List V} {us : List Value} (h : Vals xs us) : Vals xs.reverse us.reverse := by
  induction h with
  | nil => exact .nil
  | cons r t ih => rw [List.reverse_cons, List.reverse_cons]; exact Vals.append ih (.cons r .nil)
section
variable {X : Cx} {pins : List (Addr × Obj)} {σ : St} {H : Hp} {s : Shared} {l b : Addr} {xs ys zs : List V}
theorem Inv.lset {its its' : List Value} {n : Nat} {f : Array Value → Array Value} {t' : Nat} (I : Inv X pins σ H s) (hH : H l = some (.lst xs))
    (e : s.heap.get? l = some { cls := .type "list", data := .seq its.toArray n }) (hf : f its.toArray = its'.toArray) (hv : Vals ys its') (hz : ys.length ≤ sizeLine) :
    Inv X pins σ (upd H l (.lst ys)) { s with heap := s.heap.update l (Obj.mapSeq f), toks := t' } := by
  have q := PySem.IsL.update e f
  rw [hf] at q
  refine I.write (x := l) (e := l) (by rw [hH]; exact trivial) (.inl rfl) (fun b' u hb hu => (Heap.get?_update_other s.heap (Obj.mapSeq f) (Ne.symm hb)).trans hu) ⟨_, q⟩ ?_
  exact ⟨hz, its', _, hv, q⟩
theorem Inv.lnew {its : List Value} {t' : Nat} (I : Inv X pins σ H s) (hv : Vals ys its) (hz : ys.length ≤ sizeLine) :
    Inv X pins σ (upd H s.heap.objs.size (.lst ys)) { s with heap := s.heap.push { cls := .type "list", data := .seq its.toArray }, toks := t' } :=
  I.laid (fun _ _ q => Heap.get?_push_of_some _ q) (Nat.le_refl _) ⟨hz, its, 0, hv, Heap.get?_push_size _ rfl⟩
theorem Inv.fresh (I : Inv X pins σ H s) : H s.heap.objs.size = none := I.hok.fresh (Nat.le_refl _)
theorem Inv.lstM (I : Inv X pins σ H s) (hH : H l = some (.lst xs)) : xs.length ≤ sizeLine ∧ ∃ (its : List Value) (n : Nat), Vals xs its ∧ xs.length = its.length ∧ s.heap.get? l = some { cls := .type "list", data := .seq its.toArray n } := by
  obtain ⟨z, its, n, r, e⟩ := I.hok l _ hH
  exact ⟨z, its, n, r, r.length, e⟩
end
section
variable {X : Cx}
def rAppend : V → List V → Hp → VK → Prop := fun x vs H Q => ∃ l xs y, x = .ref l ∧ vs = [y] ∧ H l = some (.lst xs) ∧ xs.length < sizeLine ∧ Q .non (upd H l (.lst (xs ++ [y])))
theorem mt_append : MtM X "list.append" rAppend := by
  intro pins s σ H x vs v us Q I rx rv h
  obtain ⟨l, xs, y, rfl, rfl, hH, hz, q⟩ := h
  cases rx
  obtain ⟨u, rfl, ru⟩ := rv.one
  obtain ⟨z, its, n, r, hl, e⟩ := I.lstM hH
  refine call_meets F.slot_list_append ⟨_, e, rfl⟩ F.entry_list_append (F.args_list_append_2 _ _) (PySem.list_append l its.toArray n u (by rw [List.size_toArray]; omega)) ⟨e, ?_⟩
  refine ⟨.non, _, I.lset (its' := its ++ [u]) hH e (by simp) (r.append (.cons ru .nil)) ?_, rfl, q⟩
  rw [List.length_append, List.length_singleton]
  omega
def rExtend : V → List V → Hp → VK → Prop := fun x vs H Q => ∃ l b xs zs, x = .ref l ∧ vs = [.ref b] ∧ H l = some (.lst xs) ∧ H b = some (.lst zs) ∧ xs.length + zs.length ≤ sizeLine ∧ Q .non (upd H l (.lst (xs ++ zs)))
def rPop : V → List V → Hp → VK → Prop := fun x vs H Q => ∃ l xs y, x = .ref l ∧ vs = [] ∧ H l = some (.lst xs) ∧ xs[xs.length - 1]? = some y ∧ Q y (upd H l (.lst xs.dropLast))
def rPopAt : V → List V → Hp → VK → Prop := fun x vs H Q => ∃ l xs i k y, x = .ref l ∧ vs = [.int i] ∧ H l = some (.lst xs) ∧ -(2 ^ 63) ≤ i ∧ i < 2 ^ 63 ∧ seqIndex? i xs.length = some k ∧ xs[k]? = some y ∧ Q y (upd H l (.lst (xs.eraseIdx k)))
def rReverse : V → List V → Hp → VK → Prop := fun x vs H Q => ∃ l xs, x = .ref l ∧ vs = [] ∧ H l = some (.lst xs) ∧ Q .non (upd H l (.lst xs.reverse))
def rClear : V → List V → Hp → VK → Prop := fun x vs H Q => ∃ l xs, x = .ref l ∧ vs = [] ∧ H l = some (.lst xs) ∧ Q .non (upd H l (.lst []))
def rCat : R2 := fun x y H Q => ∃ l b xs zs, x = .ref l ∧ y = .ref b ∧ H l = some (.lst xs) ∧ H b = some (.lst zs) ∧ xs.length + zs.length ≤ sizeLine ∧ ∀ p, H p = none → Q (.ref p) (upd H p (.lst (xs ++ zs)))
def rRep : R2 := fun x y H Q => ∃ l k xs, x = .ref l ∧ y = .int k ∧ H l = some (.lst xs) ∧ -(2 ^ 63) ≤ k ∧ k < 2 ^ 63 ∧ xs.length * k.toNat ≤ sizeLine ∧
  ∀ p, H p = none → Q (.ref p) (upd H p (.lst (List.replicate k.toNat xs).flatten))
end
section
variable {prog : Program} {w : World} {A : Around} {E : Value → Shared → Prop} {s : Shared}
end
section
variable {X : Cx}
end
end L2
namespace L2
open PySem PySem.Spec PyProof.Rows
section
variable {κ : Type} [DecidableEq κ]
def valV (kvs : List (κ × V)) (k : κ) : Option V := (kvs.find? fun kv => decide (kv.1 = k)).map (·.2)
def putK (kvs : List (κ × V)) (k : κ) (v : V) : List (κ × V) :=
  if (kvs.any fun kv => decide (kv.1 = k)) = true then kvs.map (fun kv => if kv.1 = k then (kv.1, v) else kv) else kvs ++ [(k, v)]
def dropK (kvs : List (κ × V)) (k : κ) : List (κ × V) := kvs.filter fun kv => decide (kv.1 ≠ k)
theorem valV_pos {p : κ × V} {r : List (κ × V)} {k : κ} (e : p.1 = k) : valV (p :: r) k = some p.2 := by simp [valV, List.find?_cons, e]
theorem valV_neg {p : κ × V} {r : List (κ × V)} {k : κ} (e : ¬ p.1 = k) : valV (p :: r) k = valV r k := by simp [valV, List.find?_cons, e]
theorem valV_any (k : κ) : ∀ kvs : List (κ × V), (kvs.any fun kv => decide (kv.1 = k)) = (valV kvs k).isSome
  | [] => rfl
  | p :: r => by
    rw [List.any_cons]
    by_cases e : p.1 = k
    · simp only [valV_pos e, decide_eq_true e, Bool.true_or, Option.isSome_some]
    · rw [valV_neg e, decide_eq_false e, Bool.false_or]; exact valV_any k r
theorem valV_map (k j : κ) (y : V) : ∀ kvs : List (κ × V), valV (kvs.map fun kv => if kv.1 = k then (kv.1, y) else kv) j = (valV kvs j).map fun x => if j = k then y else x
  | [] => rfl
  | p :: r => by
    have ih := valV_map k j y r
    rw [List.map_cons]
    by_cases h : p.1 = k
    · rw [if_pos h]
      by_cases e : p.1 = j
      · rw [valV_pos (p := (p.1, y)) e, valV_pos e, Option.map_some, if_pos (e.symm.trans h)]
      · rw [valV_neg (p := (p.1, y)) e, valV_neg e, ih]
    · rw [if_neg h]
      by_cases e : p.1 = j
      · rw [valV_pos (p := p) e, valV_pos e, Option.map_some, if_neg (fun z => h (e.trans z))]
      · rw [valV_neg (p := p) e, valV_neg e, ih]
theorem valV_snoc (k j : κ) (y : V) : ∀ kvs : List (κ × V), valV kvs k = none → valV (kvs ++ [(k, y)]) j = if j = k then some y else valV kvs j
  | [], _ => by
    by_cases e : k = j
    · rw [if_pos e.symm]; exact valV_pos (p := (k, y)) e
    · rw [if_neg (fun z => e z.symm)]; exact valV_neg (p := (k, y)) e
  | p :: r, hn => by
    rw [List.cons_append]
    have hk : ¬ p.1 = k := fun z => by rw [valV_pos z] at hn; cases hn
    rw [valV_neg hk] at hn
    have ih := valV_snoc k j y r hn
    by_cases e : p.1 = j
    · rw [valV_pos e, valV_pos e, if_neg (fun z => hk (e.trans z))]
    · rw [valV_neg e, valV_neg e, ih]
theorem valV_put (kvs : List (κ × V)) (k j : κ) (y : V) : valV (putK kvs k y) j = if j = k then some y else valV kvs j := by
  unfold putK
  by_cases a : (kvs.any fun kv => decide (kv.1 = k)) = true
  · rw [if_pos a, valV_map]
    rw [valV_any] at a
    by_cases e : j = k
    · obtain ⟨x, hx⟩ := Option.isSome_iff_exists.mp a
      rw [if_pos e, e, hx, Option.map_some, if_pos rfl]
    · rw [if_neg e]
      cases valV kvs j with
      | none => rfl
      | some x => rw [Option.map_some, if_neg e]
  · rw [if_neg a]
    refine valV_snoc k j y kvs ?_
    rw [valV_any] at a
    cases q : valV kvs k with
    | none => rfl
    | some x => rw [q] at a; exact (a rfl).elim
theorem length_putK (kvs : List (κ × V)) (k : κ) (v : V) : (putK kvs k v).length ≤ kvs.length + 1 := by
  unfold putK
  split
  · rw [List.length_map]; omega
  · rw [List.length_append, List.length_cons, List.length_nil]; omega
theorem putK_new {kvs : List (κ × V)} {k : κ} (v : V) (h : valV kvs k = none) : putK kvs k v = kvs ++ [(k, v)] := by
  unfold putK
  rw [valV_any, h]
  exact if_neg (by decide)
theorem RelO.isSome_eq {o : Option V} {u : Option Value} (r : RelO o u) : o.isSome = u.isSome := by
  cases o with
  | none => cases u with
    | none => rfl
    | some _ => exact (show False from r).elim
  | some _ => cases u with
    | none => exact (show False from r).elim
    | some _ => rfl
theorem RelO.getD {o : Option V} {u : Option Value} {d : V} {d' : Value} (r : RelO o u) (rd : RelV d d') : RelV (o.getD d) (u.getD d') := by
  cases o with
  | none => cases u with
    | none => exact rd
    | some _ => exact (show False from r).elim
  | some _ => cases u with
    | none => exact (show False from r).elim
    | some _ => exact r
theorem KV.val {kvs : List (κ × V)} {vs : List (κ × Value)} (r : KV kvs vs) (k : κ) : RelO (valV kvs k) (valueAt vs k) := by
  unfold KV at r
  induction r with
  | nil => exact True.intro
  | @cons p q ps qs h t ih =>
    obtain ⟨h1, h2⟩ := h
    by_cases e : p.1 = k
    · have e' : q.1 = k := h1.symm.trans e
      have b : valueAt (q :: qs) k = some q.2 := by simp [valueAt, List.find?_cons, e']
      rw [valV_pos e, b]; exact h2
    · have e' : ¬ q.1 = k := fun z => e (h1.trans z)
      have b : valueAt (q :: qs) k = valueAt qs k := by simp [valueAt, List.find?_cons, e']
      rw [valV_neg e, b]; exact ih
theorem KV.any {kvs : List (κ × V)} {vs : List (κ × Value)} (r : KV kvs vs) (k : κ) : (kvs.any fun kv => decide (kv.1 = k)) = vs.any fun kv => decide (kv.1 = k) := by
  unfold KV at r
  induction r with
  | nil => rfl
  | cons h t ih => rw [List.any_cons, List.any_cons, ih, h.1]
theorem KV.repl {kvs : List (κ × V)} {vs : List (κ × Value)} (r : KV kvs vs) (k : κ) {y : V} {u : Value} (ry : RelV y u) :
    KV (kvs.map fun kv => if kv.1 = k then (kv.1, y) else kv) (vs.map fun kv => if kv.1 = k then (kv.1, u) else kv) := by
  unfold KV at r ⊢
  induction r with
  | nil => exact .nil
  | @cons p q ps qs h t ih =>
    rw [List.map_cons, List.map_cons]
    refine .cons ?_ ih
    obtain ⟨h1, h2⟩ := h
    by_cases e : p.1 = k
    · rw [if_pos e, if_pos (h1.symm.trans e)]; exact ⟨h1, ry⟩
    · rw [if_neg e, if_neg (fun z => e (h1.trans z))]; exact ⟨h1, h2⟩
theorem KV.put {kvs : List (κ × V)} {vs : List (κ × Value)} (r : KV kvs vs) (k : κ) {y : V} {u : Value} (ry : RelV y u) : KV (putK kvs k y) (stored vs k u) := by
  unfold putK stored
  rw [r.any k]
  by_cases e : (vs.any fun kv => decide (kv.1 = k)) = true
  · rw [if_pos e, if_pos e]; exact r.repl k ry
  · rw [if_neg e, if_neg e]; exact Paired.snoc r ⟨rfl, ry⟩
theorem KV.length {kvs : List (κ × V)} {vs : List (κ × Value)} (r : KV kvs vs) : kvs.length = vs.length := Paired.length r
end
theorem kV_is {P : Program} {w : World} {k : Key} {u : Value} (r : RelV (kV k) u) : (mixKind P w).is k u = true := by
  cases k with
  | inl i => obtain ⟨t, e⟩ := (show ∃ t, u = Value.int i t from r); subst e; exact mixKind_int P w i t
  | inr x => obtain ⟨t, e⟩ := (show ∃ t, u = Value.str x t from r); subst e; exact mixKind_str P w x t
theorem items_are {P : Program} {w : World} : ∀ {ks : List Key} {us : List Value}, Vals (ks.map kV) us → ItemsAre (mixKind P w) ks us
  | [], _, r => by rw [List.map_nil] at r; cases r; exact .nil
  | k :: ks, _, r => by
    rw [List.map_cons] at r
    cases r with
    | cons h t => exact .cons (kV_is h) (items_are t)
abbrev KT (H : Hp) : List (List Key × V) → List (List Key × Addr × Value) → Prop := Paired fun p q => p.1 = q.1 ∧ H q.2.1 = some (.tup (p.1.map kV)) ∧ RelV p.2 q.2.2
theorem KT.val {H : Hp} {kvs : List (List Key × V)} {xs : List (List Key × Addr × Value)} (r : KT H kvs xs) (k : List Key) : RelO (valV kvs k) ((atKey xs k).map (·.2)) := by
  induction r with
  | nil => exact True.intro
  | @cons p q ps qs h t ih =>
    obtain ⟨h1, _, h2⟩ := h
    by_cases e : p.1 = k
    · have e' : q.1 = k := h1.symm.trans e
      have b : atKey (q :: qs) k = some q.2 := by simp [atKey, List.find?_cons, e']
      rw [valV_pos e, b]; exact h2
    · have e' : ¬ q.1 = k := fun z => e (h1.trans z)
      have b : atKey (q :: qs) k = atKey qs k := by simp [atKey, List.find?_cons, e']
      rw [valV_neg e, b]; exact ih
theorem KT.repl {H : Hp} {kvs : List (List Key × V)} {xs : List (List Key × Addr × Value)} (r : KT H kvs xs) (k : List Key) {y : V} {u : Value} (ry : RelV y u) :
    KT H (kvs.map fun kv => if kv.1 = k then (kv.1, y) else kv) (xs.map (putAt k u)) := by
  induction r with
  | nil => exact .nil
  | @cons p q ps qs h t ih =>
    rw [List.map_cons, List.map_cons]
    refine .cons ?_ ih
    obtain ⟨h1, h2, h3⟩ := h
    unfold putAt
    by_cases e : p.1 = k
    · rw [if_pos e, if_pos (h1.symm.trans e)]; exact ⟨h1, h2, ry⟩
    · rw [if_neg e, if_neg (fun z => e (h1.trans z))]; exact ⟨h1, h2, h3⟩
theorem KT.put {H : Hp} {kvs : List (List Key × V)} {xs : List (List Key × Addr × Value)} (r : KT H kvs xs) (k : List Key) {b : Addr} {y : V} {u : Value} (hb : H b = some (.tup (k.map kV))) (ry : RelV y u) :
    KT H (putK kvs k y) (storedH xs k b u) := by
  have e : (kvs.any fun kv => decide (kv.1 = k)) = (atKey xs k).isSome := by
    rw [valV_any, (r.val k).isSome_eq, Option.isSome_map]
  unfold putK storedH
  rw [e]
  by_cases q : (atKey xs k).isSome = true
  · rw [if_pos q, if_pos q]; exact r.repl k ry
  · rw [if_neg q, if_neg q]; exact Paired.snoc r ⟨rfl, hb, ry⟩
theorem KT.keeps {H H' : Hp} {kvs : List (List Key × V)} {xs : List (List Key × Addr × Value)} (r : KT H kvs xs) (ht : ∀ b ys, H b = some (.tup ys) → H' b = some (.tup ys)) : KT H' kvs xs :=
  Paired.mapP r fun _ _ z => ⟨z.1, ht _ _ z.2.1, z.2.2⟩
section
variable {P : Program} {w : World} {H : Hp} {h : Heap} {a : Addr}
theorem rd_of {u : HO} (ok : HOk P w H h) (e : Rd H a u) : ObjOk P w H h a u := e.ok ok
theorem dk_rd {kvs : List (Key × V)} (ok : HOk P w H h) (e : Rd H a (.dK kvs)) : kvs.length ≤ sizeLine ∧ (a == sysModules) = false ∧ ∃ vs, KV kvs vs ∧ h.DictOf (mixKind P w) a vs :=
  show ObjOk P w H h a (.dK kvs) from rd_of ok e
theorem dk_of {kvs : List (Key × V)} (ok : HOk P w H h) (e : H a = some (.dK kvs)) : kvs.length ≤ sizeLine ∧ (a == sysModules) = false ∧ ∃ vs, KV kvs vs ∧ h.DictOf (mixKind P w) a vs := dk_rd ok (.inl e)
theorem key_of {ks : List Key} (ok : HOk P w H h) (e : H a = some (.tup (ks.map kV))) : (tupleKind (mixKind P w)).is h ks a := by
  obtain ⟨_, its, r, o, h1, h2, n, h3⟩ := (show ObjOk P w H h a (.tup (ks.map kV)) from ok a _ e)
  exact ⟨o, its.toArray, n, h1, h2, h3, by simpa using items_are r⟩
theorem dt_rd {kvs : List (List Key × V)} (ok : HOk P w H h) (e : Rd H a (.dT kvs)) : kvs.length ≤ sizeLine ∧ (a == sysModules) = false ∧
    ∃ xs, KT H kvs xs ∧ h.DictOfH (tupleKind (mixKind P w)) a xs := by
  obtain ⟨z, y, xs, r, o, es, ep, h1, h2, h3, h4, h5⟩ := (show ObjOk P w H h a (.dT kvs) from rd_of ok e)
  refine ⟨z, y, xs, r, o, es, ep, h1, h2, h3, h4, fun x hx => ?_, h5⟩
  have all : ∀ {l : List (List Key × V)} {m : List (List Key × Addr × Value)}, KT H l m → ∀ x ∈ m, (tupleKind (mixKind P w)).is h x.1 x.2.1 := by
    intro l m q
    induction q with
    | nil => intro x hx; exact nomatch hx
    | @cons p q ps qs hq t ih =>
      intro x hx
      rcases List.mem_cons.mp hx with e | hx
      · subst e
        exact key_of ok (by rw [← hq.1]; exact hq.2.1)
      · exact ih x hx
  exact all r x hx
theorem dt_of {kvs : List (List Key × V)} (ok : HOk P w H h) (e : H a = some (.dT kvs)) : kvs.length ≤ sizeLine ∧ (a == sysModules) = false ∧
    ∃ xs, KT H kvs xs ∧ h.DictOfH (tupleKind (mixKind P w)) a xs := dt_rd ok (.inl e)
end
def DGet (H : Hp) (a : Addr) (y : V) (r : Option V) : Prop :=
  (∃ kvs k, Rd H a (.dK kvs) ∧ y = kV k ∧ r = valV kvs k) ∨ ∃ kvs k b, Rd H a (.dT kvs) ∧ y = .ref b ∧ H b = some (.tup (k.map kV)) ∧ r = valV kvs k
def DPut (H : Hp) (a : Addr) (y v : V) (H' : Hp) : Prop :=
  (∃ kvs k, H a = some (.dK kvs) ∧ y = kV k ∧ kvs.length < sizeLine ∧ H' = upd H a (.dK (putK kvs k v))) ∨
  ∃ kvs k b, H a = some (.dT kvs) ∧ y = .ref b ∧ H b = some (.tup (k.map kV)) ∧ kvs.length < sizeLine ∧ H' = upd H a (.dT (putK kvs k v))
theorem DGet.k {H : Hp} {a : Addr} {kvs : List (Key × V)} {k : Key} (e : H a = some (.dK kvs)) : DGet H a (kV k) (valV kvs k) := .inl ⟨kvs, k, .inl e, rfl, rfl⟩
theorem DGet.t {H : Hp} {a b : Addr} {kvs : List (List Key × V)} {k : List Key} (e : H a = some (.dT kvs)) (eb : H b = some (.tup (k.map kV))) : DGet H a (.ref b) (valV kvs k) := .inr ⟨kvs, k, b, .inl e, rfl, eb, rfl⟩
theorem DPut.t {H : Hp} {a b : Addr} {kvs : List (List Key × V)} {k : List Key} {v : V} (e : H a = some (.dT kvs)) (eb : H b = some (.tup (k.map kV))) (hl : kvs.length < sizeLine) :
    DPut H a (.ref b) v (upd H a (.dT (putK kvs k v))) := .inr ⟨kvs, k, b, e, rfl, eb, hl, rfl⟩
section
variable {X : Cx} {pins : List (Addr × Obj)} {σ : St} {H : Hp} {s : Shared} {a : Addr} {y v : V} {u r : Value} {o : Option V} {A : Around} {E : Value → Shared → Prop}
theorem Inv.big (I : Inv X pins σ H s) : sysModules < s.heap.objs.size := by
  have h : mainGlobals < s.heap.objs.size := (I.mod.glob.keeps I.bk).lt
  exact Nat.lt_trans (by decide) h
theorem d_getItem {Q : Value → Shared → Prop} (hu : A.units + 1 < cLine) (I : Inv X pins σ H s) (g : DGet H a y (some v)) (ry : RelV y u) (h : ∀ w' s', Inv X pins σ H s' → RelV v w' → Q w' s') :
    wpAny (model X.prog X.w) A (getItem (.ref a) u) Q E s := by
  rcases g with ⟨kvs, k, e, ey, l⟩ | ⟨kvs, k, b, e, ey, eb, l⟩
  · subst ey
    obtain ⟨z, hd, vs, rel, dd⟩ := dk_rd I.hok e
    obtain ⟨w', hw, rw'⟩ := RelO.some_of (v := v) (o := valueAt vs k) (by rw [l]; exact rel.val k)
    exact wpAny_getItem_of (kV_is ry) dd.mapOf hw (h w' _ (I.tok _) rw')
  · subst ey
    cases (show u = Value.ref b from ry)
    obtain ⟨z, hd, xs, rel, dd⟩ := dt_rd I.hok e
    obtain ⟨w', hw, rw'⟩ := RelO.some_of (v := v) (o := (atKey xs k).map (·.2)) (by rw [l]; exact rel.val k)
    obtain ⟨p, hp, hp2⟩ := Option.map_eq_some_iff.mp hw
    refine wpAny_getItem_heap (tupleKind_room_in1 hu) (key_of I.hok eb) dd hp ?_
    rw [hp2]
    exact h w' _ (I.tok _) rw'
theorem d_in {Q : Value → Shared → Prop} (hu : A.units + 1 < cLine) (I : Inv X pins σ H s) (g : DGet H a y o) (ry : RelV y u) (h : ∀ s', Inv X pins σ H s' → Q (.bool o.isSome) s') :
    wpAny (model X.prog X.w) A (compareOp .In u (.ref a)) Q E s := by
  rcases g with ⟨kvs, k, e, ey, l⟩ | ⟨kvs, k, b, e, ey, eb, l⟩
  · subst ey
    obtain ⟨z, hd, vs, rel, dd⟩ := dk_rd I.hok e
    refine wpAny_in_of (kV_is ry) hd dd.mapOf ?_
    rw [← (rel.val k).isSome_eq, ← l]
    exact h _ (I.tok _)
  · subst ey
    cases (show u = Value.ref b from ry)
    obtain ⟨z, hd, xs, rel, dd⟩ := dt_rd I.hok e
    refine wpAny_in_heap (tupleKind_room_in1 hu) (key_of I.hok eb) hd dd ?_
    have q := (rel.val k).isSome_eq
    rw [Option.isSome_map] at q
    rw [← q, ← l]
    exact h _ (I.tok _)
theorem d_notIn {Q : Value → Shared → Prop} (hu : A.units + 1 < cLine) (I : Inv X pins σ H s) (g : DGet H a y o) (ry : RelV y u) (h : ∀ s', Inv X pins σ H s' → Q (.bool (!o.isSome)) s') :
    wpAny (model X.prog X.w) A (compareOp .NotIn u (.ref a)) Q E s := by
  rcases g with ⟨kvs, k, e, ey, l⟩ | ⟨kvs, k, b, e, ey, eb, l⟩
  · subst ey
    obtain ⟨z, hd, vs, rel, dd⟩ := dk_rd I.hok e
    refine wpAny_notIn_of (kV_is ry) hd dd.mapOf ?_
    rw [← (rel.val k).isSome_eq, ← l]
    exact h _ (I.tok _)
  · subst ey
    cases (show u = Value.ref b from ry)
    obtain ⟨z, hd, xs, rel, dd⟩ := dt_rd I.hok e
    refine wpAny_notIn_heap (tupleKind_room_in1 hu) (key_of I.hok eb) hd dd ?_
    have q := (rel.val k).isSome_eq
    rw [Option.isSome_map] at q
    rw [← q, ← l]
    exact h _ (I.tok _)
theorem d_write {h' : Heap} {t' : Nat} {ob : HO} (I : Inv X pins σ H s) (mu : Mut (H a)) (hs : Heap.SameBut a s.heap h') (he : ∃ q, h'.get? a = some q) (new : ObjOk X.prog X.w (upd H a ob) h' a ob) :
    Inv X pins σ (upd H a ob) { s with heap := h', toks := t' } :=
  I.write (x := a) (e := a) mu (.inl rfl) (fun b q hb z => (hs.2 b hb).trans z) he new
theorem dk_new {P : Program} {w : World} {H' : Hp} {h' : Heap} {kvs : List (Key × V)} {vs : List (Key × Value)} (z : kvs.length ≤ sizeLine) (hd : (a == sysModules) = false) (rel : KV kvs vs) (dd : h'.DictOf (mixKind P w) a vs) :
    ObjOk P w H' h' a (.dK kvs) := ⟨z, hd, vs, rel, dd⟩
theorem d_setItem {H' : Hp} {Q : Unit → Shared → Prop} (hu : A.units + 1 < cLine) (I : Inv X pins σ H s) (g : DPut H a y v H') (ry : RelV y u) (rv : RelV v r) (h : ∀ s', Inv X pins σ H' s' → Q () s') :
    wpAny (model X.prog X.w) A (setItem (.ref a) u r) Q E s := by
  rcases g with ⟨kvs, k, e, ey, l, eH⟩ | ⟨kvs, k, b, e, ey, eb, l, eH⟩
  · subst ey eH
    obtain ⟨z, hd, vs, rel, dd⟩ := dk_of I.hok e
    have hz : vs.length ≤ sizeLine := by rw [← rel.length]; exact z
    have hl : (putK kvs k v).length ≤ sizeLine := by have := length_putK kvs k v; omega
    refine wpAny_setItem_pairs (hsz := hz) (kV_is ry) dd fun h' dd' hs => h _ ?_
    have he : ∃ q, h'.get? a = some q := let ⟨q, _, _, hq, _⟩ := dd'; ⟨q, hq⟩
    exact d_write I (by rw [e]; exact True.intro) hs he (dk_new hl hd (rel.put k rv) dd')
  · subst ey eH
    cases (show u = Value.ref b from ry)
    obtain ⟨z, hd, xs, rel, dd⟩ := dt_of I.hok e
    have hz : xs.length ≤ sizeLine := by rw [← Paired.length rel]; exact z
    have hl : (putK kvs k v).length ≤ sizeLine := by have := length_putK kvs k v; omega
    refine wpAny_setItem_heap (hsz := hz) (tupleKind_room_in1 hu) (key_of I.hok eb) dd fun h' dd' hs => h _ ?_
    obtain ⟨q, es, ep, hq, h2, h3, h4, _, h5⟩ := dd'
    refine d_write I (by rw [e]; exact True.intro) hs ⟨q, hq⟩ ⟨hl, hd, _, (rel.put k eb rv).keeps fun c ys ec => ?_, q, es, ep, hq, h2, h3, h4, h5⟩
    rw [upd_ne (ne_of ec e (fun z => nomatch z))]
    exact ec
end
section
variable {X : Cx} {pins : List (Addr × Obj)} {σ : St} {H : Hp} {s : Shared} {a : Addr} {kvs : List (Key × V)} {k : Key} {u : Value} {A : Around} {E : Value → Shared → Prop}
end
def NoSl (i : Expr) : Prop := ∀ ov iv, subscripted i false ov iv = operate [ov, iv] (getItem ov iv)
theorem subD_of {prog : Program} {w : World} {A : Around} {E : Value → Shared → Prop} {s : Shared} {env : Env} {value slice : Expr} {pos : Pos} {T id : String} {Q : Value → Shared → Prop}
    (hl : typeLookup (.type T) "__getitem__" = pure (some (.builtin id))) (hs : NoSl slice)
    (h : wpAny (model prog w) A (eval value env) (fun o s₁ => wpAny (model prog w) A (eval slice env) (fun i s₂ => s₂.TypeIs o T ∧ wpAny (model prog w) A (getItem o i) Q E s₂) E s₁) E s) :
    wpAny (model prog w) A (eval (.Subscript value slice pos) env) Q E s := by
  refine Subscript_ (wpAny_mono h (fun o s₁ h₁ => wpAny_mono h₁ (fun i s₂ h₂ => ?_) fun _ _ x => x) fun _ _ x => x)
  obtain ⟨hT, h₂⟩ := h₂
  unfold subscriptTail
  refine wpAny_bind ?_
  rw [getitemInPython_of_ne hT.not_modules]
  refine wpAny_bind (wpAny_specialOf hT hl ?_)
  have fin : wpAny (model prog w) A (subscripted slice false o i) (fun r s₃ => wpAny (model prog w) A (letTemporaryGo value o r >>= fun _ => pure r) Q E s₃) E s₂ := by
    rw [hs o i]
    exact wpAny_operating (wpAny_mono h₂ (fun r s₃ h₃ => wpAny_bind (wpAny_letTemporaryGo (wpAny_pure h₃))) fun _ _ x => x)
  first
    | exact wpAny_pure (wpAny_bind fin)
    | exact wpAny_bind (wpAny_pure (wpAny_bind fin))
    | exact wpAny_bind fin
theorem dict_typeIs {X : Cx} {pins : List (Addr × Obj)} {σ : St} {H : Hp} {s : Shared} {a : Addr} {y : V} {o : Option V} (I : Inv X pins σ H s) (g : DGet H a y o) : s.TypeIs (.ref a) "dict" := by
  rcases g with ⟨kvs, k, e, _, _⟩ | ⟨kvs, k, b, e, _, _, _⟩
  · obtain ⟨_, _, vs, _, dd⟩ := dk_rd I.hok e
    exact dd.typeIs
  · obtain ⟨_, _, xs, _, dd⟩ := dt_rd I.hok e
    exact dd.typeIs
def tDGet (td ty : TE) : TE := fun σ H Q => td σ H fun x H1 => ty σ H1 fun y H2 => ∃ a v, x = .ref a ∧ DGet H2 a y (some v) ∧ Q v H2
def tDIn (ty td : TE) : TE := fun σ H Q => ty σ H fun y H1 => td σ H1 fun x H2 => ∃ a o, x = .ref a ∧ DGet H2 a y o ∧ Q (.bl o.isSome) H2
def tDNotIn (ty td : TE) : TE := fun σ H Q => ty σ H fun y H1 => td σ H1 fun x H2 => ∃ a o, x = .ref a ∧ DGet H2 a y o ∧ Q (.bl (!o.isSome)) H2
def sDPut (td ty tv : TE) : TS := fun D σ H => tv σ H fun v H1 => td σ H1 fun x H2 => ty σ H2 fun y H3 => ∃ a H4, x = .ref a ∧ DPut H3 a y v H4 ∧ D.nx σ H4
def sDAug (td ty tv : TE) (rd : V → V → Hp → VK → Prop) : TS := fun D σ H => td σ H fun x H1 => ty σ H1 fun y H2 => ∃ a v, x = .ref a ∧ DGet H2 a y (some v) ∧
  tv σ H2 fun y2 H3 => rd v y2 H3 fun z H4 => ∃ H5, DPut H4 a y z H5 ∧ D.nx σ H5
def sDDel (td ty : TE) : TS := fun D σ H => td σ H fun x H1 => ty σ H1 fun y H2 => ∃ a kvs k, x = .ref a ∧ H2 a = some (.dK kvs) ∧ y = kV k ∧ (valV kvs k).isSome = true ∧ D.nx σ (upd H2 a (.dK (dropK kvs k)))
section
variable {X : Cx} {o i e value : Expr} {pos pos' tpos : Pos} {td ty tv : TE}
theorem pe_dget (hu : X.A.units + 1 < cLine) (ho : PE X o td) (hi : PE X i ty) (hs : NoSl i) : PE X (.Subscript o i pos) (tDGet td ty) := by
  intro pins s σ H Q I h
  refine subD_of PySem.F.slot_dict_getitem.lookup hs (thn (ho pins s σ H _ I h) fun u s1 ⟨x, H1, I1, rx, q1⟩ => thn (hi pins s1 σ H1 _ I1 q1) fun iv s2 ⟨y, H2, I2, ry, a, v, ex, g, q2⟩ => ?_)
  subst ex
  obtain rfl : u = Value.ref a := rx
  exact ⟨dict_typeIs I2 g, d_getItem hu I2 g ry fun w' s3 I3 rw' => ⟨v, H2, I3, rw', q2⟩⟩
theorem pc_din (hu : X.A.units + 1 < cLine) (hi : PE X i ty) (ho : PE X o td) : PC X .In i o (tDIn ty td) := by
  intro pins s σ H Q I h
  refine thn (hi pins s σ H _ I h) fun iv s1 ⟨y, H1, I1, ry, q1⟩ => thn (ho pins s1 σ H1 _ I1 q1) fun u s2 ⟨x, H2, I2, rx, a, ov, ex, g, q2⟩ => ?_
  subst ex
  obtain rfl : u = Value.ref a := rx
  exact d_in hu I2 g ry fun s3 I3 => ⟨.bl ov.isSome, H2, I3, rfl, q2⟩
theorem pc_dnotin (hu : X.A.units + 1 < cLine) (hi : PE X i ty) (ho : PE X o td) : PC X .NotIn i o (tDNotIn ty td) := by
  intro pins s σ H Q I h
  refine thn (hi pins s σ H _ I h) fun iv s1 ⟨y, H1, I1, ry, q1⟩ => thn (ho pins s1 σ H1 _ I1 q1) fun u s2 ⟨x, H2, I2, rx, a, ov, ex, g, q2⟩ => ?_
  subst ex
  obtain rfl : u = Value.ref a := rx
  exact d_notIn hu I2 g ry fun s3 I3 => ⟨.bl (!ov.isSome), H2, I3, rfl, q2⟩
theorem ps_dput (hu : X.A.units + 1 < cLine) (ho : PE X o td) (hi : PE X i ty) (hv : PE X value tv) (hs : swapsWith value (some (.Subscript o i pos')) pos.line X.env = pure false) :
    PS X (.Assign [.Subscript o i pos'] value pos) (sDPut td ty tv) := by
  intro pins s σ H D I h
  refine wpAny_Assign_Subscript (thn (hv pins s σ H _ I h) fun r s1 ⟨v, H1, I1, rv, q1⟩ => thn (ho pins s1 σ H1 _ I1 q1) fun u s2 ⟨x, H2, I2, rx, q2⟩ => thn (hi pins s2 σ H2 _ I2 q2) fun iv s3 ⟨y, H3, I3, ry, a, H4, ex, g, q3⟩ => ?_) hs
  subst ex
  obtain rfl : u = Value.ref a := rx
  exact d_setItem hu I3 g ry rv fun s4 I4 => ⟨σ, H4, I4, q3⟩
end
theorem dk_empty {P : Program} {w : World} {H : Hp} (h : Heap) (hb : sysModules < h.objs.size) : ObjOk P w H (h.push { cls := .type "dict", data := .dict #[] }) h.objs.size (.dK []) :=
  ⟨Nat.zero_le _, beq_eq_false_iff_ne.mpr (Ne.symm (Nat.ne_of_lt hb)), [], .nil, Heap.DictOf.new h⟩
theorem dt_empty {P : Program} {w : World} {H : Hp} (h : Heap) (hb : sysModules < h.objs.size) : ObjOk P w H (h.push { cls := .type "dict", data := .dict #[] }) h.objs.size (.dT []) :=
  ⟨Nat.zero_le _, beq_eq_false_iff_ne.mpr (Ne.symm (Nat.ne_of_lt hb)), [], .nil, _, #[], 0, Heap.get?_push_size _ rfl, ⟨rfl, rfl, rfl⟩, rfl, rfl, List.nodup_nil⟩
def tDNewK : TE := fun _ H Q => ∀ p, H p = none → Q (.ref p) (upd H p (.dK []))
def tDNewT : TE := fun _ H Q => ∀ p, H p = none → Q (.ref p) (upd H p (.dT []))
section
variable {X : Cx} {pos : Pos}
theorem pe_dnewT : PE X (.Dict [] [] pos) tDNewT := fun pins s σ H Q I h =>
  wpAny_Dict_empty ⟨.ref s.heap.objs.size, _, I.laid (a := s.heap.objs.size) (o := .dT []) (t' := s.toks) (fun _ _ q => Heap.get?_push_of_some _ q) (Nat.le_refl _) (dt_empty s.heap I.big), rfl, h _ (I.hok.fresh (Nat.le_refl _))⟩
end
def tPairs : List (TE × TE) → St → Hp → (List (V × V) → Hp → Prop) → Prop
  | [], _, H, Q => Q [] H
  | (tk, tv) :: r, σ, H, Q => tk σ H fun x H1 => tv σ H1 fun y H2 => tPairs r σ H2 fun ps H3 => Q ((x, y) :: ps) H3
abbrev VV : List (V × V) → List (Value × Value) → Prop := Paired fun p q => RelV p.1 q.1 ∧ RelV p.2 q.2
def PPs (X : Cx) (pos : Pos) (keys : List (Option Expr)) (values : List Expr) (trs : List (TE × TE)) : Prop :=
  ∀ (pins : List (Addr × Obj)) (s : Shared) (σ : St) (H : Hp) (Q : List (V × V) → Hp → Prop), Inv X pins σ H s → tPairs trs σ H Q →
    wpAny (model X.prog X.w) X.A (evalPairs (pairTrees keys values X.env pos)) (fun vs s' => ∃ ps H', Inv X pins σ H' s' ∧ VV ps vs ∧ Q ps H') X.xe s
theorem pps_nil {X : Cx} {pos : Pos} : PPs X pos [] [] [] := fun pins s σ H Q I h => pairTrees_nil_walk ⟨[], H, I, .nil, h⟩
theorem pps_cons {X : Cx} {pos : Pos} {k v : Expr} {ks : List (Option Expr)} {vs : List Expr} {tk tv : TE} {trs : List (TE × TE)} (hk : PE X k tk) (hv : PE X v tv) (hr : PPs X pos ks vs trs) :
    PPs X pos (some k :: ks) (v :: vs) ((tk, tv) :: trs) := fun pins s σ H Q I h =>
  pairTrees_cons_walk (thn (hk pins s σ H _ I h) fun u s1 ⟨x, H1, I1, rx, q1⟩ => thn (hv pins s1 σ H1 _ I1 q1) fun w2 s2 ⟨y, H2, I2, ry, q2⟩ =>
    thn (hr pins s2 σ H2 _ I2 q2) fun ws s3 ⟨ps, H3, I3, rel, q3⟩ => ⟨(x, y) :: ps, H3, I3, .cons ⟨rx, ry⟩ rel, q3⟩)
def mergeK (kvs more : List (Key × V)) : List (Key × V) := more.foldl (fun acc kv => putK acc kv.1 kv.2) kvs
theorem KV.merge : ∀ {more : List (Key × V)} {rs : List (Key × Value)} {kvs : List (Key × V)} {vs : List (Key × Value)}, KV more rs → KV kvs vs → KV (mergeK kvs more) (merged vs rs) := by
  intro more rs kvs vs r
  unfold KV at r
  induction r generalizing kvs vs with
  | nil => intro q; exact q
  | @cons p q ps qs h t ih =>
    intro r0
    have e : KV (putK kvs p.1 p.2) (stored vs q.1 q.2) := by
      have := r0.put p.1 h.2
      rw [← h.1]; exact this
    exact ih e
theorem length_mergeK : ∀ (more kvs : List (Key × V)), (mergeK kvs more).length ≤ kvs.length + more.length
  | [], kvs => by show kvs.length ≤ kvs.length + 0; omega
  | p :: r, kvs => by
    have h1 := length_mergeK r (putK kvs p.1 p.2)
    have h2 := length_putK kvs p.1 p.2
    show (mergeK (putK kvs p.1 p.2) r).length ≤ _
    rw [List.length_cons]; omega
theorem carries_of {P : Program} {w : World} : ∀ {kvs : List (Key × V)} {ws : List (Value × Value)}, VV (kvs.map fun kv => (kV kv.1, kv.2)) ws → ∃ rs, Carries (mixKind P w) ws rs ∧ KV kvs rs
  | [], _, r => by rw [List.map_nil] at r; cases r; exact ⟨[], True.intro, .nil⟩
  | p :: kvs, _, r => by
    rw [List.map_cons] at r
    cases r with
    | @cons a b as bs h t =>
      obtain ⟨rs, c, q⟩ := carries_of (P := P) (w := w) t
      obtain ⟨b1, b2⟩ := b
      exact ⟨(p.1, b2) :: rs, ⟨kV_is h.1, rfl, c⟩, .cons ⟨rfl, h.2⟩ q⟩
def tDisp (trs : List (TE × TE)) : TE := fun σ H Q => ∀ p, H p = none → tPairs trs σ (upd H p (.dK [])) fun ps H2 => H2 p = some (.dK []) ∧ ∃ kvs : List (Key × V), ps = kvs.map (fun kv => (kV kv.1, kv.2)) ∧ kvs.length ≤ 15 ∧ Q (.ref p) (upd H2 p (.dK (mergeK [] kvs)))
theorem pe_disp {X : Cx} {pos : Pos} {keys : List (Option Expr)} {values : List Expr} {trs : List (TE × TE)} (h : PPs X pos keys values trs) (hall : keys.all (·.isSome) = true) (hl : keys.length = values.length) (h0 : keys ≠ [])
    (h15 : keys.length ≤ 15) : PE X (.Dict keys values pos) (tDisp trs) := by
  intro pins s σ H Q I q
  have hn := I.hok.fresh (Nat.le_refl s.heap.objs.size)
  have I1 := I.laid (a := s.heap.objs.size) (o := .dK []) (h' := s.heap.push { cls := .type "dict", data := .dict #[] }) (t' := s.toks) (fun _ _ q => Heap.get?_push_of_some _ q) (Nat.le_refl _) (dk_empty s.heap I.big)
  refine wpAny_Dict_walk (knd := mixKind X.prog X.w) hall hl h0 h15 (thn (h pins _ σ _ _ I1 (q _ hn)) fun ws s2 ⟨ps, H2, I2, rel, e, kvs, ep, lk, q2⟩ => ?_)
  subst ep
  obtain ⟨rs, c, rk⟩ := carries_of (P := X.prog) (w := X.w) rel
  obtain ⟨z, hd, vs0, r0, dd⟩ := dk_of I2.hok e
  cases r0
  refine ⟨rs, c, dd, fun h' dd' hs => ⟨.ref s.heap.objs.size, _, ?_, rfl, q2⟩⟩
  have hz : (mergeK [] kvs).length ≤ sizeLine := by
    have h1 := length_mergeK kvs []
    rw [List.length_nil] at h1
    rw [sizeLine_eq]; omega
  have he : ∃ q, h'.get? s.heap.objs.size = some q := let ⟨q, _, _, hq, _⟩ := dd'; ⟨q, hq⟩
  exact d_write I2 (by rw [e]; exact True.intro) hs he (dk_new hz hd (rk.merge .nil) dd')
structure M1 (X : Cx) (o : Expr) (m : Str) (apos : Pos) (e : Expr) (cpos : Pos) : Prop where
  base : attributeBase o m X.env (eval o X.env) = eval o X.env
  few : ((backTo cpos (starEach [e] X.env)).all (fun x => !x.1) && (backToKw cpos (keywordEach [] X.env)).all (fun x => x.1.isSome)
    && decide (([e] : List Expr).length + ([] : List Keyword).length + (if ([] : List Keyword).isEmpty then 0 else 1) < 30)) = true
  line : (apos.endLine == cpos.line) = true
  trees : backTo cpos (starEach [e] X.env) = [(false, eval e X.env)]
structure M2 (X : Cx) (o : Expr) (m : Str) (apos : Pos) (e f : Expr) (cpos : Pos) : Prop where
  base : attributeBase o m X.env (eval o X.env) = eval o X.env
  few : ((backTo cpos (starEach [e, f] X.env)).all (fun x => !x.1) && (backToKw cpos (keywordEach [] X.env)).all (fun x => x.1.isSome)
    && decide (([e, f] : List Expr).length + ([] : List Keyword).length + (if ([] : List Keyword).isEmpty then 0 else 1) < 30)) = true
  line : (apos.endLine == cpos.line) = true
  trees : backTo cpos (starEach [e, f] X.env) = [(false, eval e X.env), (false, eval f X.env)]
def IsD (H : Hp) (a : Addr) : Prop := (∃ kvs, Rd H a (.dK kvs)) ∨ ∃ kvs, Rd H a (.dT kvs)
theorem isD_at {X : Cx} {pins : List (Addr × Obj)} {σ : St} {H : Hp} {s : Shared} {a : Addr} (I : Inv X pins σ H s) (d : IsD H a) :
    s.TypeIs (.ref a) "dict" ∧ (∀ b, Value.ref a = .ref b → ∃ ob, s.heap.get? b = some ob ∧ ob.dict = none) ∧ (a == sysModules) = false := by
  rcases d with ⟨kvs, e⟩ | ⟨kvs, e⟩
  · obtain ⟨_, hd, vs, _, dd⟩ := dk_rd I.hok e
    refine ⟨dd.typeIs, fun b q => ?_, hd⟩
    cases q
    obtain ⟨ob, _, _, h1, h2, _⟩ := dd
    exact ⟨ob, h1, h2.2.1⟩
  · obtain ⟨_, hd, xs, _, dd⟩ := dt_rd I.hok e
    refine ⟨dd.typeIs, fun b q => ?_, hd⟩
    cases q
    obtain ⟨ob, _, _, h1, h2, _⟩ := dd
    exact ⟨ob, h1, h2.2.1⟩
section
variable {X : Cx} {pins : List (Addr × Obj)} {σ : St} {H : Hp} {s : Shared} {a : Addr} {y d : V} {u r : Value} {o : Option V} {A : Around} {E : Value → Shared → Prop}
theorem d_get2 {Q : Value → Shared → Prop} (hu : A.units + 1 < cLine) (I : Inv X pins σ H s) (g : DGet H a y o) (ry : RelV y u) (rd : RelV d r) (h : ∀ w' s', Inv X pins σ H s' → RelV (o.getD d) w' → Q w' s') :
    wpAny (model X.prog X.w) A (call (.builtin "dict.get") [.ref a, u, r]) Q E s := by
  rcases g with ⟨kvs, k, e, ey, l⟩ | ⟨kvs, k, b, e, ey, eb, l⟩
  · subst ey
    obtain ⟨z, hd, vs, rel, dd⟩ := dk_rd I.hok e
    refine call_meetsIn PySem.F.slot_dict_get dd.typeIs PySem.F.entry_dict_get (PySem.F.args_dict_get_3 _ _ _) (meets_dict_get_default (mixKind X.prog X.w) a (kV_is ry) hd r) ⟨_, dd.mapOf, h _ _ (I.tok _) ?_⟩
    rw [l]
    exact (rel.val k).getD rd
  · subst ey
    cases (show u = Value.ref b from ry)
    obtain ⟨z, hd, xs, rel, dd⟩ := dt_rd I.hok e
    refine call_meetsIn PySem.F.slot_dict_get dd.typeIs PySem.F.entry_dict_get (PySem.F.args_dict_get_3 _ _ _) (meetsH_dict_get_default (tupleKind (mixKind X.prog X.w)) a b hd r) ⟨tupleKind_room_in1 hu, k, xs, key_of I.hok eb, dd, h _ _ (I.tok _) ?_⟩
    rw [l]
    exact (rel.val k).getD rd
end
def tDGet1 (td ty : TE) : TE := fun σ H Q => td σ H fun x H1 => ∃ a, x = .ref a ∧ IsD H1 a ∧ ty σ H1 fun y H2 => ∃ o, DGet H2 a y o ∧ Q (o.getD .non) H2
def tDGet2 (td ty tx : TE) : TE := fun σ H Q => td σ H fun x H1 => ∃ a, x = .ref a ∧ IsD H1 a ∧ ty σ H1 fun y H2 => tx σ H2 fun z H3 => ∃ o, DGet H3 a y o ∧ Q (o.getD z) H3
def tDPop1 (td ty : TE) : TE := fun σ H Q => td σ H fun x H1 => ∃ a, x = .ref a ∧ IsD H1 a ∧ ty σ H1 fun y H2 => ∃ kvs k v, H2 a = some (.dK kvs) ∧ y = kV k ∧ valV kvs k = some v ∧ Q v (upd H2 a (.dK (dropK kvs k)))
def tDPop2 (td ty tx : TE) : TE := fun σ H Q => td σ H fun x H1 => ∃ a, x = .ref a ∧ IsD H1 a ∧ ty σ H1 fun y H2 => tx σ H2 fun z H3 => ∃ kvs k, H3 a = some (.dK kvs) ∧ y = kV k ∧
  (∀ v, valV kvs k = some v → Q v (upd H3 a (.dK (dropK kvs k)))) ∧ (valV kvs k = none → Q z H3)
section
variable {X : Cx} {o e f : Expr} {apos cpos : Pos} {td ty tx : TE}
theorem pe_dget2 (hu : X.A.units + 1 < cLine) (ho : PE X o td) (he : PE X e ty) (hf : PE X f tx) (m : M2 X o "get" apos e f cpos) : PE X (.Call (.Attribute o "get" apos) [e, f] [] cpos) (tDGet2 td ty tx) := by
  intro pins s σ H Q I h
  refine wpAny_Call_method m.base m.few m.line PySem.F.plainAttrs_dict PySem.F.slot_dict_get PySem.F.type_dict_get (thn (ho pins s σ H _ I h) fun u s1 ⟨x, H1, I1, rx, a, ex, d, q1⟩ => ?_)
  subst ex
  obtain rfl : u = Value.ref a := rx
  obtain ⟨t1, t2, _⟩ := isD_at I1 d
  refine ⟨t1, t2, ?_⟩
  rw [m.trees]
  refine Calls.callWith_builtin rfl (Calls.evalArgs_plain (Calls.spliced_cons (thn (he pins s1 σ H1 _ I1 q1) fun iv s2 ⟨y, H2, I2, ry, q2⟩ =>
    Calls.spliced_cons (thn (hf pins s2 σ H2 _ I2 q2) fun fv s3 ⟨z, H3, I3, rz, ov, g, q3⟩ => Calls.spliced_nil ?_))))
  exact d_get2 hu I3 g ry rz fun w' s4 I4 rw' => ⟨_, H3, I4, rw', q3⟩
end
section
variable {X : Cx} {pins : List (Addr × Obj)} {σ : St} {H : Hp} {s : Shared} {a : Addr} {kvs : List (Key × V)} {A : Around} {E : Value → Shared → Prop}
end
section
variable {X : Cx} {pins : List (Addr × Obj)} {σ : St} {H : Hp} {s : Shared} {a : Addr} {y : V} {u : Value} {A : Around} {E : Value → Shared → Prop}
end
end L2
namespace Att
open PySem PySem.W PySem.Calls PyProof.Rows
theorem ints_of_wellAll {P : Params} {h : Heap} : ∀ (ns : List Int) (vs : List Value), WellAll P h vs (ns.map WData.int) → IntsAre vs ns := by
  intro ns
  induction ns with
  | nil =>
    intro vs w
    rw [List.map_nil] at w
    cases w
    exact .nil
  | cons n ns ih =>
    intro vs w
    rw [List.map_cons] at w
    cases w with
    | cons a b =>
      cases a
      exact .cons _ _ (ih _ b)
theorem script_of {l : OpenLaw} {n : Nat} (hn : l.most = some n) {P : Params} {h : Heap} {args : List WData} {vals : List Value}
    (hpre : l.row.toRowW.claim.pre args = true) (hwl : WellAll P h vals args) :
    ∃ a vs ns, vals = [Value.ref a] ∧ args = [WData.list (ns.map WData.int)] ∧ h.get? a = some { cls := .type "list", data := .seq vs.toArray } ∧ IntsAre vs ns ∧ ns.length ≤ n := by
  have hsh : WShape.hasAll [] args [.list .int] = true := (pre_splitW hpre).1
  have hc : l.pre.holds [] { args := args } = true := (pre_splitW hpre).2
  obtain ⟨d, r, rfl, h1, h2⟩ := hasAllW_cons hsh
  obtain rfl := hasAllW_nil h2
  obtain ⟨xs, rfl, h3⟩ := hasW_list h1
  obtain ⟨ns, rfl⟩ := items_int h3
  have hlen : ns.length ≤ n := by
    unfold OpenLaw.pre at hc
    have h4 : (WTm.not (.lt (.lit (.int (n : Int))) (.len (.arg 0)))).holds [] { args := [.list (ns.map .int)] } = true := by
      have h4 := (holds_andW hc).1
      rw [hn] at h4
      exact h4
    have h5 := condW_of h4 (w_not (w_lt w_lit (w_len_list (w_arg rfl))))
    rw [List.length_map] at h5
    refine Nat.le_of_not_lt fun q => ?_
    have q' : (n : Int) < ((ns.length : Nat) : Int) := by omega
    first
      | (rw [decide_eq_true q'] at h5; exact absurd h5 (by decide))
      | (simp at h5; omega)
  cases hwl with
  | cons w1 w2 =>
    cases w2
    cases w1 with
    | list ho hall => exact ⟨_, _, ns, rfl, rfl, ho, ints_of_wellAll ns _ hall, hlen⟩
theorem post_true (l : OpenLaw) (args : List WData) : l.row.toRowW.claim.post args (.bool true) args = true :=
  postW_of (r := l.row.toRowW) (X := (true == true))
    (show WShape.has [] (.bool true) .bool = true by first | rfl | decide | simp [WShape.has, WShape.arms, WShape.armsAll])
    (show (WTm.eq .res (.lit (.bool true))).value [] { args := args, res := some (.bool true), after := args } = some (.bool (true == true)) from w_eq_bool (w_res rfl) w_lit) rfl
theorem attach_call {l : OpenLaw} {n : Nat} {q : Program} {loose : List Str} {XP : (Str → Option Value) → Heap → Prop} {YP : World → Heap → Prop} {d : DefRec}
    (hn : l.most = some n) (hdf : d.params.defaults = [])
    (call : ∀ (w : World) (s₀ s₁ : Shared) (mg mb : Str → Option Value) (fa : Addr) (o : Obj) (pm cd doc : Value) (a : Addr) (vs : List Value) (ns : List Int),
      Ground q loose [] XP w s₀ mg mb s₁.heap → YP w s₁.heap →
      s₁.heap.get? fa = some o → o.data = .func (docDef d.name d.params d.body d.scope pm cd doc) → s₁.heap.CodeRec cd d.name → mg d.name = some (.ref fa) →
      s₁.heap.get? a = some { cls := .type "list", data := .seq vs.toArray } → IntsAre vs ns → ns.length ≤ n → s₁.gens = #[] →
      codeAny (model l.prog w) callerA (.call (.ref fa) ⟨[.ref a], []⟩) (fun r s' => r = .ok (.ret (.bool true)) ∧ OldK s₁.heap s'.heap ∧ s'.os = s₁.os ∧ AllBare s'.gens) s₁) :
    WalkO q loose XP YP l.row.toRowW d [] (fun f vs => PySem.call f vs) := by
  intro w s₀ s₁ mg mb G Y fa o pm cd doc dV kV ho hd hcd hD hmg hg args vals as hpre hlay hrd hwl hlo
  obtain rfl : dV = .none := Dflts.none hD hdf
  obtain rfl : kV = .none := Dflts.noKw hD
  obtain ⟨a, vs, ns, rfl, rfl, hobj, hints, hlen⟩ := script_of hn hpre hwl
  refine enter_call (codeAny_mono (call w s₀ s₁ mg mb fa o pm cd doc a vs ns G Y ho (fd_plain hd) hcd hmg hobj hints hlen hg) fun r s' hq => ?_)
  obtain ⟨rfl, h2, h3, h4⟩ := hq
  exact ⟨.inl ⟨.bool true, .bool true, [], rfl, fun _ => rfl, .bool true, post_true l _, fun _ => ⟨List.Pairwise.nil, fun _ hm => (nomatch hm)⟩⟩, h2, h3, h4⟩
section
variable {prog : Program} {w : World} {A : Around} {E : Value → Shared → Prop} {s : Shared} {K : Frag}
def noObjs (h : Heap) : Heap := { h with objs := #[] }
def ledger (h : Heap) (L d : Addr) : List (Addr × Obj) := (List.range h.objs.size).filterMap fun a => if a = L ∨ a = d then none else (h.get? a).map fun o => (a, o)
end
end Att
namespace L2
open PySem PySem.Spec PyProof.Rows
theorem vals_ints : ∀ {vs : List Value} {ns : List Int}, IntsAre vs ns → Vals (ns.map V.int) vs
  | _, _, .nil => .nil
  | _, _, .cons n t h => .cons ⟨t, rfl⟩ (vals_ints h)
def Only (H : Hp) : Prop := ∀ b, H b = none ∨ ∃ o xs, H b = some (.frz o (.lst xs))
theorem law_call {P : Program} {w : World} {K : PySem.W.Frag} {mg mb : Str → Option Value} {CX : CXT} {k : Nat} {fa a : Addr} {fd : FuncData} {x : Str} {sp : Sp} {s₁ : Shared} {vs : List Value} {ns : List Int}
    (KX : K.In s₁.heap) (hns : s₁.heap.Ns mainGlobals mg) (hb : s₁.heap.Ns builtinsNs mb) (hbb : ∀ x : Str, x ≠ "__name__" → mb x = bootBuiltins x) (hlim : s₁.heap.NoLimit) (hg : s₁.gens = #[])
    (ha : s₁.heap.get? a = some { cls := .type "list", data := .seq vs.toArray }) (hi : IntsAre vs ns) (hl : ns.length ≤ sizeLine) (hr : Room k callerA)
    (F : ∀ base : Heap, K.In base → base.Ns mainGlobals mg → FnOk P w K mg base CX k fa fd [x] sp) (hbind : ∀ (s : Shared) (u : Value), BindsTo s fd ⟨[u], []⟩ [(x, u)])
    (hsp : ∀ H : Hp, Only H → SqL K H a (ns.map V.int) → sp [.ref a] H (fun v _ => v = .bl true) fun _ _ _ => False)
    (hCX : ∀ H e s', CX [] H s₁ (fun _ _ _ => False) e s' → False) :
    codeAny (model P w) callerA (.call (.ref fa) ⟨[.ref a], []⟩) (fun r s' => r = .ok (.ret (.bool true)) ∧ OldK s₁.heap s'.heap ∧ s'.os = s₁.os ∧ AllBare s'.gens) s₁ := by
  have rv := vals_ints hi
  have lenV := hi.length
  have core : ∀ H : Hp, Only H → SqL K H a (ns.map V.int) → HOk P w H s₁.heap → (∀ b, H b ≠ none → b = a) → (H a ≠ none → K.lookup a = none) →
      codeAny (model P w) callerA (.call (.ref fa) ⟨[.ref a], []⟩) (fun r s' => r = .ok (.ret (.bool true)) ∧ OldK s₁.heap s'.heap ∧ s'.os = s₁.os ∧ AllBare s'.gens) s₁ := by
    intro H hO hS hok hA hK
    have base_of : ∀ {b : Addr} {o : Obj}, s₁.heap.get? b = some o → H b = none → (hidT s₁.heap H).get? b = some o := fun e n => hidT_get e n
    have noA : ∀ {b : Addr} {o : Obj} {es : Array DictEntry} {ep : Nat}, s₁.heap.get? b = some o → o.data = .dict es ep → H b = none := fun {b o es ep} e d => by
      cases q : H b with
      | none => rfl
      | some u =>
        have e' : b = a := hA b (by rw [q]; simp)
        subst e'
        rw [ha] at e; cases e
        have d' : Data.seq vs.toArray _ = Data.dict es ep := d
        cases d'
    have nsK : ∀ {b : Addr} {m : Str → Option Value}, s₁.heap.Ns b m → (hidT s₁.heap H).Ns b m := fun {b m} ⟨o, es, ep, e, d, r⟩ => ⟨o, es, ep, base_of e (noA e d), d, r⟩
    have hKb : K.In (hidT s₁.heap H) := fun b o e => base_of (KX b o e) (by
      cases q : H b with
      | none => rfl
      | some u =>
        have e' : b = a := hA b (by rw [q]; simp)
        subst e'
        rw [hK (by rw [q]; simp)] at e; cases e)
    have hM : Mod K mg (hidT s₁.heap H) := ⟨hKb, nsK hns, ⟨mb, nsK hb, hbb⟩, let ⟨mc, h1, h2⟩ := hlim; ⟨mc, nsK h1, h2⟩⟩
    have e0 : Env0 P w K mg (hidT s₁.heap H) callerA [] s₁ H := ⟨rfl, hM, fun b o e => of_hidT e, Nat.le_of_eq (hidT_size _ _), trivial, fun b hb => absurd (show b ∈ ([] : List Addr) from hb) (by simp), hok, .of_eq hg⟩
    refine codeAny_mono ((F _ hKb (nsK hns)).run callerA [] s₁ H ⟨[.ref a], []⟩ [.ref a] [.ref a] _ _ hr e0 (hbind s₁ (.ref a)) (.cons rfl .nil) (hsp H hO hS)) fun r s' h => ?_
    cases r with
    | error e => exact (hCX H e s' h).elim
    | ok fl =>
      cases fl with
      | next => exact False.elim h
      | brk => exact False.elim h
      | cont => exact False.elim h
      | ret u =>
        obtain ⟨v, H', os, bare, un, hok', r', q⟩ := h
        have q' : v = .bl true := q
        subst q'
        obtain rfl : u = Value.bool true := r'
        refine ⟨rfl, OldK.of_keep fun b o e => ?_, os, bare⟩
        cases q : H b with
        | none => exact un.keep b o e q (by intro z; exact absurd (show b ∈ ([] : List Addr) from z) (by simp)) (by simp)
        | some u =>
          rcases hO b with z | ⟨ob, xs, z⟩
          · rw [q] at z; cases z
          · have z2 := un.frzs b ob _ z
            obtain ⟨e1, _⟩ := hok b _ z
            obtain ⟨e2, _⟩ := hok' b _ z2
            rw [e] at e1; cases e1
            exact e2
  cases hk : K.lookup a with
  | some o =>
    have e := KX a o hk
    rw [ha] at e
    cases e
    refine core (fun _ => none) (fun _ => .inl rfl) (.inr ⟨_, vs.toArray, _, hk, rfl, rfl, rfl, by rw [List.size_toArray, lenV]; exact hl, by simpa using rv⟩) (fun b u z => by have z' : (none : Option HO) = some u := z; cases z') (fun b z => absurd rfl z) fun z => absurd rfl z
  | none =>
    refine core (fun b => if b = a then some (.frz { cls := .type "list", data := .seq vs.toArray } (.lst (ns.map V.int))) else none) (fun b => ?_) (.inl (.inr ⟨{ cls := .type "list", data := .seq vs.toArray }, if_pos rfl⟩)) (fun b u z => ?_) (fun b z => ?_) fun _ => hk
    · by_cases hb : b = a
      · exact .inr ⟨_, _, if_pos hb⟩
      · exact .inl (if_neg hb)
    · by_cases hb : b = a
      · have z' := (if_pos hb).symm.trans z
        cases z'
        subst hb
        exact ⟨ha, by rw [List.length_map]; exact hl, vs, _, rv, ha⟩
      · have z' := (if_neg hb).symm.trans z
        cases z'
    · by_cases hb : b = a
      · exact hb
      · exact absurd (if_neg hb) z
end L2
namespace L2
open PySem PySem.Spec PyProof.Rows
abbrev KOf {K : PySem.W.Frag} {h : Heap} (_ : K.In h) : PySem.W.Frag := K
theorem walk_of {l : PySem.W.OpenLaw} {n k : Nat} {q : Program} {loose : List Str} {XP : (Str → Option Value) → Heap → Prop} {YP : World → Heap → Prop} {d : DefRec} {K : Params → PySem.W.Frag} {CX : World → CXT} {sp : World → Sp} {x : Str}
    (hn : l.most = some n) (hn2 : n ≤ sizeLine) (hdf : d.params.defaults = []) (hr : Room k callerA)
    (hY : ∀ (w : World) (h : Heap), YP w h → (K w.params).In h)
    (F : ∀ (w : World) (mg : Str → Option Value) (fa : Addr) (h : Heap), (K w.params).In h → h.Ns mainGlobals mg → mg d.name = some (.ref fa) →
      ∃ fd : FuncData, (∀ (s : Shared) (u : Value), BindsTo s fd ⟨[u], []⟩ [(x, u)]) ∧
        ∀ base : Heap, (K w.params).In base → base.Ns mainGlobals mg → FnOk l.prog w (K w.params) mg base (CX w) k fa fd [x] (sp w))
    (hsp : ∀ (w : World) (H : Hp) (a : Addr) (ns : List Int), ns.length ≤ n → Only H → SqL (K w.params) H a (ns.map V.int) → sp w [.ref a] H (fun v _ => v = .bl true) fun _ _ _ => False)
    (hCX : ∀ (w : World) (H : Hp) (s : Shared) (e : Value) (s' : Shared), CX w [] H s (fun _ _ _ => False) e s' → False) :
    PySem.W.WalkO q loose XP YP l.row.toRowW d [] (fun f vs => PySem.call f vs) := by
  refine Att.attach_call hn hdf fun w s₀ s₁ mg mb fa o pm cd doc a vs ns G Y ho hd hcd hmg hobj hints hlen hg => ?_
  have KX := hY w _ Y
  obtain ⟨fd, hb, hF⟩ := F w mg fa _ KX G.T.g hmg
  exact law_call KX G.T.g G.T.b G.T.builtins G.T.nolimit hg hobj hints (Nat.le_trans hlen hn2) hr hF hb (fun H hO hS => hsp w H a ns hlen hO hS) fun H e s' => hCX w H s₁ e s'
theorem walk_ofK {l : PySem.W.OpenLaw} {n k : Nat} {q : Program} {loose : List Str} {XP : (Str → Option Value) → Heap → Prop} {YP : World → Heap → Prop} {d : DefRec} {K : Params → PySem.W.Frag} {CX : CXT} {sp : PySem.W.Frag → Sp} {x : Str}
    (hn : l.most = some n) (hn2 : n ≤ sizeLine) (hdf : d.params.defaults = []) (hr : Room k callerA)
    (hY : ∀ (w : World) (h : Heap), YP w h → (K w.params).In h)
    (F : ∀ (w : World) (mg : Str → Option Value) (fa : Addr) (h : Heap), (K w.params).In h → h.Ns mainGlobals mg → mg d.name = some (.ref fa) →
      ∃ fd : FuncData, (∀ (s : Shared) (u : Value), BindsTo s fd ⟨[u], []⟩ [(x, u)]) ∧
        ∀ base : Heap, (K w.params).In base → base.Ns mainGlobals mg → FnOk l.prog w (K w.params) mg base CX k fa fd [x] (sp (K w.params)))
    (hsp : ∀ (K : PySem.W.Frag) (H : Hp) (a : Addr) (ns : List Int), ns.length ≤ n → Only H → SqL K H a (ns.map V.int) → sp K [.ref a] H (fun v _ => v = .bl true) fun _ _ _ => False)
    (hCX : ∀ (H : Hp) (s : Shared) (e : Value) (s' : Shared), CX [] H s (fun _ _ _ => False) e s' → False) :
    PySem.W.WalkO q loose XP YP l.row.toRowW d [] (fun f vs => PySem.call f vs) :=
  walk_of (K := K) (CX := fun _ => CX) (sp := fun w => sp (K w.params)) hn hn2 hdf hr hY F (fun w H a ns h1 h2 h3 => hsp (K w.params) H a ns h1 h2 h3) fun _ H s e s' => hCX H s e s'
end L2
namespace L2
open PySem PySem.Spec PyProof.Rows
def inClass (s : Stmt) (j : Nat) : Stmt := match s with
  | .ClassDef _ _ _ body _ _ _ _ _ _ _ => body.getD j (.Pass ⟨0, 0, 0, 0⟩)
  | _ => .Pass ⟨0, 0, 0, 0⟩
def defArgs (s : Stmt) : Arguments := match s with
  | .FunctionDef _ a _ _ _ _ _ _ _ _ => a
  | _ => { posonlyargs := [], args := [], vararg := none, kwonlyargs := [], kw_defaults := [], kwarg := none, defaults := [] }
def defBody (s : Stmt) : List Stmt := match s with
  | .FunctionDef _ _ b _ _ _ _ _ _ _ => b
  | _ => []
def defScope (s : Stmt) : Scope := match s with
  | .FunctionDef _ _ _ _ _ _ sc _ _ _ => sc
  | _ => { kind := .function, names := [], isGenerator := false, isCoroutine := false }
abbrev CX0 : CXT := fun _ _ _ _ _ _ => False
abbrev E0 : XK := fun _ _ _ => False
theorem pass0 {X : Cx} : Passes CX0 X E0 := fun _ _ _ _ _ _ _ h => h.elim
structure Fun (K : PySem.W.Frag) (x qual : Str) (st : Stmt) (f : Addr) (fd : FuncData) : Prop where
  ex : ∃ (oc : Value) (od : Option Addr) (kV doc pm : Value) (an : Option Addr) (cdv ct : Value) (osl : Array (Option Value)),
    fd = PySem.W.fnOf x qual (defArgs st) (defBody st) (defScope st) .none kV doc pm an cdv ct ∧ K.lookup f = some ⟨oc, od, .func fd, osl⟩ ∧ PySem.W.codeIn K cdv qual = true
  kp : PySem.W.keepIn K (.ref f) = true
section
variable {P : Program} {w : World} {K : PySem.W.Frag} {mg : Str → Option Value} {base : Heap}
theorem Fun.ok {x qual : Str} {st : Stmt} {f : Addr} {fd : FuncData} {N ps : List Str} {k : Nat} {sp : Sp} (F : Fun K x qual st f fd) (S : FnScope N ps (defScope st)) (len : ∀ vs H Q E, sp vs H Q E → vs.length = ps.length)
    (hbody : ∀ (cdv : Value) (A : Around) (outer : List Env) (s : Shared) (H : Hp) (vs : List V) (Q : VK) (E : XK), Room k (A.deeper (envOfC qual (defScope st) s.heap.objs.size f cdv)) → sp vs H Q E →
      ∃ t, PSs (cxOf CX0 P w K mg base N qual (defScope st) f cdv A outer s H E).nox (defBody st) t ∧ t { nx := fun _ H' => Q .non H', rt := Q } (start N vs) H) : FnOk P w K mg base CX0 (k + 1) f fd ps sp := by
  obtain ⟨oc, od, kV, doc, pm, an, cdv, ct, osl, rfl, lk, hcd⟩ := F.ex
  refine fn_of lk hcd S len fun A outer s H vs Q E hr hsp => ?_
  obtain ⟨t, h, q⟩ := hbody cdv A outer s H vs Q E hr hsp
  exact ⟨t, h.nox, q⟩
theorem Fun.binds {x qual : Str} {st : Stmt} {f : Addr} {fd : FuncData} {ps : List Str} (F : Fun K x qual st f fd)
    (h : ∀ (kV doc pm : Value) (an : Option Addr) (cdv ct : Value) (us : List Value), us.length = ps.length → bindArgs (PySem.W.fnOf x qual (defArgs st) (defBody st) (defScope st) .none kV doc pm an cdv ct) ⟨us, []⟩ = pure (ps.zip us)) : Binds K fd ps [] := by
  obtain ⟨oc, od, kV, doc, pm, an, cdv, ct, osl, rfl, lk, hcd⟩ := F.ex
  exact .all (h kV doc pm an cdv ct)
theorem fun_mk {x qual : Str} {st : Stmt} {f : Addr} {oc : Value} {od an : Option Addr} {osl : Array (Option Value)} {kV doc pm cdv ct : Value} (l : K.lookup f = some ⟨oc, od, .func (PySem.W.fnOf x qual (defArgs st) (defBody st) (defScope st) .none kV doc pm an cdv ct), osl⟩)
    (c : PySem.W.codeIn K cdv qual = true) (k : PySem.W.keepIn K (.ref f) = true) : Fun K x qual st f (PySem.W.fnOf x qual (defArgs st) (defBody st) (defScope st) .none kV doc pm an cdv ct) := ⟨⟨oc, od, kV, doc, pm, an, cdv, ct, osl, rfl, l, c⟩, k⟩
end
theorem hu_of {A : Around} {k : Nat} (hr : Room k A) : A.units + 1 < cLine := Nat.lt_of_le_of_lt (Nat.add_le_add_left (by decide : 1 ≤ 64) _) hr.units
section
variable {X : Cx}
theorem pv (i : Nat) {x : Str} {pos : Pos} (hN : X.N[i]? = some x := by rfl) (hv : Vis X.env.scope x := by first | exact Or.inl rfl | exact Or.inr (Or.inl rfl) | exact Or.inr (Or.inr rfl)) (hd : (x == ("__debug__" : Str)) = false := by decide)
    (hcd : (x == ("__classdict__" : Str)) = false := by decide) : PE X (.Name x pos) (tVar i) := pe_var hN hv hd hcd
end
theorem iteF {A B : Prop} (h : B) : if false = true then A else B := by
  rw [if_neg Bool.false_ne_true]
  exact h
theorem iteT {A B : Prop} (h : A) : if true = true then A else B := by
  rw [if_pos rfl]
  exact h
theorem ite2 {c A B : Prop} [Decidable c] (h1 : c → A) (h2 : ¬ c → B) : if c then A else B := by
  by_cases h : c
  · rw [if_pos h]
    exact h1 h
  · rw [if_neg h]
    exact h2 h
def Same (H H' : Hp) : Prop := ∀ b o, H b = some o → H' b = some o
theorem Same.refl (H : Hp) : Same H H := fun _ _ h => h
theorem Same.trans {H H1 H2 : Hp} (a : Same H H1) (b : Same H1 H2) : Same H H2 := fun c o h => b c o (a c o h)
theorem Same.free {H H' : Hp} (e : Same H H') {l : Addr} (h : H' l = Option.none) : H l = Option.none := by
  cases q : H l with
  | none => rfl
  | some o =>
    rw [e l o q] at h
    cases h
theorem Same.seq {K : PySem.W.Frag} {H H' : Hp} {a : Addr} {xs : List V} (e : Same H H') (h : SqL K H a xs) : SqL K H' a xs := by
  rcases h with (h | ⟨o, h⟩) | h
  · exact .inl (.inl (e _ _ h))
  · exact .inl (.inr ⟨o, e _ _ h⟩)
  · exact .inr h
section
variable {κ : Type} [DecidableEq κ]
end
end L2
set_option linter.all false
namespace UM
def stp (b : Bool) : Int := if b then 1 else -1
def tot (R : List Bool) : Int := (R.map stp).sum
def hts : Int → List Bool → List Int
  | h, [] => [h]
  | h, b :: r => h :: hts (h + stp b) r
theorem hts_length (h : Int) (R : List Bool) : (hts h R).length = R.length + 1 := by
  induction R generalizing h with
  | nil => rfl
  | cons b r ih => show (hts (h + stp b) r).length + 1 = _; rw [ih]; rfl
abbrev Mv := Bool × Bool
def bk (m : Mv) : Mv := (!m.1, !m.2)
theorem bk_bk (m : Mv) : bk (bk m) = m := by obtain ⟨a, b⟩ := m; simp [bk]
def push (m : Mv) : List Mv → List Mv
  | [] => [m]
  | x :: r => if x = bk m then r else m :: x :: r
def red (w : List Mv) : List Mv := w.foldr push []
def Red : List Mv → Prop
  | [] => True
  | [_] => True
  | x :: y :: r => y ≠ bk x ∧ Red (y :: r)
def kept (w : List Mv) : List Mv := w.foldl (fun st m => push m st) []
end UM
set_option linter.all false
namespace UM
def plc (xs : List Int) (i : Int) : Option Int := if 0 ≤ i then xs[i.toNat]? else none
def eqo : Option Int → Option Int → Bool
  | some a, some b => a == b
  | _, _ => false
def alike (xs ys : List Int) (i j : Int) : Bool := eqo (plc xs i) (plc ys j)
def all4 : List Mv := [(true, true), (true, false), (false, true), (false, false)]
def mvs (xs ys : List Int) (i j : Int) : List Mv := all4.filter fun m => alike xs ys (i + stp m.1) (j + stp m.2)
theorem plc_nat (xs : List Int) (i : Nat) : plc xs i = xs[i]? := by unfold plc; rw [if_pos (by omega)]; rfl
theorem plc_some {xs : List Int} {i : Int} (h0 : 0 ≤ i) (h1 : i < xs.length) : ∃ x, plc xs i = some x ∧ xs[i.toNat]? = some x := by
  unfold plc
  rw [if_pos h0]
  exact ⟨xs[i.toNat], List.getElem?_eq_getElem (by omega), List.getElem?_eq_getElem (by omega)⟩
def clm (top : Int) : Int → List Int → List Bool
  | h, [] => List.replicate (top - h).toNat true
  | h, c :: r => if h = 0 ∨ (h < top ∧ c % 2 = 0) then true :: clm top (h + 1) r else false :: clm top (h - 1) r
structure CH (xs : List Int) (top : Int) : Prop where
  top1 : 1 ≤ top
  len : 2 ≤ xs.length
  first : xs[0]? = some 0
  last : xs[xs.length - 1]? = some top
  lo : ∀ x ∈ xs, 0 ≤ x
  hi : ∀ x ∈ xs, x ≤ top
  nb : ∀ (k : Nat) x y, xs[k]? = some x → xs[k + 1]? = some y → y = x + 1 ∨ y = x - 1
theorem hts_head (h : Int) (R : List Bool) : (hts h R)[0]? = some h := by cases R <;> rfl
def Nbs (h top : Int) (l r : Option Int) (e0 e1 : Prop) : Prop :=
  (l = none ∧ r = some (h + 1) ∧ h = 0 ∧ e0 ∧ ¬ e1) ∨ (l = some (h - 1) ∧ r = none ∧ h = top ∧ e1 ∧ ¬ e0) ∨
    ((¬ e0 ∧ ¬ e1) ∧ (l = some (h + 1) ∧ h ≠ top ∨ l = some (h - 1) ∧ h ≠ 0) ∧ (r = some (h + 1) ∧ h ≠ top ∨ r = some (h - 1) ∧ h ≠ 0))
def b2n (b : Bool) : Nat := if b then 1 else 0
theorem eqo_pp (h : Int) : eqo (some h) (some h) = true := by simp [eqo]
theorem eqo_n (a : Option Int) : eqo none a = false := by cases a <;> rfl
theorem eqo_n' (a : Option Int) : eqo a none = false := by cases a <;> rfl
end UM
set_option linter.all false
namespace UM
abbrev Pr := Int × Int
def adv (p : Pr) (m : Mv) : Pr := (p.1 + stp m.1, p.2 + stp m.2)
theorem adv_bk (p : Pr) (m : Mv) : adv (adv p m) (bk m) = p := by
  obtain ⟨i, j⟩ := p
  obtain ⟨a, b⟩ := m
  cases a <;> cases b <;> simp [adv, bk, stp] <;> omega
theorem adv_bk' (p : Pr) (m : Mv) : adv (adv p (bk m)) m = p := by
  have := adv_bk p (bk m)
  rwa [bk_bk] at this
def alk (xs ys : List Int) (p : Pr) : Bool := alike xs ys p.1 p.2
theorem alk_adv (xs ys : List Int) (p : Pr) (m : Mv) : alk xs ys (adv p m) = alike xs ys (p.1 + stp m.1) (p.2 + stp m.2) := rfl
theorem plc_in {xs : List Int} {i x : Int} (h : plc xs i = some x) : 0 ≤ i ∧ i < xs.length := by
  unfold plc at h
  by_cases q : 0 ≤ i
  · rw [if_pos q] at h
    obtain ⟨h1, _⟩ := List.getElem?_eq_some_iff.mp h
    exact ⟨q, by omega⟩
  · rw [if_neg q] at h
    cases h
theorem alike_in {xs ys : List Int} {i j : Int} (h : alike xs ys i j = true) : (0 ≤ i ∧ i < xs.length) ∧ (0 ≤ j ∧ j < ys.length) := by
  unfold alike at h
  cases e : plc xs i with
  | none => rw [e, eqo_n] at h; cases h
  | some x =>
    cases e' : plc ys j with
    | none => rw [e', eqo_n'] at h; cases h
    | some y => exact ⟨plc_in e, plc_in e'⟩
def wlk (xs ys : List Int) : Pr → List Mv → Option Pr
  | p, [] => some p
  | p, m :: r => if alk xs ys (adv p m) = true then wlk xs ys (adv p m) r else none
theorem wlk_append (xs ys : List Int) (a b : List Mv) : ∀ p, wlk xs ys p (a ++ b) = (wlk xs ys p a).bind fun q => wlk xs ys q b := by
  induction a with
  | nil => intro p; rfl
  | cons m a ih =>
    intro p
    show (if alk xs ys (adv p m) = true then wlk xs ys (adv p m) (a ++ b) else none) = (if alk xs ys (adv p m) = true then wlk xs ys (adv p m) a else none).bind fun q => wlk xs ys q b
    by_cases h : alk xs ys (adv p m) = true
    · rw [if_pos h, if_pos h]; exact ih _
    · rw [if_neg h, if_neg h]; rfl
abbrev Dc := List (Pr × Option Mv)
abbrev ks (D : Dc) : List Pr := D.map (·.1)
inductive GD (xs ys : List Int) : Dc → Prop
  | base : GD xs ys [((0, 0), none)]
  | snoc {D : Dc} {p : Pr} {m : Mv} : GD xs ys D → p ∈ ks D → alk xs ys (adv p m) = true → adv p m ∉ ks D → GD xs ys (D ++ [(adv p m, some m)])
theorem ks_snoc (D : Dc) (p : Pr) (o : Option Mv) : ks (D ++ [(p, o)]) = ks D ++ [p] := by simp [ks]
theorem GD.foot {xs ys : List Int} {D : Dc} (g : GD xs ys D) : (0, 0) ∈ ks D := by
  induction g with
  | base => exact List.mem_cons_self
  | snoc _ _ _ _ ih => rw [ks_snoc]; exact List.mem_append_left _ ih
theorem GD.nodup {xs ys : List Int} {D : Dc} (g : GD xs ys D) : (ks D).Nodup := by
  induction g with
  | base => simp [ks]
  | snoc _ _ _ hn ih =>
    rw [ks_snoc]
    refine List.nodup_append.mpr ⟨ih, by simp, ?_⟩
    intro a ha b hb e
    rw [List.mem_singleton] at hb
    subst e hb
    exact hn ha
theorem GD.alk {xs ys : List Int} {D : Dc} (g : GD xs ys D) (h0 : alk xs ys (0, 0) = true) : ∀ p ∈ ks D, alk xs ys p = true := by
  induction g with
  | base =>
    intro p hp
    have : p = (0, 0) := by simpa [ks] using hp
    rw [this]; exact h0
  | snoc _ _ ha _ ih =>
    intro p hp
    rw [ks_snoc] at hp
    rcases List.mem_append.mp hp with h | h
    · exact ih p h
    · rw [List.mem_singleton] at h
      rw [h]; exact ha
def dlk (D : Dc) (p : Pr) : Option (Option Mv) := (D.find? fun e => decide (e.1 = p)).map (·.2)
theorem dlk_none {D : Dc} {p : Pr} : dlk D p = none ↔ p ∉ ks D := by
  unfold dlk ks
  rw [Option.map_eq_none_iff, List.find?_eq_none]
  constructor
  · intro h hm
    obtain ⟨e, he, q⟩ := List.mem_map.mp hm
    exact h e he (decide_eq_true q)
  · intro h e he q
    exact h (List.mem_map.mpr ⟨e, he, of_decide_eq_true q⟩)
theorem dlk_left {D E : Dc} {p : Pr} (h : p ∈ ks D) : dlk (D ++ E) p = dlk D p := by
  unfold dlk
  rw [List.find?_append]
  cases e : D.find? (fun e => decide (e.1 = p)) with
  | none =>
    exfalso
    have : dlk D p = none := by unfold dlk; rw [e]; rfl
    exact dlk_none.mp this h
  | some a => rfl
theorem dlk_right {D : Dc} {p : Pr} {o : Option Mv} (h : p ∉ ks D) : dlk (D ++ [(p, o)]) p = some o := by
  have e : D.find? (fun e => decide (e.1 = p)) = none := by
    have := dlk_none.mpr h
    unfold dlk at this
    exact Option.map_eq_none_iff.mp this
  unfold dlk
  rw [List.find?_append, e]
  simp
theorem ixl {a b : List Pr} {x : Pr} (h : x ∈ a) : (a ++ b).idxOf x = a.idxOf x := by rw [List.idxOf_append, if_pos h]
theorem GD.back {xs ys : List Int} {D : Dc} (g : GD xs ys D) {p : Pr} (hp : p ∈ ks D) (h0 : p ≠ (0, 0)) : ∃ m, dlk D p = some (some m) ∧ adv p (bk m) ∈ ks D ∧ (ks D).idxOf (adv p (bk m)) < (ks D).idxOf p := by
  induction g with
  | base =>
    exfalso
    exact h0 (by simpa [ks] using hp)
  | @snoc D q m g hq ha hn ih =>
    by_cases hm : p ∈ ks D
    · obtain ⟨n, h1, h2, h3⟩ := ih hm
      refine ⟨n, ?_, ?_, ?_⟩
      · rw [dlk_left hm]; exact h1
      · rw [ks_snoc]; exact List.mem_append_left _ h2
      · rw [ks_snoc, ixl h2, ixl hm]; exact h3
    · rw [ks_snoc] at hp
      have e : p = adv q m := by
        rcases List.mem_append.mp hp with h | h
        · exact absurd h hm
        · exact List.mem_singleton.mp h
      subst e
      refine ⟨m, ?_, ?_, ?_⟩
      · exact dlk_right hn
      · rw [ks_snoc, adv_bk]; exact List.mem_append_left _ hq
      · rw [ks_snoc, adv_bk, ixl hq, List.idxOf_append, if_neg hn]
        have := List.idxOf_lt_length_of_mem hq
        omega
theorem nodup_sub {α : Type} [DecidableEq α] : ∀ {a b : List α}, a.Nodup → (∀ x ∈ a, x ∈ b) → a.length ≤ b.length
  | [], b, _, _ => Nat.zero_le _
  | x :: a, b, h, s => by
    have hx : x ∈ b := s x List.mem_cons_self
    have h' := List.nodup_cons.mp h
    have := nodup_sub (a := a) (b := b.erase x) h'.2 fun y hy => (List.mem_erase_of_ne fun e => h'.1 (by rw [← e]; exact hy)).mpr (s y (List.mem_cons_of_mem _ hy))
    rw [List.length_erase_of_mem hx] at this
    have hb : 0 < b.length := List.length_pos_of_mem hx
    rw [List.length_cons]
    omega
def prs (xs ys : List Int) : List Pr := ((List.range xs.length).map fun i => ((List.range ys.length).map fun j => (((i : Nat) : Int), ((j : Nat) : Int)))).flatten
theorem mem_prs {xs ys : List Int} {p : Pr} : p ∈ prs xs ys ↔ (0 ≤ p.1 ∧ p.1 < xs.length) ∧ (0 ≤ p.2 ∧ p.2 < ys.length) := by
  unfold prs
  obtain ⟨i, j⟩ := p
  simp only [List.mem_flatten, List.mem_map, List.mem_range]
  constructor
  · rintro ⟨l, ⟨a, ha, rfl⟩, hl⟩
    obtain ⟨b, hb, e⟩ := List.mem_map.mp hl
    rw [List.mem_range] at hb
    cases e
    exact ⟨⟨by omega, by omega⟩, ⟨by omega, by omega⟩⟩
  · rintro ⟨⟨h1, h2⟩, h3, h4⟩
    refine ⟨_, ⟨i.toNat, by omega, rfl⟩, List.mem_map.mpr ⟨j.toNat, List.mem_range.mpr (by omega), ?_⟩⟩
    rw [Prod.mk.injEq]
    constructor <;> omega
def cnt (xs ys : List Int) : Nat := ((prs xs ys).filter (alk xs ys)).length
theorem prs_len (xs ys : List Int) : (prs xs ys).length = xs.length * ys.length := by
  unfold prs
  rw [List.length_flatten, List.map_map]
  have : ((List.length ∘ fun i => (List.range ys.length).map fun j => (((i : Nat) : Int), ((j : Nat) : Int))) : Nat → Nat) = fun _ => ys.length := by
    funext i
    simp
  rw [this]
  have f : ∀ n : Nat, ((List.range n).map fun _ => ys.length).sum = n * ys.length := by
    intro n
    induction n with
    | zero => simp
    | succ n ih => rw [List.range_succ, List.map_append, List.sum_append, ih]; simp [Nat.succ_mul]
  exact f _
theorem cnt_le (xs ys : List Int) : cnt xs ys ≤ xs.length * ys.length := by
  unfold cnt
  rw [← prs_len]
  exact List.length_filter_le _ _
theorem GD.len {xs ys : List Int} {D : Dc} (g : GD xs ys D) (h0 : UM.alk xs ys (0, 0) = true) : D.length ≤ cnt xs ys := by
  have := nodup_sub (b := (prs xs ys).filter (UM.alk xs ys)) g.nodup fun p hp => by
    have ha := g.alk h0 p hp
    exact List.mem_filter.mpr ⟨mem_prs.mpr (alike_in ha), ha⟩
  rw [List.length_map] at this
  exact this
def Clo (xs ys : List Int) (K : List Pr) : Prop := ∀ p ∈ K, ∀ m, alk xs ys (adv p m) = true → adv p m ∈ K
def cm (xs ys : List Int) (K : List Pr) (m : Mv) : Nat := (K.filter fun p => alk xs ys (adv p m)).length
def Clm (R : List Bool) : Prop := ∀ x ∈ hts 0 R, 0 ≤ x ∧ x ≤ tot R
theorem alk00 (R S : List Bool) : alk (hts 0 R) (hts 0 S) (0, 0) = true := by
  unfold alk alike
  have h1 : plc (hts 0 R) 0 = some 0 := (plc_nat _ 0).trans (hts_head 0 R)
  have h2 : plc (hts 0 S) 0 = some 0 := (plc_nat _ 0).trans (hts_head 0 S)
  rw [h1, h2]
  rfl
end UM
set_option linter.all false
namespace UM
def ht (L : List Bool) (x : Int) : Int := (hts 0 L).getD x.toNat 0
def stAt (L : List Bool) (x : Int) : Bool := L.getD x.toNat false
def gone (L : List Bool) : Int → List Bool → List Bool
  | _, [] => []
  | p, true :: w => stAt L p :: gone L (p + 1) w
  | p, false :: w => (!stAt L (p - 1)) :: gone L (p - 1) w
def Wd (L : List Bool) (p : Int) (w : List Bool) : Prop := ∀ x ∈ hts p w, 0 ≤ x ∧ x ≤ L.length
def trc : Pr → List Mv → List Pr
  | p, [] => [p]
  | p, m :: r => p :: trc (adv p m) r
def cc (R : List Bool) (h : Int) : Nat := (hts 0 R).count h
def flz (R : List Bool) : Nat := R.count false
def pls (R : List Bool) (h : Int) : List Int := ((List.range (R.length + 1)).map fun n => ((n : Nat) : Int)).filter fun x => decide (ht R x = h)
def prod (a b : List Int) : List Pr := (a.map fun x => b.map fun y => (x, y)).flatten
inductive US (W : List Bool) : List (List Bool) → List (List Bool) → Prop
  | nil : US W [] []
  | cons {c w : List Bool} {cs ws : List (List Bool)} : hts 0 W = (hts 0 w).map (ht c) → Wd c 0 w → tot w = c.length → US W cs ws → US W (c :: cs) (w :: ws)
end UM
set_option linter.all false
namespace UM
def abt (R : List Bool) : List Bool := (R.map not).reverse
def Rng (R : List Bool) : Prop := tot R = 0 ∧ ∀ x ∈ hts 0 R, 0 ≤ x
def fl2 (m : Mv) : Mv := (m.1, !m.2)
def sw (m : Mv) : Mv := (m.2, m.1)
def drw : Int → List Int → List Bool
  | h, [] => List.replicate h.toNat false
  | h, c :: r => if h = 0 ∨ c % 2 = 0 then true :: drw (h + 1) r else false :: drw (h - 1) r
end UM
set_option Elab.async false
set_option linter.all false
set_option maxRecDepth 100000
set_option maxHeartbeats 4000000
namespace L2
open PySem PySem.Spec PyProof.Rows
def sg (c : Nat) : V := .str ⟨#[c]⟩
def Its (z : Str) : It := ⟨fun i _ => i < z.cps.size, fun i H v H' => H' = H ∧ ∃ c, z.cps[i]? = some c ∧ v = sg c, fun i _ => i = z.cps.size⟩
theorem go_str {M : Model} {A : Around} {E : Value → Shared → Prop} {s : Shared} {tg : Expr} {it : Addr} {z : Str} {t : Tok} {Q : Unit → Shared → Prop} (hQ : Q () s) :
    wpAny M A (letOwnedTupleGo tg (.ref it) (.str z t)) Q E s := by
  unfold letOwnedTupleGo
  cases tg <;> exact wpAny_pure hQ
theorem turn_str {P : Program} {w : World} {K : PySem.W.Frag} {tg : Expr} {it : Addr} {z : Str} {t : Tok} {ty : String}
    (W : ∀ A' : Around, A'.handled = none → Walks P w A' it [it] [it] z.cps.size (SignAt z) (fun i h => h.IsStrIter it ty z t i))
    (sf : ∀ (A : Around) (i : Nat) (s : Shared) (Q : Value → Shared → Prop) (E : Value → Shared → Prop), s.heap.IsStrIter it ty z t i → Q (.ref it) s → wpAny (model P w) A (pyIter (.ref it)) Q E s) :
    Turn P w K tg (Its z) [it] it (fun i h => h.IsStrIter it ty z t i) where
  mem := by simp
  obj := fun i h st b hb => by
    have e : b = it := by simpa using hb
    subst e
    obtain ⟨o, e, c, d⟩ := st
    exact ⟨o, e, fun v z => by rw [d] at z; cases z⟩
  keep := fun i h h' st k => by
    obtain ⟨o, e, r⟩ := st
    exact ⟨o, k it (by simp) o e, r⟩
  item := by
    intro X hP hw hK hc i pins s σ H E I hf st hg
    subst hP hw hK
    obtain ⟨f0, f1, f2, f3, f4, f5⟩ := hf it (by simp)
    refine (W X.A (I.ok.hd hc)).item i s _ _ hg st fun v h' tk hv st' kk => ?_
    obtain ⟨c, u, hcx, rfl⟩ := hv
    have I1 : Inv X pins σ H { s with heap := h', toks := tk } := I.turned (fun b o hb e => kk b o (by simpa using hb) e) f0 f1 f3 f4 f5
    exact ⟨_, rfl, go_str ⟨sg c, H, I1, ⟨_, rfl⟩, ⟨rfl, c, hcx, rfl⟩, st', fun b hb => (hf b hb).1⟩⟩
  done := by
    intro X hP hw hK hc i pins s σ H E I hf st hg
    subst hP hw hK
    obtain ⟨f0, f1, f2, f3, f4, f5⟩ := hf it (by simp)
    have hg : i = z.cps.size := hg
    subst hg
    exact (W X.A (I.ok.hd hc)).done s _ _ st fun h' tk kk => ⟨rfl, I.turned (fun b o hb e => kk b o (by simpa using hb) e) f0 f1 f3 f4 f5⟩
  self := fun A i s Q E st h => sf A i s Q E st h
def iStr (tl : TE) : TI := fun σ H R => tl σ H fun x H1 => ∃ z, x = .str z ∧ R (Its z) H1
theorem pi_str {X : Cx} {tg l : Expr} {tl : TE} (hl : PE X l tl) : PI X tg l (iStr tl) := by
  intro pins s σ H R I h
  refine thn (hl pins s σ H _ I h) fun v s1 ⟨x, H1, I1, r1, q1⟩ => ?_
  obtain ⟨z, e, q⟩ := q1
  subst e
  obtain ⟨t, rfl⟩ := r1
  have fp : ∀ b, b ∈ [s1.heap.objs.size] → FpOk X pins H1 b := fun b hb => by
    have e : b = s1.heap.objs.size := by simpa using hb
    subst e
    exact I1.fpOk (Nat.le_refl _) (I1.hok.fresh (Nat.le_refl _))
  cases ha : z.cps.all (· < 128)
  · exact wpAny_pyIter_wide ha ⟨s1.heap.objs.size, [s1.heap.objs.size], _, _, H1, rfl, I1.kept (t' := s1.toks) fun b o e => Heap.get?_push_of_some _ e,
      turn_str (ty := "str_iterator") (fun A' hA => Walks.strWide hA _ z t) (fun _ _ _ _ _ st h => wpAny_pyIter_striter_wide st h), ⟨_, Heap.get?_push_size _ rfl, rfl, rfl⟩, fp, q⟩
  · exact wpAny_pyIter_ascii ha ⟨s1.heap.objs.size, [s1.heap.objs.size], _, _, H1, rfl, I1.kept (t' := s1.toks) fun b o e => Heap.get?_push_of_some _ e,
      turn_str (ty := "str_ascii_iterator") (fun A' hA => Walks.strAscii hA _ z t) (fun _ _ _ _ _ st h => wpAny_pyIter_striter_ascii st h), ⟨_, Heap.get?_push_size _ rfl, rfl, rfl⟩, fp, q⟩
structure ItOf (J : It) (xs : List V) (G : Hp → Prop) : Prop where
  go : ∀ i H, i < xs.length → G H → J.go i H
  yld : ∀ i H x H', G H → J.yld i H x H' → i < xs.length → H' = H ∧ xs[i]? = some x
  stop : ∀ H, G H → J.stop xs.length H
theorem ItOf.list (K : PySem.W.Frag) (a : Addr) (xs : List V) : ItOf (Itl K a) xs (fun H => SqL K H a xs) where
  go := fun i H hi g => ⟨xs, xs[i], g, by simp [hi]⟩
  yld := fun i H x H' g y hi => ⟨y.1, y.2 xs g⟩
  stop := fun H g => ⟨xs, g, Nat.le_refl _⟩
theorem ItOf.tup (K : PySem.W.Frag) (a : Addr) (xs : List V) : ItOf (Itt K a) xs (fun H => SqT K H a xs) where
  go := fun i H hi g => ⟨xs, xs[i], g, by simp [hi]⟩
  yld := fun i H x H' g y hi => ⟨y.1, y.2 xs g⟩
  stop := fun H g => ⟨xs, g, Nat.le_refl _⟩
def rngV (lo : Int) (n : Nat) : List V := (List.range n).map fun (i : Nat) => V.int (lo + (i : Int))
theorem ItOf.rng (lo : Int) (n : Nat) : ItOf (Itr lo n) (rngV lo n) (fun _ => True) where
  go := fun i H hi _ => by show i < n; simpa [rngV] using hi
  yld := fun i H x H' _ y hi => by
    have hi' : i < n := by simpa [rngV] using hi
    obtain ⟨e, y⟩ := y
    refine ⟨e, ?_⟩
    subst y
    simp [rngV, hi']
  stop := fun H _ => by show n ≤ (rngV lo n).length; simp [rngV]
def sgs (z : Str) : List V := z.cps.toList.map sg
theorem ItOf.str (z : Str) : ItOf (Its z) (sgs z) (fun _ => True) where
  go := fun i H hi _ => by show i < z.cps.size; simpa [sgs] using hi
  yld := fun i H x H' _ y hi => by
    obtain ⟨e, c, hc, hx⟩ := y
    refine ⟨e, ?_⟩
    subst hx
    simp [sgs, List.getElem?_map, hc]
  stop := fun H _ => by show (sgs z).length = z.cps.size; simp [sgs]
theorem for_each {J : It} {xs : List V} {G : Hp → Prop} (hJ : ItOf J xs G) {g : TG} {tb : TS} {D : Ends} {σ : St} {H : Hp} (Pv : List V → St → Hp → Prop)
    (h0 : Pv xs σ H) (hl : ∀ r σ H, Pv r σ H → G H)
    (hs : ∀ x r σ H, Pv (x :: r) σ H → g x σ H fun σ2 H2 => tb { D with nx := Pv r, ct := Pv r, bk := D.nx } σ2 H2) (hd : ∀ σ H, Pv [] σ H → D.nx σ H) :
    ∃ W : Nat → Nat → St → Hp → Prop, (∃ m, W 0 m σ H) ∧ ∀ i m σ H, W i m σ H →
      (J.stop i H ∧ D.nx σ H) ∨ (J.go i H ∧ ∃ N : St → Hp → Prop, (∀ σ' H', N σ' H' → ∃ m', m' < m ∧ W (i + 1) m' σ' H') ∧ ∀ x H', J.yld i H x H' → g x σ H' fun σ2 H2 => tb { D with nx := N, ct := N, bk := D.nx } σ2 H2) := by
  refine ⟨fun i m σ H => m = xs.length - i ∧ i ≤ xs.length ∧ Pv (xs.drop i) σ H, ⟨xs.length, by simp, Nat.zero_le _, by simpa using h0⟩, ?_⟩
  rintro i m σ H ⟨rfl, hi, p⟩
  have q := hl _ σ H p
  by_cases hlt : i < xs.length
  · have ed : xs.drop i = xs[i] :: xs.drop (i + 1) := List.drop_eq_getElem_cons hlt
    refine .inr ⟨hJ.go i H hlt q, Pv (xs.drop (i + 1)), fun σ' H' p' => ⟨xs.length - (i + 1), by omega, rfl, hlt, p'⟩, fun x H' y => ?_⟩
    obtain ⟨e, yx⟩ := hJ.yld i H x H' q y hlt
    subst e
    rw [List.getElem?_eq_getElem hlt] at yx
    cases yx
    rw [ed] at p
    exact hs _ _ σ _ p
  · have e : i = xs.length := by omega
    subst e
    exact .inl ⟨hJ.stop H q, hd σ H (by simpa using p)⟩
section
variable {prog : Program} {w : World} {A : Around} {R : Result → Shared → Prop} {s : Shared}
theorem compLoop_any {elt target iter : Expr} {ifs : List Expr} {scope : Scope} {pos : Pos} {it acc : Value} {env : Env} (I : Nat → Shared → Prop)
    (turn : ∀ n s, I n s → wpAny (model prog w) A (pyNext it) (fun r s₁ => match r with
      | none => R (.ok .next) s₁
      | some v => wpAny (model prog w) A (letOwnedTupleGo target it v) (fun _ s₁' => wpAny (model prog w) A (assign target env v) (fun _ s₂ =>
          wpAny (model prog w) A (forIn ifs true fun c r => if r = true then do let ok ← isTrue c env (eval c env); pure (ForInStep.yield ok) else pure (ForInStep.yield r)) (fun ok s₃ =>
            if ok = true then wpAny (model prog w) A (eval elt env) (fun x s₄ =>
              wpAny (model prog w) A (call (.builtin "list.append") [acc, x]) (fun _ s₅ => ∃ m, m < n ∧ I m s₅) (fun _ _ => False) s₄) (fun _ _ => False) s₃
            else ∃ m, m < n ∧ I m s₃) (fun _ _ => False) s₂) (fun _ _ => False) s₁') (fun _ _ => False) s₁) (fun _ _ => False) s)
    (n : Nat) (h : I n s) :
    codeAny (model prog w) A (.compLoop (.ListComp elt [⟨target, iter, ifs, 0⟩] scope pos) 0 it acc env) R s := by
  refine codeAny_loop rfl I (fun n s hI => ?_) n h
  show wpAny _ A ((compTurn (.ListComp elt [⟨target, iter, ifs, 0⟩] scope pos) 0 it acc env).onRaise (fun x => do noteFrame x env; theTreesLotGoes x)) _ _ s
  refine wpAny_noted ?_
  rw [compTurn_list]
  refine wpAny_bind (wpAny_standAt (wpAny_bind (wpAny_mono (turn n s hI) (fun r s₁ h₁ => ?_) fun _ _ h' => h'.elim)))
  cases r with
  | none => exact wpAny_pure h₁
  | some v =>
    refine wpAny_bind (wpAny_mono h₁ (fun _ s₁' h₁' => ?_) fun _ _ h' => h'.elim)
    refine wpAny_bind (wpAny_mono h₁' (fun _ s₂ h₂ => wpAny_bind (wpAny_mono h₂ (fun ok s₃ h₃ => ?_) fun _ _ h' => h'.elim)) fun _ _ h' => h'.elim)
    cases ok with
    | false => exact wpAny_pure ⟨rfl, h₃⟩
    | true =>
      exact wpAny_bind (wpAny_bind (wpAny_mono h₃ (fun x s₄ h₄ => wpAny_bind (wpAny_mono h₄ (fun _ s₅ h₅ => wpAny_pure (wpAny_pure ⟨rfl, h₅⟩)) fun _ _ h' => h'.elim)) fun _ _ h' => h'.elim))
end
theorem closure_go {env : Env} : ∀ (names : List (Str × NameKind)) (acc : List (Str × Addr)), (∀ y ∈ names, y.2 = .free → ∃ c, env.cells.lookup y.1 = some c) → (∀ n c, acc.lookup n = some c → env.cells.lookup n = some c) →
    ∃ cl : List (Str × Addr), (forIn names acc fun x (cs : List (Str × Addr)) => if (x.2 == NameKind.free) = true then (do let a ← cellOf env x.1; pure (ForInStep.yield ((x.1, a) :: cs))) else pure (ForInStep.yield cs) : Sem (List (Str × Addr))) = pure cl ∧
      (∀ n c, cl.lookup n = some c → env.cells.lookup n = some c) ∧ (∀ n, (acc.lookup n).isSome = true → (cl.lookup n).isSome = true) ∧ ∀ y ∈ names, y.2 = .free → (cl.lookup y.1).isSome = true := by
  intro names
  induction names with
  | nil => intro acc _ ha; exact ⟨acc, rfl, ha, fun _ h => h, fun y hy => nomatch hy⟩
  | cons y r ih =>
    intro acc h ha
    obtain ⟨n, k⟩ := y
    rw [List.forIn_cons]
    by_cases hk : k = .free
    · subst hk
      obtain ⟨c, hc⟩ := h (n, .free) List.mem_cons_self rfl
      have hc : env.cells.lookup n = some c := hc
      obtain ⟨cl, e, h1, h2, h3⟩ := ih ((n, c) :: acc) (fun y hy => h y (List.mem_cons_of_mem _ hy)) (fun m d hm => by
        rw [List.lookup_cons] at hm
        cases q : (m == n) with
        | true => rw [q] at hm; have e : m = n := beq_iff_eq.mp q; subst e; cases hm; exact hc
        | false => rw [q] at hm; exact ha m d hm)
      have hin : ((cl.lookup n).isSome) = true := h2 n (by rw [List.lookup_cons, beq_self_eq_true]; rfl)
      refine ⟨cl, ?_, h1, fun m hm => h2 m ?_, fun y hy hf => ?_⟩
      · have e0 : cellOf env n = pure c := by unfold cellOf; rw [hc]
        simp only [beq_self_eq_true, if_true]
        rw [e0, pure_bind, pure_bind]
        exact e
      · rw [List.lookup_cons]
        cases q : (m == n) with
        | true => rfl
        | false => exact hm
      · rcases List.mem_cons.mp hy with rfl | hy
        · exact hin
        · exact h3 y hy hf
    · have hb : (k == NameKind.free) = false := by simpa using hk
      obtain ⟨cl, e, h1, h2, h3⟩ := ih acc (fun y hy => h y (List.mem_cons_of_mem _ hy)) ha
      refine ⟨cl, ?_, h1, h2, fun y hy hf => ?_⟩
      · simp only [hb, Bool.false_eq_true, if_false]
        rw [pure_bind]
        exact e
      · rcases List.mem_cons.mp hy with rfl | hy
        · exact absurd hf hk
        · exact h3 y hy hf
theorem closureFor_of {scope : Scope} {env : Env} (h : ∀ y ∈ scope.names, y.2 = .free → ∃ c, env.cells.lookup y.1 = some c) :
    ∃ cl, closureFor scope env = pure cl ∧ (∀ n c, cl.lookup n = some c → env.cells.lookup n = some c) ∧ ∀ y ∈ scope.names, y.2 = .free → (cl.lookup y.1).isSome = true := by
  obtain ⟨cl, e, h1, _, h3⟩ := closure_go scope.names [] h (fun n c q => nomatch q)
  refine ⟨cl, ?_, h1, h3⟩
  have e2 : closureFor scope env = (forIn scope.names ([] : List (Str × Addr)) fun x (cs : List (Str × Addr)) => if (x.2 == NameKind.free) = true then (do let a ← cellOf env x.1; pure (ForInStep.yield ((x.1, a) :: cs))) else pure (ForInStep.yield cs) : Sem (List (Str × Addr))) >>= fun cs => pure cs := rfl
  rw [e2, e]
  rfl
theorem lookup_relabel {env : Env} {x : Str} : ∀ {names : List (Str × NameKind)},
    (names.map fun (n, k) => if (k == NameKind.free && env.scope.kind == .function && env.kindOf n == some .cell) then (n, NameKind.cell) else (n, k)).lookup x = names.lookup x ∨
    (names.lookup x = some .free ∧ (names.map fun (n, k) => if (k == NameKind.free && env.scope.kind == .function && env.kindOf n == some .cell) then (n, NameKind.cell) else (n, k)).lookup x = some .cell)
  | [] => .inl rfl
  | (n, k) :: r => by
    have ih := @lookup_relabel env x r
    rw [List.map_cons]
    by_cases hc : (k == NameKind.free && env.scope.kind == .function && env.kindOf n == some .cell) = true
    · dsimp only
      rw [if_pos hc, List.lookup_cons, List.lookup_cons]
      cases hx : x == n with
      | true =>
        rw [Bool.and_eq_true, Bool.and_eq_true] at hc
        have e : k = .free := by simpa using hc.1.1
        subst e
        exact .inr ⟨rfl, rfl⟩
      | false => exact ih
    · dsimp only
      rw [if_neg hc, List.lookup_cons, List.lookup_cons]
      cases hx : x == n with
      | true => exact .inl rfl
      | false => exact ih
def cxC (X : Cx) (N' : List Str) (sc : Scope) (cl : List (Str × Addr)) (C : Addr) (s : Shared) (H : Hp) (fp : List Addr) : Cx where
  prog := X.prog
  w := X.w
  K := X.K
  mg := X.mg
  base := X.base
  A := X.A
  N := N'
  s₀ := s
  H₀ := H
  env := compEnvC sc cl C X.env
  outer := X.stack
  stack := X.stack
  ex := fp
  fn := fun _ => false
  calm := X.calm
  pn := []
  xe := fun _ _ => False
structure CompOk (N : List Str) (dsc sc : Scope) (x : Str) (ns : List Str) (ix : List Nat) : Prop where
  kind : sc.kind = .function
  cell : ∀ y ∈ sc.names, y.2 ≠ .cell
  loc : ∀ y ∈ sc.names, y.2 = .local → sc.names.lookup y.1 = some .local
  tgt : sc.names.lookup x = some .local
  free : ∀ y ∈ sc.names, y.2 = .free → dsc.names.lookup y.1 = some .cell ∨ dsc.names.lookup y.1 = some .free
  from_ : ns.map some = ix.map fun i => N[i]?
  frk : ∀ n ∈ ns, sc.names.lookup n = some .free
  nd : (x :: ns).Nodup
def freeSt (σ : St) (ix : List Nat) : St := none :: ix.map fun i => (σ[i]?).join
theorem comp_start {X : Cx} {sc : Scope} {x : Str} {ns : List Str} {ix : List Nat} {cl : List (Str × Addr)} {pins : List (Addr × Obj)} {σ : St} {H : Hp} {s s4 : Shared} {fp : List Addr} (c : CompOk X.N X.env.scope sc x ns ix)
    (I : Inv X pins σ H s) (hfp : ∀ b ∈ fp, FpOk X pins H b) (hfl : ∀ b ∈ fp, b < s.heap.objs.size) (h1 : ∀ n d, cl.lookup n = some d → X.env.cells.lookup n = some d) (h2 : ∀ y ∈ sc.names, y.2 = .free → (cl.lookup y.1).isSome = true)
    (hos : s4.os = s.os) (hg : s4.gens = s.gens) {m : Str → Option Value} (hn : s4.heap.Ns s.heap.objs.size m) (kk : ∀ b o, s.heap.get? b = some o → s4.heap.get? b = some o) :
    Inv (cxC X (x :: ns) sc cl s.heap.objs.size s H fp) [] (freeSt σ ix) H s4 := by
  have rl : ∀ y k, (relabel sc X.env).names.lookup y = some k → k = .cell ∨ k = .free → sc.names.lookup y = some .free := fun y k e hk => by
    rcases @lookup_relabel X.env y sc.names with q | ⟨q, _⟩
    · have e' : sc.names.lookup y = some k := by rw [← q]; exact e
      rcases hk with rfl | rfl
      · exact absurd rfl (c.cell _ (PySem.mem_of_lookup e'))
      · exact e'
    · exact q
  refine ⟨⟨I.ok.mod, c.kind, I.ok.glob, I.ok.blt, Nat.le_refl _, fun y z d a b => I.ok.inj y z d (h1 y d a) (h1 z d b), fun y hy => ?_, fun y d hf _ => absurd hf Bool.false_ne_true, I.ok.hd, I.ok.frames, .inl rfl, fun b hb => ⟨Nat.ne_of_lt (hfl b hb), fun y d e => (hfp b hb).2.2.2.2.1 y d (h1 y d e)⟩,
    I.bs, Nat.le_trans I.ok.bsz I.sz, fun b o e hb => ?_, fun b hb z => ?_, I.stack, I.stkFree⟩, hos, by rw [hg]; exact I.bare, Un.kept kk, ⟨m, hn, fun i y v e1 e2 e3 => ?_⟩, fun y d e => ?_, I.fresh, fun y d e => I.freeC y d (h1 y d e), fun p hp => absurd hp (by show p ∉ ([] : List (Addr × Obj)) ++ []; simp), I.hok.kept kk, ?_⟩
  · have hy : (relabel sc X.env).names.lookup y = some .cell ∨ (relabel sc X.env).names.lookup y = some .free := hy
    have hf : sc.names.lookup y = some .free := hy.elim (fun e => rl y _ e (.inl rfl)) fun e => rl y _ e (.inr rfl)
    exact Option.isSome_iff_exists.mp (h2 _ (PySem.mem_of_lookup hf) rfl)
  · rcases (hfp b hb).2.2.2.1 with z | z
    · exact I.ok.noex b o e z
    · exact absurd (Nat.lt_of_lt_of_le (Nat.lt_of_lt_of_le (Heap.lt_size e) I.ok.bsz) z) (Nat.lt_irrefl _)
  · rcases List.mem_cons.mp (I.stkSub b z) with q | q
    · exact (hfp b hb).2.1 q
    · exact (hfp b hb).2.2.1 q
  · cases i with
    | zero => exact absurd (show some (none : Option V) = some (some v) from e2) (by simp)
    | succ j =>
      have e1 : ns[j]? = some y := e1
      have e2 : (ix.map fun i => (σ[i]?).join)[j]? = some (some v) := e2
      have e4 : (ns.map some)[j]? = some (some y) := by rw [List.getElem?_map, e1]; rfl
      rw [c.from_, List.getElem?_map] at e4
      rw [List.getElem?_map] at e2
      cases hi : ix[j]? with
      | none => rw [hi] at e4; cases e4
      | some k =>
        rw [hi] at e4 e2
        have e4 : X.N[k]? = some y := Option.some.inj e4
        have e2 : (σ[k]?).join = some v := Option.some.inj e2
        have e5 : σ[k]? = some (some v) := by
          cases q : σ[k]? with
          | none => rw [q] at e2; cases e2
          | some z => rw [q] at e2; rw [show z = some v from e2]
        have hfr := c.frk y (List.mem_of_getElem? e1)
        have hkf := c.free (y, .free) (PySem.mem_of_lookup hfr) rfl
        obtain ⟨m0, hn0, hl0⟩ := I.loc
        obtain ⟨u, ru, lu⟩ := hl0 k y v e4 e5 (hkf.elim (fun z => .inr (.inl z)) fun z => .inr (.inr z))
        refine ⟨u, ru, .inr ⟨?_, ?_⟩⟩
        · show (relabel sc X.env).names.lookup y = some .cell ∨ (relabel sc X.env).names.lookup y = some .free
          rcases @lookup_relabel X.env y sc.names with q | ⟨_, q⟩
          · exact .inr (q.trans hfr)
          · exact .inl q
        · rcases lu with ⟨lk, _⟩ | ⟨_, d, e, z⟩
          · rcases hkf with q | q <;> · have q : X.env.kindOf y = _ := q; rw [lk] at q; cases q
          · obtain ⟨d', e'⟩ := Option.isSome_iff_exists.mp (h2 (y, .free) (PySem.mem_of_lookup hfr) rfl)
            have e'' := h1 y d' e'
            rw [e] at e''
            cases e''
            refine ⟨d, e', ?_⟩
            obtain ⟨o, ho, hd⟩ := z
            exact ⟨o, kk d o ho, hd⟩
  · obtain ⟨v, o, ho, hd⟩ := I.cell y d (h1 y d e)
    exact ⟨v, o, kk d o ho, hd⟩
  · have e := congrArg List.length c.from_
    rw [List.length_map, List.length_map] at e
    show (freeSt σ ix).length = (x :: ns).length
    unfold freeSt
    rw [List.length_cons, List.length_cons, List.length_map, e]
def PIfs (X : Cx) (ifs : List Expr) (t : TT) : Prop :=
  ∀ (pins : List (Addr × Obj)) (s : Shared) (σ : St) (H : Hp) (Q : Bool → Hp → Prop), Inv X pins σ H s → t σ H Q →
    wpAny (model X.prog X.w) X.A (forIn ifs true fun c r => if r = true then do let ok ← isTrue c X.env (eval c X.env); pure (ForInStep.yield ok) else pure (ForInStep.yield r)) (TP X pins σ Q) X.xe s
def tYes : TT := fun _ H Q => Q true H
theorem pifs_nil {X : Cx} : PIfs X [] tYes := fun _ _ _ H _ I h => wpAny_tests_nil ⟨H, I, h⟩
theorem pifs_one {X : Cx} {c : Expr} {t : TT} (hc : PT X c t) : PIfs X [c] t := fun pins s σ H Q I h => wpAny_tests_one (hc pins s σ H Q I h)
def CompW (J : It) (σ0 : St) (tt : TT) (te : TE) (Q : VK) (D : Addr) (H1 : Hp) : Prop :=
  ∃ W : Nat → Nat → List V → Hp → Prop, (∃ m, W 0 m [] (upd H1 D (.lst []))) ∧ ∀ i m ys H2, W i m ys H2 →
    H2 D = some (.lst ys) ∧ ((J.stop i H2 ∧ Q (.ref D) H2) ∨ (J.go i H2 ∧ ys.length < sizeLine ∧ ∀ x H3, J.yld i H2 x H3 →
      tt (σ0.set 0 (some x)) H3 fun b H5 => if b = true then te (σ0.set 0 (some x)) H5 fun y H6 => H6 D = some (.lst ys) ∧ ∃ m', m' < m ∧ W (i + 1) m' (ys ++ [y]) (upd H6 D (.lst (ys ++ [y])))
        else ∃ m', m' < m ∧ W (i + 1) m' ys H5))
def tComp (wi : TI) (ix : List Nat) (tt : TT) (te : TE) : TE := fun σ H Q => wi σ H fun J H1 => ∀ D, H1 D = none → CompW J (freeSt σ ix) tt te Q D H1
section
variable {X : Cx} {elt iter : Expr} {x : Str} {px : Pos} {ifs : List Expr} {sc : Scope} {pos : Pos} {ns : List Str} {ix : List Nat} {wi : TI} {tt : TT} {te : TE}
theorem comp_block (c : CompOk X.N X.env.scope sc x ns ix) (hc : X.calm = true) (hi : PI X (.Name x px) iter wi)
    (ht : ∀ cl C s H fp, PIfs (cxC X (x :: ns) sc cl C s H fp) ifs tt) (he : ∀ cl C s H fp, PE (cxC X (x :: ns) sc cl C s H fp) elt te)
    {pins : List (Addr × Obj)} {s : Shared} {σ : St} {H : Hp} {Q : VK} {use : Option (Value → Sem Unit)} {QQ : Value → Shared → Prop} (I : Inv X pins σ H s) (h : tComp wi ix tt te σ H Q)
    (fin : ∀ (D C : Addr) (s5 : Shared) (m : Str → Option Value) (H5 : Hp), s5.heap.Ns C m → Q (.ref D) H5 → FpOk X pins H5 C → Inv X pins σ H5 s5 →
      compPost (model X.prog X.w) X.A X.xe use QQ (.ref D) C (.ok .next) s5)
    (hs : ∀ x, foldedSetIterable iter X.env x = pure x) :
    wpAny (model X.prog X.w) X.A (comprehension (.ListComp elt [⟨.Name x px, iter, ifs, 0⟩] sc pos) sc X.env (firstIterPos [⟨.Name x px, iter, ifs, 0⟩] pos) (newList []) false (eval iter X.env) use) QQ X.xe s := by
  have hcl0 : ∀ y ∈ sc.names, y.2 = .free → ∃ d, X.env.cells.lookup y.1 = some d := fun y hy hf => I.ok.has y.1 (c.free y hy hf)
  obtain ⟨cl, ecl, h1, h2⟩ := closureFor_of hcl0
  refine wpAny_comprehension_free (use := use) rfl hs ecl c.kind c.loc (wpAny_mono (hi pins s σ H _ I h) (fun xv s₁ q₁ => wpAny_mono q₁ (fun it s₂ q₂ => ?_) fun _ _ e => e) fun _ _ e => e)
  obtain ⟨ita, fp, tn, J, H2, e, I2, T, st2, f2, hW⟩ := q₂
  subst e
  have hfl2 : ∀ b ∈ fp, b < s₂.heap.objs.size := fun b hb => by
    obtain ⟨o, e, _⟩ := T.obj _ _ st2 b hb
    exact Heap.lt_size e
  refine wpAny_newObj_type ?_
  generalize hs3 : ({ s₂ with heap := s₂.heap.push { cls := .type "list", dict := none, data := .seq ([] : List Value).toArray } } : Shared) = s3
  have I3 : Inv X pins σ (upd H2 s₂.heap.objs.size (.lst [])) s3 := by
    rw [← hs3]
    exact I2.lnew (ys := []) (t' := s₂.toks) .nil (Nat.zero_le _)
  have hsz3 : s3.heap.objs.size = s₂.heap.objs.size + 1 := by rw [← hs3]; exact Heap.size_push ..
  have kk3 : ∀ b o, s₂.heap.get? b = some o → s3.heap.get? b = some o := fun b o e => by rw [← hs3]; exact Heap.get?_push_of_some _ e
  have hD : H2 s₂.heap.objs.size = none := I2.fresh
  generalize hDn : s₂.heap.objs.size = D at *
  have fD : ∀ b ∈ fp, b ≠ D := fun b hb => Nat.ne_of_lt (hfl2 b hb)
  have f3 : ∀ b ∈ fp, FpOk X pins (upd H2 D (.lst [])) b := fun b hb => ⟨by rw [upd_ne (fD b hb)]; exact (f2 b hb).1, (f2 b hb).2⟩
  have hfl3 : ∀ b ∈ fp, b < s3.heap.objs.size := fun b hb => Nat.lt_of_lt_of_le (hfl2 b hb) (by rw [hsz3]; exact Nat.le_succ _)
  have st3 : tn 0 s3.heap := T.keep _ _ _ st2 fun b _ o e => kk3 b o e
  refine wpAny_newFunctionEnv c.cell (by intro y hy; simp at hy) (fun h₁ hns₁ hsb₁ => ?_) c.kind
  have kk4 : ∀ b o, s3.heap.get? b = some o → h₁.get? b = some o := fun b o e => (hsb₁.2 b (Nat.ne_of_lt (Heap.lt_size e))).trans (Heap.get?_push_of_some _ e)
  have I4 := comp_start (s4 := { s3 with heap := h₁, toks := s3.toks + ([] : List (Str × Value)).length }) c I3 f3 hfl3 h1 h2 rfl rfl hns₁ kk4
  have st4 : tn 0 h₁ := T.keep _ _ _ st3 fun b _ o e => kk4 b o e
  obtain ⟨W, ⟨m0, w0⟩, turn⟩ := hW D hD
  have hDC : s3.heap.objs.size ≠ D := by omega
  have fpf : ∀ {H' : Hp}, (∀ b ∈ fp, H' b = none) → ∀ b ∈ fp, FpOk (cxC X (x :: ns) sc cl s3.heap.objs.size s3 (upd H2 D (.lst [])) fp) [] H' b := fun hn b hb =>
    ⟨hn b hb, Nat.ne_of_lt (hfl3 b hb), fun z => (List.mem_cons.mp (I3.stkSub b z)).elim (f3 b hb).2.1 (f3 b hb).2.2.1, .inl hb, fun y d e => (f3 b hb).2.2.2.2.1 y d (h1 y d e), fun p hp => absurd hp (by show p ∉ ([] : List (Addr × Obj)) ++ []; simp)⟩
  have loop : ∀ s4 : Shared, s4 = { s3 with heap := h₁, toks := s3.toks + ([] : List (Str × Value)).length } →
      codeAny (model X.prog X.w) X.A (.compLoop (.ListComp elt [⟨.Name x px, iter, ifs, 0⟩] sc pos) 0 (.ref ita) (.ref D) (compEnvC sc cl s3.heap.objs.size X.env)) (compPost (model X.prog X.w) X.A X.xe use QQ (.ref D) s3.heap.objs.size) s4 := by
    rintro s4 rfl
    refine compLoop_any (fun n s' => ∃ i ys H', Inv (cxC X (x :: ns) sc cl s3.heap.objs.size s3 (upd H2 D (.lst [])) fp) [] (freeSt σ ix) H' s' ∧ tn i s'.heap ∧ (∀ b ∈ fp, H' b = none) ∧ W i n ys H') ?_ m0
      ⟨0, [], _, I4, st4, fun b hb => (f3 b hb).1, w0⟩
    rintro n s5 ⟨i, ys, H5, I5, st5, fr5, w5⟩
    obtain ⟨hD5, w5⟩ := turn i n ys H5 w5
    rcases w5 with ⟨stop, qn⟩ | ⟨go, hlen, step⟩
    · refine thn (T.done (cxC X (x :: ns) sc cl s3.heap.objs.size s3 (upd H2 D (.lst [])) fp) rfl rfl rfl hc i [] s5 _ H5 _ I5 (fpf fr5) st5 stop) fun r s6 ⟨hr, I6⟩ => ?_
      subst hr
      obtain ⟨m, hn6, _⟩ := I6.loc
      have un6 : Un (frs X.stack) fp (upd H2 D (.lst [])) H5 s3.heap s6.heap := I6.base
      have hch : ∀ b ∈ fp, (b ∈ X.ex ∨ X.s₀.heap.objs.size ≤ b) ∧ b ≠ X.env.locals ∧ (∀ x c, X.env.cells.lookup x = some c → c ≠ b) ∧ ∀ p ∈ X.pn ++ pins, p.1 ≠ b := fun b hb =>
        ⟨(f3 b hb).2.2.2.1, (f3 b hb).2.1, (f3 b hb).2.2.2.2.1, (f3 b hb).2.2.2.2.2⟩
      exact fin D s3.heap.objs.size s6 m H5 hn6 qn (I3.fpOk (Nat.le_refl _) I6.free) (I3.call' I6.os un6 I6.hok I6.bare hch)
    · refine thn (T.item (cxC X (x :: ns) sc cl s3.heap.objs.size s3 (upd H2 D (.lst [])) fp) rfl rfl rfl hc i [] s5 _ H5 _ I5 (fpf fr5) st5 go) fun r s6 ⟨u, hr, h6⟩ => ?_
      subst hr
      refine thn h6 fun _ s7 ⟨y, H7, I7, r7, y7, st7, fr7⟩ => ?_
      have I7' := I7.pinned (fpf fr7) (T.obj _ _ st7)
      have hN : (cxC X (x :: ns) sc cl s3.heap.objs.size s3 (upd H2 D (.lst [])) fp).N.Nodup := c.nd
      have hx0 : (cxC X (x :: ns) sc cl s3.heap.objs.size s3 (upd H2 D (.lst [])) fp).env.scope.names.lookup x = some .local := lookup_relabel_local c.tgt
      refine wpAny_assign_Name (store_ok (i := 0) I7' hN rfl (.inl hx0) r7 (fun s8 I8 => ?_) (.inr hx0))
      have again : ∀ {s' : Shared} {H' : Hp} {ys' : List V}, Inv (cxC X (x :: ns) sc cl s3.heap.objs.size s3 (upd H2 D (.lst [])) fp) ([] ++ pinsAt fp s7.heap) ((freeSt σ ix).set 0 (some y)) H' s' → (∃ m', m' < n ∧ W (i + 1) m' ys' H') →
          ∃ m', m' < n ∧ ∃ i ys H', Inv (cxC X (x :: ns) sc cl s3.heap.objs.size s3 (upd H2 D (.lst [])) fp) [] (freeSt σ ix) H' s' ∧ tn i s'.heap ∧ (∀ b ∈ fp, H' b = none) ∧ W i m' ys H' := fun {s' H' ys'} J ⟨m', hm, hw⟩ => by
        refine ⟨m', hm, i + 1, ys', H', J.unpinned.weak (by simp) (fun k v e => ?_), T.keep _ _ _ st7 fun b hb o e => (J.pin (b, o) (List.mem_append_right _ (List.mem_append_right _ (mem_pinsAt hb e)))).1, fun b hb => ?_, hw⟩
        · cases k with
          | zero => exact absurd (show some (none : Option V) = some (some v) from e) (by simp)
          | succ k => exact e
        · obtain ⟨o, e, d⟩ := T.obj _ _ st7 b hb
          exact (J.pin (b, o) (List.mem_append_right _ (List.mem_append_right _ (mem_pinsAt hb e)))).2.1
      refine thn (ht cl s3.heap.objs.size s3 _ fp _ s8 _ H7 _ I8 (step y H7 y7)) fun ok s9 ⟨H9, I9, q9⟩ => ?_
      cases ok with
      | false =>
        have q9 : ∃ m', m' < n ∧ W (i + 1) m' ys H9 := by rw [if_neg Bool.false_ne_true] at q9; exact q9
        exact again I9 q9
      | true =>
        rw [if_pos rfl] at q9
        refine thn (he cl s3.heap.objs.size s3 _ fp _ s9 _ H9 _ I9 q9) fun yv s10 ⟨z, H10, I10, r10, hD10, q10⟩ => ?_
        have ap := mt_append (X := cxC X (x :: ns) sc cl s3.heap.objs.size s3 (upd H2 D (.lst [])) fp) _ s10 _ H10 (.ref D) [z] (.ref D) [yv] (fun _ H' => ∃ m', m' < n ∧ W (i + 1) m' (ys ++ [z]) H') I10 rfl (.cons r10 .nil) ⟨D, ys, z, rfl, rfl, hD10, hlen, q10⟩
        exact thn ap fun _ s11 ⟨_, H11, I11, _, q11⟩ => again I11 q11
  exact codeAny_compStart_list (loop _ rfl) (T.self _ 0 _ _ _ st4 (loop _ rfl))
theorem pe_comp {N : List Str} {dsc : Scope} (c : CompOk N dsc sc x ns ix) (hc : X.calm = true) (hi : PI X (.Name x px) iter wi)
    (ht : ∀ cl C s H fp, PIfs (cxC X (x :: ns) sc cl C s H fp) ifs tt) (he : ∀ cl C s H fp, PE (cxC X (x :: ns) sc cl C s H fp) elt te)
    (hs : ∀ x, foldedSetIterable iter X.env x = pure x := by intro _; rfl) (h1 : X.N = N := by rfl) (h2 : X.env.scope = dsc := by rfl) : PE X (.ListComp elt [⟨.Name x px, iter, ifs, 0⟩] sc pos) (tComp wi ix tt te) := by
  subst h1 h2
  intro pins s σ H Q I h
  rw [eval_ListComp]
  refine comp_block (use := none) (QQ := EP X pins σ Q) c hc hi ht he I h (fun D C s5 m H5 hn q fC I5 => ?_) hs
  exact ⟨m, hn, fun h' sb => ⟨.ref D, H5, I5.turned (t' := s5.toks) (fun b o hb e => (sb.2 b hb).trans e) fC.1 fC.2.1 fC.2.2.2.1 fC.2.2.2.2.1 fC.2.2.2.2.2, rfl, q⟩⟩
theorem ps_setC {N : List Str} {dsc : Scope} {y : Str} {j : Nat} {py spos : Pos} (c : CompOk N dsc sc x ns ix) (hc : X.calm = true) (hN : X.N.Nodup) (hj : X.N[j]? = some y) (hy : Loc X.env.scope y) (hi : PI X (.Name x px) iter wi)
    (ht : ∀ cl C s H fp, PIfs (cxC X (x :: ns) sc cl C s H fp) ifs tt) (he : ∀ cl C s H fp, PE (cxC X (x :: ns) sc cl C s H fp) elt te)
    (hsw : swapsWith (.ListComp elt [⟨.Name x px, iter, ifs, 0⟩] sc pos) (some (.Name y py)) spos.line X.env = pure true := by rfl)
    (hs : ∀ x, foldedSetIterable iter X.env x = pure x := by intro _; rfl)
    (hf : X.fn y = true ∨ X.env.scope.names.lookup y = some .local := by first | exact .inl rfl | exact .inr rfl | assumption) (h1 : X.N = N := by rfl) (h2 : X.env.scope = dsc := by rfl) :
    PS X (.Assign [.Name y py] (.ListComp elt [⟨.Name x px, iter, ifs, 0⟩] sc pos) spos) (tAsg (tComp wi ix tt te) (gName j)) := by
  subst h1 h2
  intro pins s σ H D I h
  rw [exec_Assign_Name_used _ _ _ _ hsw]
  refine wpAny_bind (wpAny_standAt (wpAny_bind ?_))
  show wpAny _ X.A (do let _ ← comprehension (.ListComp elt [⟨.Name x px, iter, ifs, 0⟩] sc pos) sc X.env _ (newList []) false (eval iter X.env) (some (assign (.Name y py) X.env))) _ _ s
  refine wpAny_bind (wpAny_mono (comp_block (use := some (assign (.Name y py) X.env)) (QQ := fun _ s' => SP X pins D .next s') (Q := fun v H1 => D.nx (σ.set j (some v)) H1) c hc hi ht he I h (fun Da C s5 m H5 hn q fC I5 => ?_) hs) (fun _ s' hq => wpAny_pure (wpAny_pure hq)) fun _ _ e => e)
  show wpAny _ X.A (assign (.Name y py) X.env (.ref Da)) _ _ s5
  refine wpAny_assign_Name (store_ok2 I5 hN hj hy (v := .ref Da) rfl (fun s6 I6 ⟨a, sb, ha⟩ => ?_) hf)
  have haC : C ≠ a := by
    rcases ha with e | e
    · rw [e]; exact fC.2.1
    · exact fun z => fC.2.2.2.2.1 y a e z.symm
  exact ⟨m, hn.sameBut sb haC, fun h' sb' => ⟨_, H5, I6.turned (t' := s6.toks) (fun b o hb e => (sb'.2 b hb).trans e) fC.1 fC.2.1 fC.2.2.2.1 fC.2.2.2.2.1 fC.2.2.2.2.2, q⟩⟩
end
end L2
set_option Elab.async false
set_option linter.all false
set_option maxRecDepth 100000
set_option maxHeartbeats 4000000
namespace L2
open PySem PySem.Spec PyProof.Rows
theorem Same.upd {H H1 H2 : Hp} {D : Addr} {o : HO} (s : Same H H1) (n : H D = none) (e : H2 = upd H1 D o) : Same H H2 := fun b u h => by
  rw [e, upd_ne (ne_of_none h n)]
  exact s b u h
theorem same_upd {H : Hp} {D : Addr} {o : HO} (n : H D = none) : Same H (L2.upd H D o) := (Same.refl H).upd n rfl
theorem comp_map {J : It} {xs : List V} {G : Hp → Prop} (hJ : ItOf J xs G) {σ0 : St} {te : TE} {Q : VK} {H1 : Hp} (f : V → V) (hz : xs.length ≤ sizeLine) (hG : ∀ H', Same H1 H' → G H')
    (he : ∀ x, x ∈ xs → ∀ H2, Same H1 H2 → ∀ R : VK, (∀ H3, Same H2 H3 → R (f x) H3) → te (σ0.set 0 (some x)) H2 R)
    (hQ : ∀ D H2, H1 D = none → Same H1 H2 → H2 D = some (.lst (xs.map f)) → Q (.ref D) H2) : ∀ D, H1 D = none → CompW J σ0 tYes te Q D H1 := by
  intro D hD
  refine ⟨fun i m ys H => m = xs.length - i ∧ i ≤ xs.length ∧ Same H1 H ∧ H D = some (.lst ys) ∧ ys = (xs.take i).map f, ⟨xs.length, by simp, Nat.zero_le _, same_upd hD, upd_same, by simp⟩, ?_⟩
  rintro i m ys H ⟨rfl, hi, s, e, rfl⟩
  refine ⟨e, ?_⟩
  by_cases hlt : i < xs.length
  · refine .inr ⟨hJ.go i H hlt (hG H s), by rw [List.length_map, List.length_take]; omega, fun x H3 y => ?_⟩
    obtain ⟨e3, yx⟩ := hJ.yld i H x H3 (hG H s) y hlt
    subst e3
    unfold tYes
    dsimp only
    rw [if_pos rfl]
    refine he x (List.mem_of_getElem? yx) _ s _ fun H6 s6 => ⟨s6 _ _ e, _, (by omega : xs.length - (i + 1) < xs.length - i), rfl, hlt, (s.trans s6).upd hD rfl, upd_same, ?_⟩
    rw [List.take_succ, yx, List.map_append]
    rfl
  · have ei : i = xs.length := by omega
    subst ei
    rw [List.take_length] at e
    exact .inl ⟨hJ.stop H (hG H s), hQ D H hD s e⟩
theorem comp_filter {J : It} {xs : List V} {G : Hp → Prop} (hJ : ItOf J xs G) {σ0 : St} {tt : TT} {te : TE} {Q : VK} {H1 : Hp} (p : V → Bool) (f : V → V) (hz : xs.length ≤ sizeLine) (hG : ∀ H', Same H1 H' → G H')
    (ht : ∀ x, x ∈ xs → ∀ H2, Same H1 H2 → ∀ R : Bool → Hp → Prop, (∀ H3, Same H2 H3 → R (p x) H3) → tt (σ0.set 0 (some x)) H2 R)
    (he : ∀ x, x ∈ xs → p x = true → ∀ H2, Same H1 H2 → ∀ R : VK, (∀ H3, Same H2 H3 → R (f x) H3) → te (σ0.set 0 (some x)) H2 R)
    (hQ : ∀ D H2, H1 D = none → Same H1 H2 → H2 D = some (.lst ((xs.filter p).map f)) → Q (.ref D) H2) : ∀ D, H1 D = none → CompW J σ0 tt te Q D H1 := by
  intro D hD
  refine ⟨fun i m ys H => m = xs.length - i ∧ i ≤ xs.length ∧ Same H1 H ∧ H D = some (.lst ys) ∧ ys = ((xs.take i).filter p).map f, ⟨xs.length, by simp, Nat.zero_le _, same_upd hD, upd_same, by simp⟩, ?_⟩
  rintro i m ys H ⟨rfl, hi, s, e, rfl⟩
  refine ⟨e, ?_⟩
  by_cases hlt : i < xs.length
  · have hle : (((xs.take i).filter p).map f).length < sizeLine := by
      have h1 := List.length_filter_le p (xs.take i)
      rw [List.length_map]
      rw [List.length_take] at h1
      omega
    refine .inr ⟨hJ.go i H hlt (hG H s), hle, fun x H3 y => ?_⟩
    obtain ⟨e3, yx⟩ := hJ.yld i H x H3 (hG H s) y hlt
    subst e3
    have hx := List.mem_of_getElem? yx
    have less : xs.length - (i + 1) < xs.length - i := by omega
    refine ht x hx _ s _ fun H5 s5 => ?_
    cases hp : p x with
    | true =>
      rw [if_pos rfl]
      refine he x hx hp _ (s.trans s5) _ fun H6 s6 => ⟨s6 _ _ (s5 _ _ e), _, less, rfl, hlt, ((s.trans s5).trans s6).upd hD rfl, upd_same, ?_⟩
      rw [List.take_succ, yx, List.filter_append, List.map_append]
      simp [hp]
    | false =>
      rw [if_neg Bool.false_ne_true]
      refine ⟨_, less, rfl, hlt, s.trans s5, s5 _ _ e, ?_⟩
      rw [List.take_succ, yx, List.filter_append]
      simp [hp]
  · have ei : i = xs.length := by omega
    subst ei
    rw [List.take_length] at e
    exact .inl ⟨hJ.stop H (hG H s), hQ D H hD s e⟩
section
variable {X : Cx}
def rCount : V → List V → Hp → VK → Prop := fun x vs H Q => ∃ z y, x = .str z ∧ vs = [.str y] ∧ Q (.int (Txt.count z y)) H
theorem mt_count : MtR X "str.count" rCount := by
  intro pins s σ H x vs v us Q I rx rv h
  obtain ⟨z, y, rfl, rfl, q⟩ := h
  obtain ⟨t, rfl⟩ := rx
  obtain ⟨u, rfl, t', rfl⟩ := vals1 rv
  exact SC.count ⟨.int _, H, I.tok _, ⟨_, rfl⟩, q⟩
theorem strsAre_of {ss : List Str} : ∀ {us : List Value}, Vals (ss.map V.str) us → StrsAre us ss := by
  induction ss with
  | nil => intro us r; rw [List.map_nil] at r; cases r; exact .nil
  | cons n ns ih =>
    intro us r
    rw [List.map_cons] at r
    cases r with
    | cons r1 r2 =>
      obtain ⟨t, e⟩ := r1
      subst e
      exact .cons n t (ih r2)
def rJoin (K : PySem.W.Frag) : V → List V → Hp → VK → Prop := fun x vs H Q => ∃ z p ys, x = .str z ∧ vs = [.ref p] ∧ SqL K H p (ys.map V.str) ∧ (ys.map (·.length)).sum + ys.length * z.length ≤ 16777216 ∧ Q (.str (Txt.join z ys)) H
theorem mt_join : MtR X "str.join" (rJoin X.K) := by
  intro pins s σ H x vs v us Q I rx rv h
  obtain ⟨z, p, ys, rfl, rfl, hq, hok, q⟩ := h
  obtain ⟨t, rfl⟩ := rx
  obtain ⟨u, rfl, ru⟩ := vals1 rv
  cases ru
  obtain ⟨its, r, pl, hz⟩ := I.list hq
  exact join_list pl.isList (strsAre_of (by simpa using r)) hok fun t' k => ⟨.str _, H, I.tok _, ⟨_, rfl⟩, q⟩
def tx (l : List Nat) : Str := ⟨l.toArray⟩
theorem tx_length (l : List Nat) : (tx l).length = l.length := by simp [tx, Str.length]
theorem sgs_tx (l : List Nat) : sgs (tx l) = l.map sg := by simp [sgs, tx]
theorem tx_append (a b : List Nat) : tx a ++ tx b = tx (a ++ b) := by
  show Str.append (tx a) (tx b) = tx (a ++ b)
  simp [Str.append, tx]
theorem join_nil : ∀ ss : List (List Nat), Txt.join ⟨#[]⟩ (ss.map tx) = tx ss.flatten := by
  intro ss
  show Builtin.Str.glued _ _ = _
  rw [StrLaws.glued_eq_join]
  induction ss with
  | nil => rfl
  | cons a r ih =>
    cases r with
    | nil => simp [Str.join]
    | cons b r =>
      show tx a ++ (⟨#[]⟩ : Str) ++ Str.join ⟨#[]⟩ ((b :: r).map tx) = _
      rw [ih, show (⟨#[]⟩ : Str) = tx [] from rfl, tx_append, tx_append]
      simp
theorem occ_one_go (x : Str) (c : Nat) : ∀ (k i : Nat) (st : Array Nat × Nat), i + k = x.length + 1 → st.2 ≤ i → st.1.size ≤ i →
    (forIn (List.range' i k) st (StrLaws.occBody x ⟨#[c]⟩ x.length (x.length + 1))).run.fst.size = st.1.size + (x.cps.toList.drop i).count c
  | 0, i, st, h, _, _ => by
    have e : x.cps.toList.drop i = [] := List.drop_eq_nil_of_le (by simp [Str.length] at h ⊢; omega)
    rw [e]
    rfl
  | k + 1, i, st, h, h1, h2 => by
    have hxl : x.length = x.cps.toList.length := by simp [Str.length]
    rw [List.range'_succ, List.forIn_cons]
    unfold StrLaws.occBody
    by_cases hc : x.cps.toList[i]? = some c
    · obtain ⟨a, b⟩ := (StrLaws.subAt_one x c i).mpr hc
      rw [if_pos ⟨⟨⟨by omega, h1⟩, a⟩, b⟩]
      have ih := occ_one_go x c k (i + 1) (st.1.push i, i + (⟨#[c]⟩ : Str).length) (by omega) (Nat.le_refl _) (by simp; omega)
      obtain ⟨hlt, he⟩ := List.getElem?_eq_some_iff.mp hc
      rw [List.drop_eq_getElem_cons hlt, he, List.count_cons_self]
      refine Eq.trans ih ?_
      rw [Array.size_push]
      omega
    · rw [if_neg fun q => hc ((StrLaws.subAt_one x c i).mp ⟨q.1.2, q.2⟩)]
      have ih := occ_one_go x c k (i + 1) (st.1, st.2) (by omega) (Nat.le_succ_of_le h1) (Nat.le_succ_of_le h2)
      refine Eq.trans ih ?_
      congr 1
      by_cases hlt : i < x.cps.toList.length
      · rw [List.drop_eq_getElem_cons hlt, List.count_cons_of_ne]
        intro z
        exact hc (by rw [List.getElem?_eq_getElem hlt, z])
      · rw [List.drop_eq_nil_of_le (by omega), List.drop_eq_nil_of_le (by omega)]
theorem count_one (l : List Nat) (c : Nat) : Txt.count (tx l) (tx [c]) = (l.count c : Nat) := by
  show (((Builtin.Str.occurrences (tx l) (tx [c]) 0 (tx l).length ((tx l).length + 1)).length : Nat) : Int) = _
  rw [StrLaws.occ_eq, Array.length_toList]
  have h := occ_one_go (tx l) c ((tx l).length + 1) 0 (#[], 0) (by omega) (Nat.le_refl _) (Nat.le_refl _)
  have e : (tx l).length + 1 - 0 = (tx l).length + 1 := rfl
  rw [e, show tx [c] = (⟨#[c]⟩ : Str) from rfl, h]
  simp [tx]
def revS (z : Str) : Str := ⟨z.cps.toList.reverse.toArray⟩
theorem sliceBy_rev (z : Str) (u : Tok) : Txt.sliceBy z none none (-1, u) = revS z := by
  have h := step_rev_list z u
  generalize Txt.sliceBy z none none (-1, u) = y at h
  obtain ⟨⟨l⟩⟩ := y
  have h : l = (List.range z.length).map fun k => z.cps.getD (z.length - 1 - k) 0 := h
  unfold revS
  rw [h]
  congr 2
  apply List.ext_getElem
  · simp [Str.length]
  · intro i h1 h2
    simp [Str.length] at h1
    have : z.cps.size - 1 - i < z.cps.size := by omega
    simp [Str.length, List.getElem_reverse, this]
def tRev (K : PySem.W.Frag) (te : TE) : TE := fun σ H Q => te σ H fun x H1 => (∃ z, x = .str z ∧ z.length ≤ sizeLine ∧ Q (.str (revS z)) H1) ∨ ∃ a xs, x = .ref a ∧ SqL K H1 a xs ∧ ∀ p, H1 p = none → Q (.ref p) (upd H1 p (.lst xs.reverse))
theorem pe_rev {e : Expr} {te : TE} {p1 p2 p3 pos : Pos} {j : Nat} (he : PE X e te) : PE X (.Subscript e (.Slice none none (some (.UnaryOp .USub (.Constant (.int 1) j p1) p2)) p3) pos) (tRev X.K te) := by
  intro pins s σ H Q I h
  refine Subscript_ (thn (he pins s σ H _ I h) fun v s1 ⟨x, H1, I1, r1, q1⟩ => ?_)
  refine wpAny_Slice ?_
  rw [evalPart_none, evalPart_some]
  refine wpAny_pure (wpAny_pure ?_)
  refine thn (pe_un (X := X) (pos := p2) un_neg (pe_int (X := X) (i := 1) (j := j) (pos := p1)) pins s1 σ H1 (fun y H2 => y = .int (-1) ∧ H2 = H1) I1 ⟨1, rfl, rfl, rfl⟩) fun vk s2 ⟨y, H2, I2, r2, ey, eH⟩ => ?_
  subst ey eH
  obtain ⟨tk, rfl⟩ := r2
  have I4 : Inv X pins σ H2 { s2 with heap := s2.heap.push { cls := .type "slice", data := .fields #[.none, .none, .int (-1) tk] } } := I2.kept (t' := s2.toks) fun b ob q => Heap.get?_push_of_some _ q
  rcases q1 with ⟨z, rfl, hz, q⟩ | ⟨a, xs, rfl, hx, q⟩
  · obtain ⟨t, rfl⟩ := r1
    refine tail_any (ops := [.ref s2.heap.objs.size, .str z t]) (typeIs_str _ _ _) F.slot_str_getitem.lookup ?_ (by with_unfolding_all rfl)
    refine wpAny_getItem_str_slice (l := none) (u := none) (st := some (-1, tk)) ⟨_, Heap.get?_push_size _ rfl, rfl, rfl⟩ rfl ?_
    refine post_val_or_str ⟨Nat.le_trans (Txt.sliceBy_le z _ _ (-1, tk) (by show (-1 : Int) ≠ 0; decide)) hz, fun t' c => ⟨.str (revS z), H2, I4.tok _, ⟨t', ?_⟩, q⟩⟩
    show Value.str (Txt.sliceBy z none none (-1, tk)) t' = _
    rw [sliceBy_rev]
  · cases r1
    obtain ⟨its, r, ht, hz⟩ := I4.list hx
    have hlen := r.length
    refine tail_any ht.isList.typeIs slot_list_getitem.lookup ?_ (by with_unfolding_all rfl)
    refine wpAny_getItem_list_slice ht.isList (vl := .none) (vu := .none) (vs := .int (-1) tk) ⟨_, Heap.get?_push_size _ rfl, rfl, rfl⟩ .none .none (.int (-1) tk) (by decide) ?_ (by rw [List.size_toArray] <;> omega)
    rw [PySem.W.krv_pick]
    refine ⟨.ref _, _, I4.laid (t' := s2.toks) (o := .lst xs.reverse) (fun b ob q => Heap.get?_push_of_some _ q) (Nat.le_refl _) ?_, rfl, q _ I4.fresh⟩
    exact ⟨by rw [List.length_reverse]; exact hz, _, 0, r.reverse, Heap.get?_push_size _ rfl⟩
theorem range_all (bs : List Bool) : (List.range bs.length).all (fun i => bs.getD i false) = bs.all id := by
  rw [Bool.eq_iff_iff, List.all_eq_true, List.all_eq_true]
  constructor
  · intro h b hb
    obtain ⟨i, hi, rfl⟩ := List.mem_iff_getElem.mp hb
    have := h i (List.mem_range.mpr hi)
    simpa [List.getD, hi] using this
  · intro h i hi
    rw [List.mem_range] at hi
    have := h bs[i] (List.getElem_mem hi)
    simpa [List.getD, hi] using this
theorem truth_bools {A : Around} {bs : List Bool} {its : List Value} (r : Vals (bs.map V.bl) its) : TruthOf X.prog X.w A (fun i v => its.toArray[i]? = some v) fun i => bs.getD i false := by
  intro i v s Q E hv hQ
  have hv : its[i]? = some v := by simpa using hv
  have hl := r.length
  rw [List.length_map] at hl
  have hi : i < bs.length := by have := (List.getElem?_eq_some_iff.mp hv).1; omega
  obtain ⟨u, hu, ru⟩ := r.get (i := i) (x := V.bl bs[i]) (by rw [List.getElem?_map, List.getElem?_eq_getElem hi]; rfl)
  rw [hv] at hu
  cases hu
  cases ru
  refine wpAny_truthy_bool ?_
  have e : bs.getD i false = bs[i] := by simp [List.getD, hi]
  rw [← e]
  exact hQ
def rAny (K : PySem.W.Frag) : List V → Hp → VK → Prop := fun xs H Q => ∃ p, ∃ bs : List Bool, xs = [.ref p] ∧ SqL K H p (bs.map V.bl) ∧ Q (.bl (bs.any id)) H
def rAll (K : PySem.W.Frag) : List V → Hp → VK → Prop := fun xs H Q => ∃ p, ∃ bs : List Bool, xs = [.ref p] ∧ SqL K H p (bs.map V.bl) ∧ Q (.bl (bs.all id)) H
theorem call_all (hc : X.calm = true) : CallR X (.builtin "all") (rAll X.K) := by
  intro pins s σ H xs us Q I r h
  obtain ⟨p, bs, rfl, hq, q⟩ := h
  obtain ⟨u, rfl, ru⟩ := vals1 r
  cases ru
  obtain ⟨its, rv, pl, hz⟩ := I.list hq
  have hl := rv.length
  rw [List.length_map] at hl
  have hne : p ≠ s.heap.objs.size := Nat.ne_of_lt (let ⟨_, _, e, _⟩ := pl; Heap.lt_size e)
  have f := I.fpOk (Nat.le_refl _) I.fresh
  refine call_all_walk (wpAny_pyIter_list pl.isList ⟨s.heap.objs.size, _, _, _, _, _, fun i => bs.getD i false, rfl, Walks.list (A := X.A.in1) (I.ok.hd hc) _ p hne its.toArray, ⟨⟨_, Heap.get?_push_size _ rfl, rfl, rfl⟩, pl.isList.at fun o e => Heap.get?_push_of_some _ e⟩, truth_bools rv, fun h' tk kk => ?_⟩)
  have I1 : Inv X pins σ H { s with heap := s.heap.push { cls := .type "list_iterator", data := .fields #[.ref p, .int 0 0] } } := I.kept (t' := s.toks) fun b o e => Heap.get?_push_of_some _ e
  refine ⟨.bl (bs.all id), H, I1.turned (fun b o hb e => kk b o (by simpa using hb) e) f.1 f.2.1 f.2.2.2.1 f.2.2.2.2.1 f.2.2.2.2.2, ?_, q⟩
  show Value.bool _ = Value.bool _
  rw [← range_all, List.size_toArray, ← hl]
def rLen (K : PySem.W.Frag) : List V → Hp → VK → Prop := fun xs H Q => ∃ x n, xs = [x] ∧ LenV K x H n ∧ Q (.int n) H
theorem call_lenV : CallR X (.builtin "len") (rLen X.K) := call_len
def rIsI (K : PySem.W.Frag) : List V → Hp → VK → Prop := fun xs H Q => ∃ x n t b, xs = [x, .ty n] ∧ TyOf K H x t ∧ PySem.W.kitOne K t (.type n) = some b ∧ Q (.bl b) H
theorem call_isinst : CallR X (.builtin "isinstance") (rIsI X.K) := by
  intro pins s σ H xs us Q I r h
  obtain ⟨x, n, t, b, rfl, ty, e, q⟩ := h
  obtain ⟨u, w', rfl, ru, rw'⟩ := vals2 r
  cases rw'
  exact isinst_ok I ru ty e fun tk => ⟨.bl b, H, I.tok _, rfl, q⟩
def eqL : List V → List V → Bool
  | [], [] => true
  | x :: xs, y :: ys => eqV x y && eqL xs ys
  | _, _ => false
theorem eqL_len : ∀ {xs ys : List V}, xs.length ≠ ys.length → eqL xs ys = false
  | [], [], h => absurd rfl h
  | [], _ :: _, _ => rfl
  | _ :: _, [], _ => rfl
  | x :: xs, y :: ys, h => by
    show (eqV x y && eqL xs ys) = false
    rw [eqL_len (xs := xs) (ys := ys) (by simpa using h), Bool.and_false]
theorem eqL_all : ∀ {xs ys : List V}, xs.length = ys.length → eqL xs ys = (List.range xs.length).all fun i => (match xs[i]?, ys[i]? with | some x, some y => eqV x y | _, _ => true)
  | [], [], _ => rfl
  | [], _ :: _, h => by cases h
  | _ :: _, [], h => by cases h
  | x :: xs, y :: ys, h => by
    show (eqV x y && eqL xs ys) = _
    rw [eqL_all (xs := xs) (ys := ys) (by simpa using h), List.length_cons, List.range_succ_eq_map, List.all_cons, List.all_map]
    rfl
theorem eqAt_items {A : Around} {s : Shared} {xs ys : List V} {us ws : List Value} (r : Vals xs us) (q : Vals ys ws) (fx : xs.all flatV = true) (fy : ys.all flatV = true) :
    ∀ j (h1 : j < us.toArray.size) (h2 : j < ws.toArray.size), SeqAt.EqAt A s us.toArray[j] ws.toArray[j] (match xs[j]?, ys[j]? with | some x, some y => eqV x y | _, _ => true) := by
  intro j h1 h2
  have h1 : j < us.length := by simpa using h1
  have h2 : j < ws.length := by simpa using h2
  have k1 : j < xs.length := by rw [r.length]; exact h1
  have k2 : j < ys.length := by rw [q.length]; exact h2
  obtain ⟨u, hu, ru⟩ := r.get (List.getElem?_eq_getElem k1)
  obtain ⟨v, hv, rv⟩ := q.get (List.getElem?_eq_getElem k2)
  rw [List.getElem?_eq_getElem h1] at hu
  rw [List.getElem?_eq_getElem h2] at hv
  cases hu
  cases hv
  rw [List.getElem?_eq_getElem k1, List.getElem?_eq_getElem k2]
  have f1 := List.all_eq_true.mp fx _ (List.getElem_mem k1)
  have f2 := List.all_eq_true.mp fy _ (List.getElem_mem k2)
  simpa using eqAt_V (A := A) (s := s) ru rv f1 f2
def rEqF (K : PySem.W.Frag) (neg : Bool) : R2 := fun x y H Q => ∃ p q xs ys, x = .ref p ∧ y = .ref q ∧ SqL K H p xs ∧ SqL K H q ys ∧ xs.all flatV = true ∧ ys.all flatV = true ∧ Q (.bl (if neg then !eqL xs ys else eqL xs ys)) H
theorem op_neF (hu : X.A.units < cLine) : OpR X (compareOp .NotEq) (rEqF X.K true) := by
  intro pins s σ H x y v u Q I rx ry h
  obtain ⟨p, q, xs, ys, rfl, rfl, hx, hy, fx, fy, k⟩ := h
  cases rx
  cases ry
  obtain ⟨us, r, pl, _⟩ := I.list hx
  obtain ⟨ws, r', pl', _⟩ := I.list hy
  have e1 := r.length
  have e2 := r'.length
  by_cases hl : xs.length = ys.length
  · refine SeqAt.RcNeAt.lists pl.isList pl'.isList (by simp; omega) hu (eqAt_items r r' fx fy) X.prog X.w X.xe _ ⟨.bl (!eqL xs ys), H, I, ?_, k⟩
    show Value.bool _ = Value.bool _
    rw [eqL_all hl, List.size_toArray, ← e1]
  · refine SeqAt.RcNeAt.lists_lengths pl.isList pl'.isList (by simp; omega) hu X.prog X.w X.xe _ ⟨.bl true, H, I, rfl, ?_⟩
    rw [eqL_len hl] at k
    exact k
def GTab (P : Program) (w : World) (K : PySem.W.Frag) (a : Addr) (D : List (Str × PyData)) : Prop := ∀ h : Heap, K.In h → StrTab P w h a (D.map fun p => (PyData.str p.1, p.2))
def rIxG (P : Program) (w : World) (K : PySem.W.Frag) : R2 := fun x y H Q => ∃ a D k z, x = .ref a ∧ y = .str k ∧ GTab P w K a D ∧ PySem.Spec.lookup (.str k) (D.map fun p => (PyData.str p.1, p.2)) = some (.str z) ∧ Q (.str z) H
theorem ix_gtab : IxR X (rIxG X.prog X.w X.K) := by
  intro value slice pins s σ H x y v u Q I rx ry h hs
  obtain ⟨a, D, k, z, rfl, rfl, hT, hl, q⟩ := h
  cases rx
  obtain ⟨t, rfl⟩ := ry
  obtain ⟨lo, kvs, hd, hf⟩ := hT _ I.kIn
  obtain ⟨v, hv, hfl⟩ := hf.of_lookup PyProof.V.same_str hl
  obtain ⟨tv, rfl⟩ := hfl.str_inv
  exact tail_any hd.typeIs F.slot_dict_getitem.lookup (wpAny_getItem_of (strKind_is X.prog X.w k t) hd.mapOf hv ⟨.str z, H, I.tok _, ⟨_, rfl⟩, q⟩) hs
end
end L2
set_option Elab.async false
set_option linter.all false
set_option maxRecDepth 100000
set_option maxHeartbeats 4000000
namespace L2
open PySem PySem.Spec PyProof.Rows
theorem iteFe {c : Bool} {A B : Prop} (h : c = false) (q : B) : if c = true then A else B := by rw [h, if_neg Bool.false_ne_true]; exact q
theorem iteTe {c : Bool} {A B : Prop} (h : c = true) (q : A) : if c = true then A else B := by rw [h, if_pos rfl]; exact q
theorem flat_one (l : List Nat) : (l.map fun c => [c]).flatten = l := by
  induction l with
  | nil => rfl
  | cons c r ih => rw [List.map_cons, List.flatten_cons, ih]; rfl
theorem len_ones (l : List Nat) : ((l.map fun c => tx [c]).map (·.length)).sum = l.length := by
  induction l with
  | nil => rfl
  | cons c r ih =>
    rw [List.map_cons, List.map_cons, List.sum_cons, ih, tx_length, List.length_cons]
    simp
    omega
theorem smallM {n : Nat} (h : n ≤ 16000000) : n < sizeLine := Nat.lt_of_le_of_lt h (by decide)
theorem bigM {n : Nat} (h : n ≤ 16000000) : n ≤ sizeLine := Nat.le_of_lt (smallM h)
theorem empty_tx : (Str.ofString "") = tx [] := by decide +kernel
theorem join_sgs {K : PySem.W.Frag} {H : Hp} {D : Addr} {l : List Nat} {Q : VK} (e : H D = some (.lst (l.map sg))) (hl : l.length ≤ 16000000) (q : Q (.str (tx l)) H) : rJoin K (.str (Str.ofString "")) [.ref D] H Q := by
  refine ⟨_, D, l.map fun c => tx [c], rfl, rfl, SqL.of ?_, ?_, ?_⟩
  · rw [e, List.map_map]; rfl
  · rw [len_ones, List.length_map, empty_tx, tx_length]
    simp
    omega
  · have e1 := join_nil (l.map fun c => [c])
    rw [List.map_map, flat_one] at e1
    rw [empty_tx]
    have e2 : Txt.join (tx []) (l.map fun c => tx [c]) = tx l := e1
    rw [e2]
    exact q
theorem eqL_self {xs : List V} (h : xs.all flatV = true) : eqL xs xs = true := by
  induction xs with
  | nil => rfl
  | cons x r ih =>
    rw [List.all_cons, Bool.and_eq_true] at h
    show (eqV x x && eqL r r) = true
    rw [ih h.2, Bool.and_true]
    have h1 := h.1
    cases x <;> first | rfl | (simp [flatV] at h1; done) | (simp [eqV]; done)
end L2
set_option Elab.async false
set_option linter.all false
set_option maxRecDepth 100000
set_option maxHeartbeats 4000000
namespace L2
open PySem PySem.Spec PyProof.Rows
def Exc (h : Heap) (H : Hp) (g : Heap) (e : Addr) (cls : Value) (hd : Option Addr) : Prop :=
  H e = none ∧ g.get? e = none ∧ ∃ oe vs, h.get? e = some oe ∧ oe.cls = cls ∧ oe.dict = none ∧ oe.data = .fields vs ∧ vs[2]? = some Value.none ∧
    (match hd with
     | none => vs[1]? = some Value.none
     | some T => vs[1]? = some (.ref T) ∧ T ≠ e ∧ H T = none ∧ g.get? T = none ∧ ∃ oT ts, h.get? T = some oT ∧ oT.data = .fields ts ∧ 3 < ts.size)
structure Touch (fr : List Addr) (H : Hp) (g : Heap) (h h' : Heap) : Prop where
  keep : ∀ b o, h.get? b = some o → (g.get? b ≠ none ∨ H b ≠ none) → b ∉ fr → h'.get? b = some o
  slot : ∀ b o, h.get? b = some o → (g.get? b ≠ none ∨ H b ≠ none) → ∃ sl, h'.get? b = some { o with slots := sl }
  there : ∀ b o, h.get? b = some o → ∃ o', h'.get? b = some o'
section
variable {M : Model} {A : Around} {E : Value → Shared → Prop} {s : Shared} {base : Heap} {env : Env} {outer : List Env} {L e : Addr} {cls head : Value} {H : Hp} {g : Heap} {Q : Unit → Shared → Prop}
end
end L2
set_option Elab.async false
set_option linter.all false
set_option maxRecDepth 100000
set_option maxHeartbeats 4000000
namespace L2
open PySem PySem.Spec PyProof.Rows
structure InG (X : Cx) (pins : List (Addr × Obj)) (g : Heap) : Prop where
  s0 : ∀ b o, X.s₀.heap.get? b = some o → b ∉ X.ex → g.get? b ≠ none
  L : g.get? X.env.locals ≠ none
  C : ∀ x c, X.env.cells.lookup x = some c → g.get? c ≠ none
  pn : ∀ p ∈ X.pn ++ pins, g.get? p.1 ≠ none
def CXf (P : Program) (w : World) : CXT := fun outer H s E e s' => ∃ a cls T H', e = .ref a ∧ s'.os = s.os ∧ AllBare s'.gens ∧ Un (frs outer) [] H H' s.heap s'.heap ∧ HOk P w H' s'.heap ∧ Exc s'.heap H' s.heap a cls (some T) ∧ E cls none H'
def Lets (X : Cx) (E : XK) : Prop := ∀ (pins : List (Addr × Obj)) (σ : St) (H : Hp) (s : Shared) (g : Heap) (a : Addr) (cls : Value) (hd : Option Addr),
  Inv X pins σ H s → InG X pins g → (∀ b, s.heap.get? b = none → g.get? b = none) → Exc s.heap H g a cls hd → E cls none H → X.xe (.ref a) s
end L2
set_option Elab.async false
set_option linter.all false
set_option maxRecDepth 100000
set_option maxHeartbeats 4000000
namespace L2
open PySem PySem.Spec PyProof.Rows
abbrev bmV : List Value := [.type "ValueError", .type "Exception", .type "BaseException", .type "object"]
def tRaise (E : XK) (C : Addr) (t : TA) : TS := fun _ σ H => t σ H fun vs H1 => vs.length ≤ sizeLine ∧ E (.ref C) none H1
end L2
set_option Elab.async false
set_option linter.all false
set_option maxRecDepth 100000
set_option maxHeartbeats 4000000
namespace L2
open PySem PySem.Spec PyProof.Rows
def excO (a : Addr) (cls : Value) : HO := .ext fun h => ∃ oe vs, h.get? a = some oe ∧ oe.cls = cls ∧ oe.dict = none ∧ oe.data = .fields vs ∧ vs[2]? = some Value.none
abbrev Cx.inTry (X : Cx) (pn : List (Addr × Obj)) (xe : Value → Shared → Prop) : Cx := { X with pn := pn, xe := xe }
abbrev Cx.inSuite (X : Cx) (pn : List (Addr × Obj)) (a : Addr) : Cx := { X with A := X.A.mark (some (.ref a)), calm := false, pn := pn, xe := fun _ _ => False }
section
variable {X : Cx} {pins : List (Addr × Obj)} {σ : St} {H : Hp} {s : Shared} {xe : Value → Shared → Prop} {a : Addr}
def Thr (X : Cx) (pins : List (Addr × Obj)) (E : XK) : Value → Shared → Prop := fun e s' => ∃ a cls hd H' g σ', e = .ref a ∧ Inv X pins σ' H' s' ∧ InG X pins g ∧ (∀ b, s'.heap.get? b = none → g.get? b = none) ∧ Exc s'.heap H' g a cls hd ∧ E cls none H'
end
def tTry (K : PySem.W.Frag) (c : Value) (i len : Nat) (E : XK) (tb : TS) (ts : Addr → TS) : TS := fun D σ H => tb D σ H ∧ ∀ cls H', E cls none H' → PySem.W.exmOne K cls c = some true ∧
  ∀ a, H' a = none → ts a { nx := fun _ _ => False, rt := D.rt } ((List.replicate len (none : Option V)).set i (some (.ref a))) (upd H' a (excO a cls))
end L2
set_option Elab.async false
set_option linter.all false
set_option maxRecDepth 100000
set_option maxHeartbeats 4000000
namespace L2
open PySem PySem.Spec PyProof.Rows PySem.W
structure ExCls (K : PySem.W.Frag) (D : Addr) : Prop where
  cl : (clsIn K D).isSome = true
  ga : findIn K (.ref D) "__getattribute__" = some (some (.builtin "BaseException.__getattribute__"))
  gr : findIn K (.ref D) "__getattr__" = some none
  ca : findIn K (.ref D) "__class__" = some (some (.builtin "object.__class__"))
  gt : specialIn K (.builtin "object.__class__") "__get__" = some (some (.builtin "getset_descriptor.__get__"))
  tk : takesIn K (.builtin "object.__class__") = some true
  ob : mroIn K D (.type "object") = some true
  be : mroIn K D (.type "BaseException") = some true
section
variable {prog : Program} {w : World} {A : Around} {E : Value → Shared → Prop} {s : Shared} {K : PySem.W.Frag} {x D : Addr} {ox : Obj}
end
inductive ClV : V → Value → Prop where
  | own (C : Addr) : ClV (.ref C) (.ref C)
  | ty (n : String) : ClV (.ty n) (.type n)
def rIsX (K : PySem.W.Frag) : List V → Hp → VK → Prop := fun xs H Q => ∃ a D y c b, xs = [.ref a, y] ∧ ClV y c ∧ H a = some (excO a (.ref D)) ∧ ExCls K D ∧ kitOne K (.ref D) c = some b ∧ Q (.bl b) H
end L2
set_option Elab.async false
set_option linter.all false
set_option maxRecDepth 100000
set_option maxHeartbeats 4000000
namespace L2
open PySem PySem.Spec PyProof.Rows
section
variable {prog : Program} {w : World} {A : Around} {E : Value → Shared → Prop} {s : Shared}
end
def rAnyX (K : PySem.W.Frag) (e : Addr) : List V → Hp → VK → Prop := fun xs H Q => ∃ p D, ∃ bs : List Bool, xs = [.ref p] ∧ SqL K H p (bs.map V.bl) ∧ H e = some (excO e D) ∧ Q (.bl (bs.any id)) H
end L2
set_option Elab.async false
set_option linter.all false
set_option maxRecDepth 100000
set_option maxHeartbeats 4000000
namespace L2
open PySem PySem.Spec PyProof.Rows
section
variable {X : Cx}
theorem ints_items : ∀ {ns : List Int} {us : List Value}, Vals (ns.map V.int) us → ∃ ps : List (Int × Tok), us = ps.map (fun p => Value.int p.1 p.2) ∧ ps.map (·.1) = ns
  | [], us, r => by cases r; exact ⟨[], rfl, rfl⟩
  | n :: ns, us, r => by
    rw [List.map_cons] at r
    cases r with
    | cons r1 r2 =>
      obtain ⟨t, rfl⟩ := r1
      obtain ⟨ps, e1, e2⟩ := ints_items r2
      exact ⟨(n, t) :: ps, by rw [e1]; rfl, by rw [List.map_cons, e2]⟩
theorem preSum_take (ps : List (Int × Tok)) : ∀ k, k ≤ ps.length → preSum (numAt ps.toArray) k = ((ps.map (·.1)).take k).sum
  | 0, _ => by simp [preSum]
  | k + 1, h => by
    show preSum (numAt ps.toArray) k + numAt ps.toArray k = _
    rw [preSum_take ps k (by omega), List.take_add_one, List.sum_append]
    congr 1
    have hk : k < ps.length := by omega
    simp [numAt, hk]
def rSum (K : PySem.W.Frag) : List V → Hp → VK → Prop := fun xs H Q => ∃ p, ∃ ns : List Int, xs = [.ref p] ∧ SqL K H p (ns.map V.int) ∧ Q (.int ns.sum) H
theorem call_sum (hc : X.calm = true) : CallR X (.builtin "sum") (rSum X.K) := by
  intro pins s σ H xs us Q I r h
  obtain ⟨p, ns, rfl, hq, q⟩ := h
  obtain ⟨u, rfl, ru⟩ := vals1 r
  cases ru
  obtain ⟨its, rv, pl, hz⟩ := I.list hq
  obtain ⟨ps, e1, e2⟩ := ints_items rv
  have hl : s.heap.IsList p (intItems ps.toArray) := by
    have e : intItems ps.toArray = its.toArray := by rw [e1]; simp [intItems]
    rw [e]
    exact pl.isList
  refine sum_intListG (I.ok.hd hc) hl fun h' tk t' k => ⟨.int ns.sum, H, I.kept (t' := tk) k, ⟨t', ?_⟩, q⟩
  show Value.int _ t' = Value.int _ t'
  rw [preSum_take ps _ (by simp), e2]
  congr 1
  rw [List.take_of_length_le (by rw [← e2]; simp)]
def rMulS : R2 := fun x y H Q => ∃ z n, x = .str z ∧ y = .int n ∧ z.length ≤ 16 ∧ n ≤ 1048576 ∧ -(2 ^ 63 : Int) ≤ n ∧ Q (.str ⟨((List.replicate n.toNat z.cps.toList).flatten).toArray⟩) H
theorem str_indices (lo hi : Option Int) (n : Nat) : Builtin.Str.strSliceIndices lo hi 1 n = (List.range (HT.sIx n n hi - HT.sIx n 0 lo)).map (HT.sIx n 0 lo + ·) := by
  rw [← sliceRange_one]
  unfold Builtin.Str.strSliceIndices
  simp only [show (1 : Int) > 0 by decide, if_true]
  congr 1
  · cases lo with
    | none => rfl
    | some i =>
      simp only [HT.sIx]
      split <;> omega
  · cases hi with
    | none => rfl
    | some i =>
      simp only [HT.sIx]
      split <;> omega
def cutS (z : Str) (lo hi : Option Int) : Str := tx ((z.cps.toList.drop (HT.sIx z.length 0 lo)).take (HT.sIx z.length z.length hi - HT.sIx z.length 0 lo))
theorem slice_cut (z : Str) (lo hi : Option Int) : Txt.slice z lo hi = cutS z lo hi := by
  have hj : HT.sIx z.length z.length hi ≤ z.length := HT.sIx_le _ _ (Nat.le_refl _) hi
  have hi0 : HT.sIx z.length 0 lo ≤ z.length := HT.sIx_le _ _ (Nat.zero_le _) lo
  have hz : z.length = z.cps.toList.length := by simp [Str.length]
  unfold Txt.slice cutS
  rw [str_indices]
  by_cases h : ((1 : Int) == 1 && ((List.range (HT.sIx z.length z.length hi - HT.sIx z.length 0 lo)).map (HT.sIx z.length 0 lo + ·)).length == z.length) = true
  · rw [if_pos h]
    rw [Bool.and_eq_true] at h
    have h := eq_of_beq h.2
    rw [List.length_map, List.length_range] at h
    have h0 : HT.sIx z.length 0 lo = 0 := by omega
    rw [h, h0, List.drop_zero, hz, List.take_length]
    unfold tx
    simp
  · rw [if_neg h, pick_run]
    rfl
def rSlS : V → Option Int → Option Int → Hp → VK → Prop := fun x lo hi H Q => ∃ z, x = .str z ∧ z.length ≤ sizeLine ∧ Q (.str (cutS z lo hi)) H
theorem part_of {v : Value} {o : Option Int} (p : IsPart v o) : ∃ q : Option (Int × Tok), v = partValue q ∧ q.map (·.1) = o := by
  cases p with
  | none => exact ⟨none, rfl, rfl⟩
  | int i t => exact ⟨some (i, t), rfl, rfl⟩
theorem sl_str : SlR X rSlS := by
  intro pins s σ H x v vl vu lo hi sl Q I rx hs pl pu h
  obtain ⟨z, rfl, hz, q⟩ := h
  obtain ⟨t, rfl⟩ := rx
  refine ⟨"str", _, F.slot_str_getitem.lookup, typeIs_str _ _ _, ?_⟩
  obtain ⟨l, rfl, el⟩ := part_of pl
  obtain ⟨u, rfl, eu⟩ := part_of pu
  refine wpAny_getItem_str_slice (l := l) (u := u) (st := none) hs rfl ?_
  have e : sliceMade z t l u none = if ((1 : Int) == 1 && (Builtin.Str.strSliceIndices lo hi 1 z.length).length == z.length) = true then .val (.str z t) else .str ⟨((Builtin.Str.strSliceIndices lo hi 1 z.length).filterMap (z.cps[·]?)).toArray⟩ := by
    rw [← el, ← eu]
    rfl
  rw [e]
  refine post_val_or_str ⟨Nat.le_trans (Txt.slice_le z lo hi) hz, fun t' c => ⟨.str (cutS z lo hi), H, I.tok _, ⟨t', ?_⟩, q⟩⟩
  rw [← slice_cut]
  rfl
def rCatL (K : PySem.W.Frag) : R2 := fun x y H Q => ∃ l b xs zs, x = .ref l ∧ y = .ref b ∧ SqL K H l xs ∧ SqL K H b zs ∧ xs.length + zs.length ≤ sizeLine ∧ ∀ p, H p = none → Q (.ref p) (upd H p (.lst (xs ++ zs)))
theorem op_catL : OpR X (binaryOp .Add) (rCatL X.K) := by
  intro pins s σ H x y v u Q I rx ry h
  obtain ⟨l, b, xs, zs, rfl, rfl, hH, hB, hz, q⟩ := h
  cases rx
  cases ry
  obtain ⟨its, r, pl, hl⟩ := I.list hH
  obtain ⟨its2, r2, pl2, hl2⟩ := I.list hB
  have e1 := r.length
  have e2 := r2.length
  obtain ⟨o, n, g1, c1, d1, da1⟩ := pl
  obtain ⟨o2, n2, g2, c2, d2, da2⟩ := pl2
  obtain ⟨oc, od, oda, osl⟩ := o
  obtain ⟨pc, pd, pda, psl⟩ := o2
  dsimp only at c1 d1 da1 c2 d2 da2
  subst c1 d1 da1 c2 d2 da2
  refine concat_meets ⟨_, g1, rfl⟩ ⟨_, g2, rfl⟩ noFill_list_add seq_list_add PySem.F.slot_list_add PySem.F.entry_list_add (PySem.F.args_list_add_2 _ _) (list_addW l b its.toArray its2.toArray n n2 none none osl psl (by rw [List.size_toArray, List.size_toArray]; omega)) ⟨g1, g2, ?_⟩
  have ea : its.toArray ++ its2.toArray = (its ++ its2).toArray := by simp
  rw [ea]
  exact ⟨.ref _, _, I.lnew (t' := s.toks) (r.append r2) (by rw [List.length_append]; omega), rfl, q _ I.fresh⟩
theorem eqL_min : ∀ (xs ys : List V), ((List.range (min xs.length ys.length)).all (fun i => (match xs[i]?, ys[i]? with | some x, some y => eqV x y | _, _ => true)) && xs.length == ys.length) = eqL xs ys := by
  intro xs ys
  by_cases h : xs.length = ys.length
  · rw [eqL_all h, h, Nat.min_self, beq_self_eq_true, Bool.and_true] <;> rfl
  · rw [eqL_len h, beq_eq_false_iff_ne.mpr h, Bool.and_false]
def rEqT (K : PySem.W.Frag) : R2 := fun x y H Q => ∃ p q xs ys, x = .ref p ∧ y = .ref q ∧ SqT K H p xs ∧ SqT K H q ys ∧ xs.all flatV = true ∧ ys.all flatV = true ∧ Q (.bl (eqL xs ys)) H
theorem rc_tup {A : Around} {pins : List (Addr × Obj)} {σ : St} {H : Hp} {s : Shared} {p q : Addr} {xs ys : List V} (I : Inv X pins σ H s) (hu : A.units < cLine) (hx : SqT X.K H p xs) (hy : SqT X.K H q ys) (fx : xs.all flatV = true) (fy : ys.all flatV = true) :
    SeqAt.RcAt A s (.ref p) (.ref q) (eqL xs ys) := by
  obtain ⟨us, r, pl, _⟩ := I.tuple hx
  obtain ⟨ws, r', pl', _⟩ := I.tuple hy
  have e1 := r.length
  have e2 := r'.length
  have z := SeqAt.RcAt.tuples (A := A) pl pl' hu (eqAt_items r r' fx fy)
  rw [List.size_toArray, List.size_toArray, ← e1, ← e2] at z
  rw [← eqL_min]
  exact z
theorem op_eqT (hu : X.A.units < cLine) : OpR X (compareOp .Eq) (rEqT X.K) := by
  intro pins s σ H x y v u Q I rx ry h
  obtain ⟨p, q, xs, ys, rfl, rfl, hx, hy, fx, fy, k⟩ := h
  cases rx
  cases ry
  exact rc_tup I hu hx hy fx fy X.prog X.w X.xe _ ⟨.bl (eqL xs ys), H, I, rfl, k⟩
def rInT (K : PySem.W.Frag) : R2 := fun x y H Q => ∃ p q xs, ∃ ts : List (Addr × List V), x = .ref p ∧ y = .ref q ∧ SqT K H p xs ∧ SqL K H q (ts.map fun t => V.ref t.1) ∧ (∀ t ∈ ts, SqT K H t.1 t.2 ∧ t.2.all flatV = true) ∧ xs.all flatV = true ∧ Q (.bl (ts.any fun t => eqL t.2 xs)) H
end
end L2
set_option Elab.async false
set_option linter.all false
set_option maxRecDepth 100000
set_option maxHeartbeats 4000000
namespace L2
open PySem PySem.Spec PyProof.Rows
def exClsB (K : PySem.W.Frag) (D : Addr) : Bool := (PySem.W.clsIn K D).isSome && PySem.W.findIn K (.ref D) "__getattribute__" == some (some (.builtin "BaseException.__getattribute__")) && PySem.W.findIn K (.ref D) "__getattr__" == some none &&
  PySem.W.findIn K (.ref D) "__class__" == some (some (.builtin "object.__class__")) && PySem.W.specialIn K (.builtin "object.__class__") "__get__" == some (some (.builtin "getset_descriptor.__get__")) && PySem.W.takesIn K (.builtin "object.__class__") == some true &&
  PySem.W.mroIn K D (.type "object") == some true && PySem.W.mroIn K D (.type "BaseException") == some true
theorem exCls_of {K : PySem.W.Frag} {D : Addr} (h : exClsB K D = true) : ExCls K D := by
  unfold exClsB at h
  rw [Bool.and_eq_true, Bool.and_eq_true, Bool.and_eq_true, Bool.and_eq_true, Bool.and_eq_true, Bool.and_eq_true, Bool.and_eq_true] at h
  obtain ⟨⟨⟨⟨⟨⟨⟨h1, h2⟩, h3⟩, h4⟩, h5⟩, h6⟩, h7⟩, h8⟩ := h
  exact ⟨h1, beq_iff_eq.mp h2, beq_iff_eq.mp h3, beq_iff_eq.mp h4, beq_iff_eq.mp h5, beq_iff_eq.mp h6, beq_iff_eq.mp h7, beq_iff_eq.mp h8⟩
end L2
set_option Elab.async false
set_option linter.all false
set_option maxRecDepth 100000
set_option maxHeartbeats 4000000
namespace UT
open PySem PySem.Spec PyProof.Rows L2 UM
def cd (b : Bool) : Nat := if b then 117 else 100
def rt (R : List Bool) : Str := tx (R.map cd)
theorem rt_length (R : List Bool) : (rt R).length = R.length := by rw [rt, tx_length, List.length_map]
theorem sgs_rt (R : List Bool) : sgs (rt R) = R.map fun b => sg (cd b) := by rw [rt, sgs_tx, List.map_map]; rfl
theorem count_rt (R : List Bool) : (R.map cd).count 117 + (R.map cd).count 100 = R.length := by
  induction R with
  | nil => rfl
  | cons b r ih => cases b <;> simp [cd, List.count_cons] <;> omega
theorem sg_u (b : Bool) : decide (sg (cd b) = V.str "u") = b := by cases b <;> decide +kernel
theorem hts_split {R : List Bool} {pre : List Int} {h : Int} {r : List Bool} (hR : R.length ≤ 16000000) (hh : hts 0 R = pre ++ hts h r) : pre.length + r.length ≤ 16000000 := by
  have e := congrArg List.length hh
  rw [List.length_append, hts_length, hts_length] at e
  omega
theorem ud_tab (b : Bool) : valV (mergeK [] [((Sum.inr ("u" : Str) : Key), V.int 1), ((Sum.inr ("d" : Str) : Key), V.int (-1))]) (Sum.inr (⟨#[cd b]⟩ : Str) : Key) = some (.int (stp b)) := by cases b <;> decide +kernel
def lc (b : Bool) : Nat := if b then 102 else 98
def mvS (m : Mv) : Str := tx [lc m.1, lc m.2]
def mvV (m : Mv) : V := .str (mvS m)
theorem mvS_inj {a b : Mv} : mvS a = mvS b ↔ a = b := by
  constructor
  · intro h
    obtain ⟨a1, a2⟩ := a
    obtain ⟨b1, b2⟩ := b
    cases a1 <;> cases a2 <;> cases b1 <;> cases b2 <;> first | rfl | (exact absurd h (by decide +kernel))
  · rintro rfl; rfl
theorem flat_mv (ms : List Mv) : (ms.map mvV).all flatV = true := by
  induction ms with
  | nil => rfl
  | cons m r ih => rw [List.map_cons, List.all_cons, ih]; rfl
theorem all4_mv : all4.map mvV = [.str "ff", .str "fb", .str "bf", .str "bb"] := by decide +kernel
theorem mv_0 (m : Mv) : (mvS m).cps.toList[0]? = some (lc m.1) := rfl
theorem mv_1 (m : Mv) : (mvS m).cps.toList[1]? = some (lc m.2) := rfl
theorem plc_at {xs : List Int} {i : Int} {x : Int} (h : plc xs i = some x) : atI (xs.map V.int) i = some (.int x) ∧ 0 ≤ i ∧ i < xs.length := by
  unfold plc at h
  by_cases q : 0 ≤ i
  · rw [if_pos q] at h
    obtain ⟨h1, h2⟩ := List.getElem?_eq_some_iff.mp h
    obtain ⟨n, rfl⟩ := Int.eq_ofNat_of_zero_le q
    refine ⟨atI_nat (j := n) ?_, q, by omega⟩
    rw [List.getElem?_map]
    have h : xs[n]? = some x := h
    rw [h]
    rfl
  · rw [if_neg q] at h
    cases h
end UT
namespace UT
open PySem L2 UM
end UT
namespace UT
open PySem L2 UM
theorem rd_place {K : PySem.W.Frag} {σ : St} {H : Hp} {Q : Bool → Hp → Prop} {n m : Nat} {i : Int} {a : Addr} {xs : List V} (hv : σ[n]? = some (some (.int i))) (ha : σ[m]? = some (some (.ref a))) (hx : SqL K H a xs) (q : Q (decide (0 ≤ i) && decide (i < (xs.length : Int))) H) :
    tTest (tChain (rI0 fun i j => .bl (decide (i ≤ j))) (rI0 fun i j => .bl (decide (i < j))) (tC (.int 0)) (tVar n) (tCB (rLen K) (tCons (tVar m) tNil))) σ H Q := by
  refine ⟨_, hv, _, _, rfl, rfl, _, rfl, ite2 (fun hc => ?_) (fun hc => ?_)⟩
  · refine ⟨_, ha, _, _, rfl, .inl ⟨_, hx, rfl⟩, _, _, rfl, rfl, _, rfl, ?_⟩
    rw [hc, Bool.true_and] at q
    exact q
  · have hc : decide (0 ≤ i) = false := by simpa using hc
    rw [hc, Bool.false_and] at q
    exact ⟨_, rfl, q⟩
theorem dcI (x y : Int) : decide (V.int x = V.int y) = decide (x = y) := by
  by_cases h : x = y
  · subst h; simp
  · rw [decide_eq_false h, decide_eq_false fun z => h (V.int.inj z)]
def mt (m : Mv) : List V := [mvV m, .int (stp m.1), .int (stp m.2)]
end UT
namespace UT
open PySem L2 UM
theorem cutV_to (ns : List Int) (m : Nat) : cutV (ns.map V.int) none (some (m : Int)) = (ns.take m).map V.int := by
  unfold cutV
  rw [HT.sIx_none, HT.sIx_nat, List.drop_zero, Nat.sub_zero, List.map_take]
  rcases Nat.le_total m (ns.map V.int).length with h | h
  · rw [Nat.min_eq_left h]
  · rw [Nat.min_eq_right h, List.take_of_length_le (Nat.le_refl _), List.take_of_length_le h]
theorem cutV_from (ns : List Int) (m : Nat) : cutV (ns.map V.int) (some (m : Int)) none = (ns.drop m).map V.int := by
  unfold cutV
  rw [HT.sIx_none, HT.sIx_nat, List.map_drop]
  rcases Nat.le_total m (ns.map V.int).length with h | h
  · rw [Nat.min_eq_left h, List.take_of_length_le (by simp)]
  · rw [Nat.min_eq_right h, Nat.sub_self, List.take_zero, List.drop_eq_nil_of_le h]
theorem eqL_ii (a b c d : Int) : eqL [.int a, .int b] [.int c, .int d] = (decide (a = c) && decide (b = d)) := by
  show ((a == c) && ((b == d) && true)) = _
  rw [Bool.and_true]
  congr 1 <;> rw [Bool.eq_iff_iff, decide_eq_true_iff, beq_iff_eq]
end UT
namespace UT
open PySem L2 UM
end UT
set_option Elab.async false
set_option linter.all false
set_option maxRecDepth 100000
set_option maxHeartbeats 4000000
namespace L2
open PySem PySem.Spec PyProof.Rows
section
variable {X : Cx}
def rIxGI (P : Program) (w : World) (K : PySem.W.Frag) : R2 := fun x y H Q => ∃ a D k n, x = .ref a ∧ y = .str k ∧ GTab P w K a D ∧ PySem.Spec.lookup (.str k) (D.map fun p => (PyData.str p.1, p.2)) = some (.int n) ∧ Q (.int n) H
theorem ix_gtabI : IxR X (rIxGI X.prog X.w X.K) := by
  intro value slice pins s σ H x y v u Q I rx ry h hs
  obtain ⟨a, D, k, n, rfl, rfl, hT, hl, q⟩ := h
  cases rx
  obtain ⟨t, rfl⟩ := ry
  obtain ⟨lo, kvs, hd, hf⟩ := hT _ I.kIn
  obtain ⟨v, hv, hfl⟩ := hf.of_lookup PyProof.V.same_str hl
  obtain ⟨tv, rfl⟩ := hfl.int_inv
  exact tail_any hd.typeIs F.slot_dict_getitem.lookup (wpAny_getItem_of (strKind_is X.prog X.w k t) hd.mapOf hv ⟨.int n, H, I.tok _, ⟨_, rfl⟩, q⟩) hs
def rMinL (K : PySem.W.Frag) : List V → Hp → VK → Prop := fun xs H Q => ∃ p, ∃ ns : List Int, xs = [.ref p] ∧ SqL K H p (ns.map V.int) ∧ ns ≠ [] ∧ ∀ m, m ∈ ns → (∀ x ∈ ns, m ≤ x) → Q (.int m) H
def rMaxL (K : PySem.W.Frag) : List V → Hp → VK → Prop := fun xs H Q => ∃ p, ∃ ns : List Int, xs = [.ref p] ∧ SqL K H p (ns.map V.int) ∧ ns ≠ [] ∧ ∀ m, m ∈ ns → (∀ x ∈ ns, x ≤ m) → Q (.int m) H
def rNeT (K : PySem.W.Frag) : R2 := fun x y H Q => ∃ p q xs ys, x = .ref p ∧ y = .ref q ∧ SqT K H p xs ∧ SqT K H q ys ∧ xs.all flatV = true ∧ ys.all flatV = true ∧ Q (.bl (!eqL xs ys)) H
theorem op_neT (hu : X.A.units < cLine) : OpR X (compareOp .NotEq) (rNeT X.K) := by
  intro pins s σ H x y v u Q I rx ry h
  obtain ⟨p, q, xs, ys, rfl, rfl, hx, hy, fx, fy, k⟩ := h
  cases rx
  cases ry
  obtain ⟨us, r, pl, _⟩ := I.tuple hx
  obtain ⟨ws, r', pl', _⟩ := I.tuple hy
  have e1 := r.length
  have e2 := r'.length
  have z := SeqAt.RcNeAt.tuples (A := X.A) pl pl' hu (eqAt_items r r' fx fy)
  rw [List.size_toArray, List.size_toArray, ← e1, ← e2] at z
  refine z X.prog X.w X.xe _ ⟨.bl (!eqL xs ys), H, I, ?_, k⟩
  show Value.bool _ = Value.bool _
  rw [← eqL_min] <;> rfl
def tDispT (tk tv : TE) : TE := fun σ H Q => ∀ p, H p = none → tk σ (upd H p (.dT [])) fun x H1 => tv σ H1 fun y H2 => ∃ b k, x = .ref b ∧ H2 b = some (.tup (List.map kV k)) ∧ H2 p = some (.dT []) ∧ Q (.ref p) (upd H2 p (.dT [(k, y)]))
theorem pe_dispT {k v : Expr} {tk tv : TE} {pos : Pos} (hu : X.A.units + 1 < cLine) (hk : PE X k tk) (hv : PE X v tv) : PE X (.Dict [some k] [v] pos) (tDispT tk tv) := by
  intro pins s σ H Q I q
  have hn := I.hok.fresh (Nat.le_refl s.heap.objs.size)
  have I1 := I.laid (a := s.heap.objs.size) (o := .dT []) (h' := s.heap.push { cls := .type "dict", data := .dict #[] }) (t' := s.toks) (fun _ _ q => Heap.get?_push_of_some _ q) (Nat.le_refl _) (dt_empty s.heap I.big)
  have hp : PPs X pos [some k] [v] [(tk, tv)] := pps_cons hk hv pps_nil
  let R : List (V × V) → Hp → Prop := fun ps H2 => match ps with
    | [(x, y)] => ∃ b kk, x = V.ref b ∧ H2 b = some (.tup (List.map kV kk)) ∧ H2 s.heap.objs.size = some (.dT []) ∧ Q (.ref s.heap.objs.size) (upd H2 s.heap.objs.size (.dT [(kk, y)]))
    | _ => False
  refine wpAny_Dict_any rfl rfl (by simp) (by show 1 ≤ 15; decide) (thn (hp pins _ σ _ R I1 (q _ hn)) fun ws s2 ⟨ps, H2, I2, rel, hR⟩ => ?_)
  obtain ⟨x, y, e⟩ : ∃ x y, ps = [(x, y)] := match ps, hR with
    | [], h => h.elim
    | [(x, y)], _ => ⟨x, y, rfl⟩
    | _ :: _ :: _, h => h.elim
  subst e
  obtain ⟨b, kk, ex, eb, ed, q2⟩ := hR
  · subst ex
    cases rel with
    | @cons _ w1 _ _ h t =>
      cases t
      obtain ⟨u1, u2⟩ := w1
      obtain ⟨r1, r2⟩ := h
      cases (show u1 = Value.ref b from r1)
      obtain ⟨z, hd, xs, rel2, dd⟩ := dt_of I2.hok ed
      cases rel2
      unfold storeAll
      rw [List.forIn_cons]
      refine wpAny_bind (wpAny_bind (wpAny_dictSet_heap (hsz := Nat.zero_le _) (knd := tupleKind (mixKind X.prog X.w)) (show X.A.units < cLine by omega) (key_of I2.hok eb) dd fun h' dd' hs => wpAny_pure ?_))
      dsimp only
      rw [List.forIn_nil]
      refine wpAny_pure ⟨.ref s.heap.objs.size, _, ?_, rfl, q2⟩
      obtain ⟨o, es, ep, hq, h2, h3, h4, _, h5⟩ := dd'
      refine d_write I2 (by rw [ed]; exact True.intro) hs ⟨o, hq⟩ ⟨by show 1 ≤ sizeLine; decide, hd, _, .cons ⟨rfl, ?_, r2⟩ .nil, o, es, ep, hq, h2, h3, h4, h5⟩
      rw [upd_ne (ne_of eb ed (fun z => nomatch z))]
      exact eb
structure InsTy (K : PySem.W.Frag) (C : Addr) : Prop where
  ha : PySem.W.findIn K (.ref C) "__class__" = some (some (.builtin "object.__class__"))
  hn : PySem.W.specialIn K (.builtin "object.__class__") "__get__" = some (some (.builtin "getset_descriptor.__get__"))
  ht : PySem.W.takesIn K (.builtin "object.__class__") = some true
  hm : PySem.W.mroIn K C (.type "object") = some true
theorem InsTy.of {K : PySem.W.Frag} {H : Hp} {a C dx : Addr} {fs : List (Str × V)} (y : InsTy K C) (cl : Cls K C) (e : H a = some (.ins C dx fs)) : TyOf K H (.ref a) (.ref C) := .ins e cl y.ha y.hn y.ht y.hm
def rIsC (K : PySem.W.Frag) : List V → Hp → VK → Prop := fun xs H Q => ∃ x C t b, xs = [x, .ref C] ∧ TyOf K H x t ∧ PySem.W.kitOne K t (.ref C) = some b ∧ Q (.bl b) H
theorem call_isC : CallR X (.builtin "isinstance") (rIsC X.K) := by
  intro pins s σ H xs us Q I r h
  obtain ⟨x, C, t, b, rfl, ht, hk, q⟩ := h
  obtain ⟨u, v, rfl, ru, rv⟩ := vals2 r
  cases (show v = Value.ref C from rv)
  exact isinst_ok I ru ht hk fun tk => ⟨.bl b, H, I.tok _, rfl, q⟩
end
end L2
namespace UT
open PySem L2 UM
def pkey (p : Pr) : List Key := [Sum.inl p.1, Sum.inl p.2]
def pt2 (p : Pr) : List V := [.int p.1, .int p.2]
theorem pkey_inj {p q : Pr} (h : pkey p = pkey q) : p = q := by
  obtain ⟨a, b⟩ := p
  obtain ⟨c, d⟩ := q
  simp [pkey] at h
  rw [h.1, h.2]
def mo : Option Mv → V
  | none => .non
  | some m => mvV m
def kvD (D : Dc) : List (List Key × V) := D.map fun e => (pkey e.1, mo e.2)
theorem kvD_len (D : Dc) : (kvD D).length = D.length := List.length_map _
theorem val_kvD (D : Dc) (p : Pr) : valV (kvD D) (pkey p) = (dlk D p).map mo := by
  induction D with
  | nil => rfl
  | cons e D ih =>
    show valV ((pkey e.1, mo e.2) :: kvD D) (pkey p) = _
    by_cases h : e.1 = p
    · have e1 : dlk (e :: D) p = some e.2 := by
        unfold dlk
        rw [List.find?_cons, decide_eq_true h]
        rfl
      rw [valV_pos (by show pkey e.1 = pkey p; rw [h]), e1]
      rfl
    · have e1 : dlk (e :: D) p = dlk D p := by
        unfold dlk
        rw [List.find?_cons, decide_eq_false h]
      rw [valV_neg (fun z => h (pkey_inj z)), e1]
      exact ih
theorem put_kvD {D : Dc} {p : Pr} (o : Option Mv) (h : p ∉ ks D) : putK (kvD D) (pkey p) (mo o) = kvD (D ++ [(p, o)]) := by
  have e : valV (kvD D) (pkey p) = none := by rw [val_kvD, dlk_none.mpr h]; rfl
  rw [putK_new _ e]
  unfold kvD
  rw [List.map_append]
  rfl
theorem get_kvD {D : Dc} {p : Pr} : (valV (kvD D) (pkey p)).isSome = decide (p ∈ ks D) := by
  rw [val_kvD, Option.isSome_map]
  cases e : dlk D p with
  | none => rw [decide_eq_false (dlk_none.mp e)]; rfl
  | some a =>
    rw [decide_eq_true]
    · rfl
    · apply Classical.byContradiction
      intro n
      rw [dlk_none.mpr n] at e
      cases e
theorem eqL_pt (p q : Pr) : eqL (pt2 p) (pt2 q) = decide (p = q) := by
  obtain ⟨a, b⟩ := p
  obtain ⟨c, d⟩ := q
  unfold pt2
  rw [eqL_ii, Bool.eq_iff_iff, Bool.and_eq_true, decide_eq_true_iff, decide_eq_true_iff, decide_eq_true_iff, Prod.mk.injEq]
theorem step_tab (b : Bool) : PySem.Spec.lookup (.str ⟨#[lc b]⟩) (([("f", .int 1), ("b", .int (-1))] : List (Str × PyData)).map fun p => (PyData.str p.1, p.2)) = some (.int (stp b)) := by cases b <;> rfl
theorem back_tab (m : Mv) : PySem.Spec.lookup (.str (mvS m)) (([("ff", .str "bb"), ("fb", .str "bf"), ("bf", .str "fb"), ("bb", .str "ff")] : List (Str × PyData)).map fun p => (PyData.str p.1, p.2)) = some (.str (mvS (bk m))) := by
  obtain ⟨a, b⟩ := m
  cases a <;> cases b <;> rfl
end UT
set_option Elab.async false
set_option linter.all false
set_option maxRecDepth 100000
set_option maxHeartbeats 4000000
namespace L2
open PySem PySem.Spec PyProof.Rows
def Itv (K : PySem.W.Frag) (a : Addr) (n : Nat) : It :=
  ⟨fun i H => i < n ∧ ∃ xs, SqL K H a xs ∧ xs.length = n, fun i H x H' => H' = H ∧ ∀ xs, SqL K H a xs → xs[n - 1 - i]? = some x, fun i H => i = n⟩
section
variable {X : Cx} {tg : Expr}
def iRev (K : PySem.W.Frag) (ta : TA) : TI := fun σ H R => ta σ H fun vs H1 => ∃ a xs, vs = [.ref a] ∧ SqL K H1 a xs ∧ R (Itv K a xs.length) H1
def rIndex (K : PySem.W.Frag) : V → List V → Hp → VK → Prop := fun x vs H Q => ∃ l, ∃ ns : List Int, ∃ v : Int, ∃ j : Nat, x = .ref l ∧ vs = [.int v] ∧ SqL K H l (ns.map V.int) ∧ ns[j]? = some v ∧ (∀ i, i < j → ns[i]? ≠ some v) ∧ Q (.int j) H
end
end L2
set_option Elab.async false
set_option linter.all false
set_option maxRecDepth 100000
set_option maxHeartbeats 4000000
namespace L2
open PySem PySem.Spec PyProof.Rows
section
variable {X : Cx} {pins : List (Addr × Obj)} {σ : St} {H : Hp} {s : Shared} {h' : Heap}
end
def Itz (K : PySem.W.Frag) (a b : Addr) : It :=
  ⟨fun i H => ∃ xs ys, SqL K H a xs ∧ SqL K H b ys ∧ i < min xs.length ys.length,
   fun i H x H' => ∃ T, x = .ref T ∧ H T = none ∧ ∀ xs ys, SqL K H a xs → SqL K H b ys → ∃ u v, xs[i]? = some u ∧ ys[i]? = some v ∧ H' = upd H T (.tup [u, v]),
   fun i H => ∃ xs ys, SqL K H a xs ∧ SqL K H b ys ∧ i = min xs.length ys.length⟩
section
variable {X : Cx}
def iZip (K : PySem.W.Frag) (ta : TA) : TI := fun σ H R => ta σ H fun vs H1 => ∃ a b xs ys, vs = [.ref a, .ref b] ∧ SqL K H1 a xs ∧ SqL K H1 b ys ∧ R (Itz K a b) H1
end
section
variable {X : Cx} {e lo st : Expr} {te tl ts : TE} {p3 pos : Pos}
def stepN (n lo k : Int) : Nat := ((n - lo + k - 1) / k).toNat
def tStep (K : PySem.W.Frag) (te tl ts : TE) : TE := fun σ H Q => te σ H fun x H1 => tl σ H1 fun l H2 => ts σ H2 fun k H3 => ∃ a, ∃ ns : List Int, ∃ lo k' : Int, x = .ref a ∧ l = .int lo ∧ k = .int k' ∧ SqL K H3 a (ns.map V.int) ∧ 0 ≤ lo ∧ 1 ≤ k' ∧
  ∀ p, ∀ ms : List Int, H3 p = none → ms.length ≤ stepN ns.length lo k' → Q (.ref p) (upd H3 p (.lst (ms.map V.int)))
end
end L2
set_option Elab.async false
set_option linter.all false
set_option maxRecDepth 100000
set_option maxHeartbeats 4000000
namespace L2
open PySem PySem.Spec PyProof.Rows
section
variable {prog : Program} {w : World} {A : Around} {E : Value → Shared → Prop} {s : Shared} {d it : Addr} {o : Obj} {es : Array DictEntry} {ep : Nat}
def RawD (h : Heap) (d : Addr) (es : Array DictEntry) (ep : Nat) : Prop := ∃ o, h.get? d = some o ∧ o.ExactDict ∧ o.data = .dict es ep
theorem RawD.ty (r : RawD s.heap d es ep) : s.TypeIs (.ref d) "dict" := let ⟨o, h1, h2, _⟩ := r; ⟨o, h1, h2.1⟩
theorem RawD.at {h h' : Heap} (r : RawD h d es ep) (k : ∀ o, h.get? d = some o → h'.get? d = some o) : RawD h' d es ep := let ⟨o, h1, h2⟩ := r; ⟨o, k o h1, h2⟩
theorem raw_iter {Q : Value → Shared → Prop} (lo : (d == sysModules) = false) (r : RawD s.heap d es ep)
    (k : Q (.ref s.heap.objs.size) { s with heap := s.heap.push { cls := .type "dict_keyiterator", data := .fields #[.ref d, .int 0 0, .int es.size 0, .int ep 0] } }) : wpAny (model prog w) A (pyIter (.ref d)) Q E s := by
  have ty := r.ty
  obtain ⟨o, h1, h2, h3⟩ := r
  refine wpAny_pyIter_slot ty F.slot_dict_iter (wpAny_call_entry F.slot_dict_iter ty F.entry_dict_iter (wpAny_bind ?_) (F.args_dict_iter_1 _))
  unfold Builtin.Dict.dictSlotNone; refine wpAny_bind (wpAny_notOrdered_dict ty (show wpAny _ _ (pure (Value.ref d)) _ _ s from wpAny_pure ?_))
  show wpAny _ _ (Builtin.Dict.showsAll d >>= _) _ _ s; unfold Builtin.Dict.showsAll
  rw [lo, if_neg Bool.false_ne_true]
  refine wpAny_bind (wpAny_pure (wpAny_bind (wpAny_dictEntries h1 h3 (wpAny_bind (wpAny_dictEpoch h1 h3 ?_)))))
  exact wpAny_bind (wpAny_newObj_type (wpAny_pure ⟨_, rfl, "dict_keyiterator", _, ⟨_, Heap.get?_push_size _ rfl, rfl⟩, F.slot_dict_keyiterator_next.lookup, by simpa [rawInt] using k⟩))
theorem raw_item {i : Nat} {e : DictEntry} {Q : Option Value → Shared → Prop} (t : s.heap.IsKeyIter it d i es.size ep) (r : RawD s.heap d es ep) (he : es[i]? = some e)
    (k : ∀ h', h'.IsKeyIter it d (i + 1) es.size ep → Heap.SameBut it s.heap h' → Q (some e.key) { s with heap := h' }) : wpAny (model prog w) A (pyNext (.ref it)) Q E s := by
  have ti := t.typeIs
  obtain ⟨oi, a1, a2, a3⟩ := t
  obtain ⟨o, h1, h2, h3⟩ := r
  obtain ⟨hlt, hee⟩ := Array.getElem?_eq_some_iff.mp he
  unfold pyNext; refine wpAny_bind (wpAny_attempt (wpAny_callSpecial?_slot (name := Str.ofString "__next__") ti F.slot_dict_keyiterator_next (wpAny_call_entry F.slot_dict_keyiterator_next ti F.entry_dict_keyiterator_next (wpAny_bind (wpAny_pure (wpAny_bind (wpAny_bind ?_)))) (F.args_dict_keyiterator_next_1 _))))
  first | refine wpAny_bind (wpAny_typeNameOfWhole_keyiter ti (wpAny_pure (wpAny_bind (wpAny_fieldsOf a1 a3 ?_)))) | refine wpAny_bind (wpAny_typeNameOf_keyiter ti (wpAny_pure (wpAny_bind (wpAny_fieldsOf a1 a3 ?_))))
  have own : Builtin.Dict_items.ownsTuple "dict_keyiterator" = false := by decide
  simp only [own, Bool.false_eq_true, if_false]
  show wpAny _ _ (if (Value.ref d == Value.none) = true then _ else _) _ _ _; rw [if_neg (show ¬ ((Value.ref d == Value.none) = true) by exact Bool.false_ne_true)]
  refine wpAny_bind (wpAny_pure (wpAny_bind (wpAny_dictEntries h1 h3 ?_)))
  rw [if_neg (by simp)]; refine wpAny_bind (wpAny_pure (wpAny_bind (wpAny_dictEpoch h1 h3 ?_)))
  rw [if_neg (by simp)]; refine wpAny_pure ?_
  simp only [show ¬ ((i : Int) < 0) by omega, if_false, Int.toNat_natCast, Array.getElem?_eq_getElem hlt]
  refine wpAny_bind ?_; first | refine wpAny_bind (wpAny_typeNameOfWhole_keyiter ti (wpAny_pure (wpAny_bind (wpAny_isOneOf_keyiter ti ?_)))) | refine wpAny_bind (wpAny_typeNameOf_keyiter ti (wpAny_pure (wpAny_bind (wpAny_isOneOf_keyiter ti ?_))))
  show wpAny _ _ (setField (.ref it) 1 (rawInt ((i : Int) + 1)) >>= _) _ _ _; refine wpAny_bind (wpAny_setField a1 a3 (by simp) ?_)
  have t' : (s.heap.update it (Obj.mapFields (·.setIfInBounds 1 (rawInt ((i : Int) + 1))))).IsKeyIter it d (i + 1) es.size ep :=
    ⟨_, Heap.get?_update_self _ a1 (Obj.isFreed_of_fields (Obj.data_mapFields a3 _)), (Obj.cls_mapFields ..).trans a2, by rw [Obj.data_mapFields a3]; simp [rawInt]⟩
  refine wpAny_bind (wpAny_holding (wpAny_bind (wpAny_isOneOf_keyiter (s := { s with heap := s.heap.update it (Obj.mapFields (·.setIfInBounds 1 (rawInt ((i : Int) + 1)))) }) t'.typeIs ?_)))
  show wpAny _ _ (pure es[i].key) _ _ _; rw [hee]
  exact wpAny_pure (wpAny_pure ⟨_, rfl, wpAny_pure (k _ t' (Heap.SameBut.update ..))⟩)
theorem raw_end {Q : Option Value → Shared → Prop} (hh : A.handled = none) (t : s.heap.IsKeyIter it d es.size es.size ep) (r : RawD s.heap d es ep)
    (k : ∀ h', Heap.ExtBut it s.heap h' → Q none { s with heap := h' }) : wpAny (model prog w) A (pyNext (.ref it)) Q E s := by
  have ti := t.typeIs
  obtain ⟨oi, a1, a2, a3⟩ := t
  obtain ⟨o, h1, h2, h3⟩ := r
  unfold pyNext; refine wpAny_bind (wpAny_attempt (wpAny_callSpecial?_slot (name := Str.ofString "__next__") ti F.slot_dict_keyiterator_next (wpAny_call_entry F.slot_dict_keyiterator_next ti F.entry_dict_keyiterator_next (wpAny_bind (wpAny_pure (wpAny_bind (wpAny_bind ?_)))) (F.args_dict_keyiterator_next_1 _))))
  first | refine wpAny_bind (wpAny_typeNameOfWhole_keyiter ti (wpAny_pure (wpAny_bind (wpAny_fieldsOf a1 a3 ?_)))) | refine wpAny_bind (wpAny_typeNameOf_keyiter ti (wpAny_pure (wpAny_bind (wpAny_fieldsOf a1 a3 ?_))))
  have own : Builtin.Dict_items.ownsTuple "dict_keyiterator" = false := by decide
  simp only [own, Bool.false_eq_true, if_false]
  show wpAny _ _ (if (Value.ref d == Value.none) = true then _ else _) _ _ _; rw [if_neg (show ¬ ((Value.ref d == Value.none) = true) by exact Bool.false_ne_true)]
  refine wpAny_bind (wpAny_pure (wpAny_bind (wpAny_dictEntries h1 h3 ?_)))
  rw [if_neg (by simp)]; refine wpAny_bind (wpAny_pure (wpAny_bind (wpAny_dictEpoch h1 h3 ?_)))
  rw [if_neg (by simp)]; refine wpAny_pure ?_
  simp only [show ¬ ((es.size : Int) < 0) by omega, if_false, Int.toNat_natCast, Array.getElem?_eq_none (Nat.le_refl es.size)]
  refine wpAny_bind ?_; first | refine wpAny_bind (wpAny_typeNameOfWhole_keyiter ti (wpAny_pure ?_)) | refine wpAny_bind (wpAny_typeNameOf_keyiter ti (wpAny_pure ?_))
  show wpAny _ _ (setField (.ref it) 0 .none >>= _) _ _ _; refine wpAny_bind (wpAny_setField a1 a3 (by simp) ?_)
  show wpAny _ _ (newExc (.type "StopIteration") [] >>= _) _ _ _; refine wpAny_bind ?_
  simp only [newExc, newTuple]; refine wpAny_bind (wpAny_newObj_type ?_ (by size_fits))
  refine wpAny_bind (m := firstArgMember _ _) (wpAny_of_eq (a := Value.none) (by first | rfl | (simp only [firstArgMember]; rfl)) (wpAny_newObj_type ?_ (by size_fits)))
  simp only [raiseNew]; refine wpAny_bind (wpAny_handled ?_)
  first | rw [show A.in1.handled = none by exact hh] | rw [hh]
  refine wpAny_bind (wpAny_pure (wpAny_throw ?_)); refine wpAny_bind (wpAny_isInstance (b := true) (T := "StopIteration") ⟨_, Heap.get?_push_size _ rfl, rfl⟩ isSubtype_stop ?_)
  exact wpAny_pure (k _ ((((Heap.SameBut.update ..).extBut).push _).push _))
end
section
variable {prog : Program} {w : World} {A : Around} {d : Addr} {es : Array DictEntry} {ep : Nat}
theorem walks_raw (hh : A.handled = none) (I d : Addr) (hne : d ≠ I) (es : Array DictEntry) (ep : Nat) :
    Walks prog w A I [I, d] [I] es.size (fun i v => ∃ e, es[i]? = some e ∧ v = e.key) (fun i h => h.IsKeyIter I d i es.size ep ∧ RawD h d es ep) where
  sub := fun b hb => by simp only [List.mem_singleton] at hb; rw [hb]; exact List.mem_cons_self
  frame := fun _ _ _ st hk => ⟨(let ⟨o, e, q⟩ := st.1; ⟨o, hk I (by simp) o e, q⟩), st.2.at fun o e => hk d (by simp) o e⟩
  item := fun i s Q E hi st hQ => raw_item st.1 st.2 (Array.getElem?_eq_getElem hi) fun h' t' sb => hQ _ h' s.toks ⟨_, Array.getElem?_eq_getElem hi, rfl⟩ ⟨t', st.2.at fun o e => sb.extBut d o hne e⟩ fun b o hb e => sb.extBut b o (fun z => hb (by simp [z])) e
  done := fun s Q E st hQ => raw_end hh st.1 st.2 fun h' eb => hQ h' s.toks fun b o hb e => eb b o (fun z => hb (by simp [z])) e
  self := fun _ _ _ _ st hQ => wpAny_pyIter_keyiter st.1 hQ
theorem src_raw (lo : (d == sysModules) = false) : PySem.W.KdlSrc prog w "dict" d d es.size (fun i v => ∃ e, es[i]? = some e ∧ v = e.key) (fun h => RawD h d es ep) where
  type := fun _ r => r.ty
  there := fun h r => let ⟨_, h1, _⟩ := r; ⟨Heap.lt_size h1, Heap.lt_size h1⟩
  keep := fun _ _ r hk => r.at fun o e => hk d (.inl rfl) o e
  notList := by decide
  notTuple := by decide
  hint := fun _ _ _ _ r hq => PySem.W.kdl_hint_dict r.ty hq
  iter := fun _ s hh r => ⟨_, _, (fun _ _ hq => raw_iter lo r hq), walks_raw hh _ d (let ⟨_, h1, _⟩ := r; Nat.ne_of_lt (Heap.lt_size h1)) es ep, ⟨⟨_, Heap.get?_push_size _ rfl, rfl, rfl⟩, r.at fun o e => Heap.get?_push_of_some _ e⟩⟩
end
section
variable {X : Cx}
def rListT : List V → Hp → VK → Prop := fun xs H Q => ∃ d kvs, xs = [.ref d] ∧ H d = some (.dT kvs) ∧ ∀ l, ∀ bs : List Addr, H l = none → bs.length = kvs.length → (∀ (i : Nat) (b : Addr) (kv : List Key × V), bs[i]? = some b → kvs[i]? = some kv → H b = some (.tup (kv.1.map kV))) → Q (.ref l) (upd H l (.lst (bs.map V.ref)))
theorem kt_at {H : Hp} : ∀ {kvs : List (List Key × V)} {xs : List (List Key × Addr × Value)}, KT H kvs xs → ∀ (i : Nat) (b : Addr) (kv : List Key × V), (xs.map fun x => x.2.1)[i]? = some b → kvs[i]? = some kv → H b = some (.tup (kv.1.map kV)) := by
  intro kvs xs r
  induction r with
  | nil => intro i b kv h; simp at h
  | @cons p q ps qs h t ih =>
    intro i b kv h1 h2
    cases i with
    | zero =>
      have h1 : some q.2.1 = some b := h1
      have h2 : some p = some kv := h2
      cases h1
      cases h2
      exact h.2.1
    | succ i => exact ih i b kv h1 h2
theorem call_list_dT (hc : X.calm = true) : CallR X (.type "list") rListT := by
  intro pins s σ H xs us Q I r h
  obtain ⟨d, kvs, rfl, hd, q⟩ := h
  obtain ⟨u, rfl, ru⟩ := vals1 r
  cases (show u = Value.ref d from ru)
  obtain ⟨z, lo, ys, rel, o, es, ep, h1, h2, h3, h4, h5⟩ := (show ObjOk X.prog X.w H s.heap d (.dT kvs) from I.hok d _ hd)
  have ln : ys.length = kvs.length := (Paired.length rel).symm
  have le : es.size = ys.length := by rw [← Array.length_toList, h4, List.length_map]
  refine PySem.W.kdl_call (src_raw lo) (I.ok.hd hc) ⟨o, h1, h2, h3⟩ (by rw [le, ln]; exact z) fun h' tk acc c' kp hl it => ?_
  have ea : acc.toList = (ys.map fun x => x.2.1).map Value.ref := by
    apply List.ext_getElem?
    intro i
    rw [List.getElem?_map, List.getElem?_map]
    cases e : ys[i]? with
    | none =>
      have hi := List.getElem?_eq_none_iff.mp e
      rw [List.getElem?_eq_none (by rw [Array.length_toList, it.1]; omega)]
      rfl
    | some y =>
      obtain ⟨hi, _⟩ := List.getElem?_eq_some_iff.mp e
      have hi2 : i < acc.size := by rw [it.1]; omega
      have ei : acc.toList[i]? = some acc[i] := by simp [hi2]
      obtain ⟨en, ee, ev⟩ := it.2 i _ (Array.getElem?_eq_getElem hi2)
      have e6 : es.toList[i]? = some (entryOfKey (tupleKind (mixKind X.prog X.w)) y) := by rw [h4, List.getElem?_map, e]; rfl
      have e7 : es.toList[i]? = some en := by simpa using ee
      rw [e6] at e7
      cases e7
      rw [ei, ev]
      rfl
  have rv : Vals ((ys.map fun x => x.2.1).map V.ref) acc.toList := by
    rw [ea]
    generalize (ys.map fun x => x.2.1) = bs
    induction bs with
    | nil => exact .nil
    | cons b bs ih => exact .cons rfl ih
  refine ⟨.ref s.heap.objs.size, _, I.laid (a := s.heap.objs.size) (o := .lst ((ys.map fun x => x.2.1).map V.ref)) (t' := tk) kp (Nat.le_refl _) ?_, rfl, q _ (ys.map fun x => x.2.1) (I.hok.fresh (Nat.le_refl _)) (by rw [List.length_map, ln]) (kt_at rel)⟩
  refine ⟨by rw [List.length_map, List.length_map, ln]; exact z, acc.toList, c', rv, ?_⟩
  rw [Array.toArray_toList]
  exact hl
end
end L2
set_option Elab.async false
set_option linter.all false
set_option maxRecDepth 100000
set_option maxHeartbeats 4000000
namespace L2
open PySem PySem.Spec PyProof.Rows
section
variable {X : Cx}
def rNotInT (K : PySem.W.Frag) : R2 := fun x y H Q => ∃ p q xs, ∃ ts : List (Addr × List V), x = .ref p ∧ y = .ref q ∧ SqT K H p xs ∧ SqL K H q (ts.map fun t => V.ref t.1) ∧ (∀ t ∈ ts, SqT K H t.1 t.2 ∧ t.2.all flatV = true) ∧ xs.all flatV = true ∧ Q (.bl (!ts.any fun t => eqL t.2 xs)) H
def rEqNT (K : PySem.W.Frag) : R2 := fun x y H Q => (x = .non ∧ ∃ q ys, y = .ref q ∧ SqT K H q ys ∧ Q (.bl false) H) ∨ rEqT K x y H Q
theorem op_eqNT (hu : X.A.units < cLine) : OpR X (compareOp .Eq) (rEqNT X.K) := by
  intro pins s σ H x y v u Q I rx ry h
  rcases h with ⟨rfl, q, ys, rfl, hy, k⟩ | h
  · cases (show v = Value.none from rx)
    cases (show u = Value.ref q from ry)
    obtain ⟨ws, r, pl, _⟩ := I.tuple hy
    exact SeqAt.RcAt.none_tuple (A := X.A) pl hu X.prog X.w X.xe _ ⟨.bl false, H, I, rfl, k⟩
  · exact op_eqT hu pins s σ H x y v u Q I rx ry h
def rIsNotB : R2 := fun x y H Q => ∃ a b, x = .bl a ∧ y = .bl b ∧ Q (.bl (!(a == b))) H
def tMeth2 (C1 C2 : Addr) (m : Str) (sp1 sp2 : Sp) (ta : TE) (t : TA) : TE := fun σ H Q => ta σ H fun x H1 =>
  (∃ a dx fs, x = .ref a ∧ H1 a = some (.ins C1 dx fs) ∧ fs.lookup m = none ∧ t σ H1 fun vs H2 => sp1 (x :: (vs ++ [])) H2 Q E0) ∨ (∃ a dx fs, x = .ref a ∧ H1 a = some (.ins C2 dx fs) ∧ fs.lookup m = none ∧ t σ H1 fun vs H2 => sp2 (x :: (vs ++ [])) H2 Q E0)
theorem pe_meth2 {C1 C2 f1 f2 : Addr} {fd1 fd2 : FuncData} {ps1 ps2 : List Str} {sp1 sp2 : Sp} {k : Nat} {m : Str} {o e : Expr} {es : List Expr} {apos pos : Pos} {ta : TE} {t : TA} {pl : Sem Bool} (he : PE X o ta) (c1 : Cls X.K C1) (c2 : Cls X.K C2) (m1 : Meth X.K C1 m f1) (m2 : Meth X.K C2 m f2)
    (F1 : FnOk X.prog X.w X.K X.mg X.base CX0 k f1 fd1 ps1 sp1) (F2 : FnOk X.prog X.w X.K X.mg X.base CX0 k f2 fd2 ps2 sp2) (hr : Room k X.A) (b1 : Binds X.K fd1 ps1 []) (b2 : Binds X.K fd2 ps2 []) (ha : PA X (e :: es) t)
    (hst : starEach (e :: es) X.env = (false, eval e X.env) :: starEach es X.env := by rfl) (hpl : (backTo pos (starEach es X.env)).any (·.1) = false := by rfl)
    (ht : eval (.Call (.Attribute o m apos) (e :: es) [] pos) X.env = (do
      let ov ← eval o X.env
      standAt apos.atName
      let (f, first) ← holding [ov] (getMethod ov m pl)
      callWith pos f first (backTo pos (starEach (e :: es) X.env)) (backToKw pos (keywordEach [] X.env))) := by rfl) :
    PE X (.Call (.Attribute o m apos) (e :: es) [] pos) (tMeth2 C1 C2 m sp1 sp2 ta t) := by
  intro pins s σ H Q I h
  refine PySem.W.methodCall_KW (pl := pl) (thn (he pins s σ H _ I h) fun u s1 ⟨x, H1, I1, rx, q0⟩ => ?_) ht
  rcases q0 with ⟨a, dx, fs, ex, ea, l, q⟩ | ⟨a, dx, fs, ex, ea, l, q⟩ <;> subst ex <;> obtain rfl : u = Value.ref a := rx
  · refine getmeth_ok I1 ea c1 m1 l (PySem.W.callWith_K (first := [.ref a]) (h₀ := X.base) I.ok.mod.kin m1.kp (thn (ha pos pins s1 σ H1 _ I1 q) fun us s2 ⟨vs, H2, I2, r, q2⟩ => ⟨I2.kIn, ?_⟩) hst hpl)
    exact run_fn (us := .ref a :: us) (vs := .ref a :: vs) F1 hr b1 .nil pass0 I2 (.cons rfl r) q2
  · refine getmeth_ok I1 ea c2 m2 l (PySem.W.callWith_K (first := [.ref a]) (h₀ := X.base) I.ok.mod.kin m2.kp (thn (ha pos pins s1 σ H1 _ I1 q) fun us s2 ⟨vs, H2, I2, r, q2⟩ => ⟨I2.kIn, ?_⟩) hst hpl)
    exact run_fn (us := .ref a :: us) (vs := .ref a :: vs) F2 hr b2 .nil pass0 I2 (.cons rfl r) q2
end
theorem comp_relH {J : It} {xs : List V} {G : Hp → Prop} (hJ : ItOf J xs G) {σ0 : St} {te : TE} {Q : VK} {H1 : Hp} (Rel : V → V → Hp → Prop) (m1 : ∀ x y H H', Rel x y H → Same H H' → Rel x y H') (m2 : ∀ x y H D l l', Rel x y H → H D = some (.lst l) → Rel x y (upd H D (.lst l')))
    (hz : xs.length ≤ sizeLine) (hG : ∀ H', Same H1 H' → G H')
    (he : ∀ x, x ∈ xs → ∀ H2, Same H1 H2 → ∀ R : VK, (∀ y H3, Rel x y H3 → Same H2 H3 → R y H3) → te (σ0.set 0 (some x)) H2 R)
    (hQ : ∀ D H2 ys, H1 D = none → Same H1 H2 → H2 D = some (.lst ys) → ys.length = xs.length → (∀ (i : Nat) x y, xs[i]? = some x → ys[i]? = some y → Rel x y H2) → Q (.ref D) H2) : ∀ D, H1 D = none → CompW J σ0 tYes te Q D H1 := by
  intro D hD
  refine ⟨fun i m ys H => m = xs.length - i ∧ i ≤ xs.length ∧ Same H1 H ∧ H D = some (.lst ys) ∧ ys.length = i ∧ ∀ (j : Nat) x y, xs[j]? = some x → ys[j]? = some y → Rel x y H, ⟨xs.length, by simp, Nat.zero_le _, same_upd hD, upd_same, rfl, fun j x y _ h => by cases h⟩, ?_⟩
  rintro i m ys H ⟨rfl, hi, s, e, el, ep⟩
  refine ⟨e, ?_⟩
  by_cases hlt : i < xs.length
  · refine .inr ⟨hJ.go i H hlt (hG H s), by omega, fun x H3 y => ?_⟩
    obtain ⟨e3, yx⟩ := hJ.yld i H x H3 (hG H s) y hlt
    subst e3
    unfold tYes
    dsimp only
    rw [if_pos rfl]
    refine he x (List.mem_of_getElem? yx) _ s _ fun yy H6 py s6 => ⟨s6 _ _ e, _, (by omega : xs.length - (i + 1) < xs.length - i), rfl, hlt, (s.trans s6).upd hD rfl, upd_same, by rw [List.length_append, List.length_singleton, el], fun j u v hu hv => ?_⟩
    by_cases hj : j < ys.length
    · rw [List.getElem?_append_left hj] at hv
      exact m2 _ _ _ _ _ _ (m1 _ _ _ _ (ep j u v hu hv) s6) (s6 _ _ e)
    · have hj2 : j = i := by
        have := (List.getElem?_eq_some_iff.mp hv).1
        rw [List.length_append, List.length_singleton] at this
        omega
      subst hj2
      rw [yx] at hu
      cases hu
      rw [List.getElem?_append_right (by omega), el, Nat.sub_self] at hv
      have hv : some yy = some v := hv
      cases hv
      exact m2 _ _ _ _ _ _ py (s6 _ _ e)
  · have ei : i = xs.length := by omega
    exact .inl ⟨by rw [ei]; exact hJ.stop H (hG H s), hQ D H ys hD s e (by omega) ep⟩
end L2
set_option Elab.async false
set_option linter.all false
set_option maxRecDepth 100000
set_option maxHeartbeats 4000000
namespace L2
open PySem PySem.Spec PyProof.Rows
theorem keys_miss : typeLookup (.type "list") (Str.ofString "keys") = pure none := by rw [typeLookup_type, builtinLookup_eq_fast]; kernel_rfl
section
variable {prog : Program} {w : World} {A : Around} {E : Value → Shared → Prop} {s : Shared}
theorem list_no_keys {a : Addr} {o : Obj} {xs : Array Value} {k : Nat} {Q : Option Value → Shared → Prop} (hx : s.heap.get? a = some o) (hc : o.cls = .type "list") (hdat : o.data = .seq xs k) (hd : o.dict = none) (hA : A.handled = none)
    (h : ∀ h' tk e, Heap.NewExcOf s.heap h' e "AttributeError" → Q none { s with heap := h', toks := tk }) : wpAny (model prog w) A (getAttr? (.ref a) (Str.ofString "keys")) Q E s := by
  obtain ⟨c, dct, dat, sl⟩ := o
  simp only at hc hdat hd
  subst hc hdat hd
  obtain ⟨hp, g, d, tk, os⟩ := s
  have hT : ∀ tk', (⟨hp, g, d, tk', os⟩ : Shared).TypeIs (.ref a) "list" := fun _ => ⟨_, hx, rfl⟩
  have f1 := sub_AttributeError
  have f3 := F.slot_list_getattribute.lookup
  have f4 := F.slot_list_getattribute.bind (.ref a)
  have f5 := am_list_getattr_none
  unfold getAttr? getAttrBy? getAttrBy
  repeat (any_goals (first | assumption | exact hT _ | ((with_reducible show wpAny _ _ (call (Value.builtin "list.__getattribute__") _ _) _ _ _); refine call_meets F.slot_list_getattribute (hT _) am_entry_list_getattribute (F.args_list_getattribute_2 _ _) (meets_getattribute_miss_list a xs k sl (Str.ofString "keys") _ keys_miss (by decide +kernel) (by decide +kernel)) ⟨hx, hA, fun h' tk' e hx' => ?_⟩) | wp_step))
  obtain ⟨t1, u1, he1⟩ := hx'.there
  show wpAny (model prog w) A (getattributeRaised _ _ _ _ _ _ _) _ _ _; unfold getattributeRaised
  repeat (any_goals (first | assumption | wp_step))
  exact h _ _ _ hx'.of
theorem plain_upd : plainId "dict.update.loop" = true := by decide +kernel
theorem entry_upd : entryFor table "dict.update.loop" = some Builtin.«dict.update.loop» := entryFor_of_tree (by kernel_rfl)
abbrev PE4 := Addr × Addr × List Key × Value
def putH (xs : List (List Key × Addr × Value)) (es : List PE4) : List (List Key × Addr × Value) := es.foldl (fun acc e => storedH acc e.2.2.1 e.2.1 e.2.2.2) xs
theorem raw_dt {h h' : Heap} {d : Addr} {xs : List (List Key × Addr × Value)} (m : h.DictOfH (tupleKind (mixKind prog w)) d xs) (kd : ∀ o, h.get? d = some o → h'.get? d = some o) (kk : ∀ x ∈ xs, (tupleKind (mixKind prog w)).is h' x.1 x.2.1) : h'.DictOfH (tupleKind (mixKind prog w)) d xs :=
  let ⟨o, es, ep, h1, h2, h3, h4, _, h6⟩ := m; ⟨o, es, ep, kd o h1, h2, h3, h4, kk, h6⟩
theorem pairs_loop {h0 : Heap} {d it l : Addr} {es : List PE4} (hh : A.handled = none) (hu : A.units + 4 < cLine) (hl : h0.IsList l (es.map fun e => Value.ref e.1).toArray) (hT : ∀ e ∈ es, h0.IsTuple e.1 #[.ref e.2.1, e.2.2.2])
    (hK : ∀ e ∈ es, ∀ h : Heap, (∀ b o, h0.get? b = some o → h.get? b = some o) → (tupleKind (mixKind prog w)).is h e.2.2.1 e.2.1) (hd0 : h0.get? d = none) (hi0 : h0.get? it = none) (hne : it ≠ d) {R : Result → Shared → Prop} :
    ∀ (n i : Nat) (s : Shared) (xs : List (List Key × Addr × Value)), n = es.length - i → i ≤ es.length → (∀ b o, h0.get? b = some o → s.heap.get? b = some o) → s.heap.IsListIter it l i → s.heap.DictOfH (tupleKind (mixKind prog w)) d xs →
      (∀ x ∈ xs, ∀ h : Heap, (∀ b o, h0.get? b = some o → h.get? b = some o) → (tupleKind (mixKind prog w)).is h x.1 x.2.1) → xs.length + n ≤ sizeLine →
      (∀ h' tk, (∀ b o, b ≠ d → b ≠ it → s.heap.get? b = some o → h'.get? b = some o) → h'.DictOfH (tupleKind (mixKind prog w)) d (putH xs (es.drop i)) → R (.ok (.ret .none)) { s with heap := h', toks := tk }) →
      codeAny (model prog w) A (.builtin "dict.update.loop" ⟨[.ref d, .ref it, rawInt i, .none], []⟩) R s := by
  have nd : ∀ b o, h0.get? b = some o → b ≠ d := fun b o e z => by rw [z, hd0] at e; cases e
  have ni : ∀ b o, h0.get? b = some o → b ≠ it := fun b o e z => by rw [z, hi0] at e; cases e
  intro n
  induction n with
  | zero =>
    intro i s xs hn hi hk ht hm hX hsz k
    have e : i = es.length := by omega
    subst e
    refine codeAny_builtin entry_upd ?_
    rw [Around.under_plainId plain_upd _]
    have hls : s.heap.IsList l (es.map fun e => Value.ref e.1).toArray := hl.at fun o e => hk l o e
    show wpAny _ A.in1 (pyNext (.ref it) >>= _) _ _ s; refine wpAny_bind (wpAny_pyNext_list_end hh ht hls (by simp) fun h' eb => ?_)
    refine wpAny_bind (wpAny_pure (wpAny_pure ?_))
    refine k h' s.toks (fun b o _ n2 e => eb b o n2 e) ?_
    rw [List.drop_length]
    exact raw_dt hm (fun o e => eb d o (Ne.symm hne) e) fun x hx => hX x hx h' fun b o e => eb b o (ni b o e) (hk b o e)
  | succ n ih =>
    intro i s xs hn hi hk ht hm hX hsz k
    have hlt : i < es.length := by omega
    refine codeAny_builtin entry_upd ?_
    rw [Around.under_plainId plain_upd _]
    have hls : s.heap.IsList l (es.map fun e => Value.ref e.1).toArray := hl.at fun o e => hk l o e
    have he := List.getElem_mem hlt
    obtain ⟨oT, eT, cT, nT, dT⟩ := hT _ he
    show wpAny _ A.in1 (pyNext (.ref it) >>= _) _ _ s; refine wpAny_bind (wpAny_pyNext_list_item ht hls (x := .ref es[i].1) (by simp [hlt]) fun h1 ht1 sb => ?_)
    have hk1 : ∀ b o, h0.get? b = some o → h1.get? b = some o := fun b o e => sb.extBut b o (ni b o e) (hk b o e)
    have hm1 := raw_dt (h' := h1) hm (fun o e => sb.extBut d o (Ne.symm hne) e) fun x hx => hX x hx h1 hk1
    have tyT : ({ s with heap := h1 } : Shared).TypeIs (.ref es[i].1) "tuple" := ⟨oT, hk1 _ _ eT, cT⟩
    dsimp only
    refine wpAny_bind (wpAny_holding (wpAny_bind (wpAny_tryCatch ?_)))
    unfold Builtin.Dict.pairItems
    refine wpAny_bind (wpAny_typeOf tyT ?_)
    rw [if_pos (by decide)]
    refine wpAny_bind (wpAny_seqItems (hk1 _ _ eT) dT (wpAny_pure ?_))
    show wpAny _ A.in1 (holding [_, _] (dictSet d (.ref es[i].2.1) es[i].2.2.2)) _ _ _; refine wpAny_holding (wpAny_dictSet_heap (hsz := by omega) (knd := tupleKind (mixKind prog w)) (show A.units + 1 < cLine by omega) (hK _ he h1 hk1) hm1 fun h2 hm2 hs2 => ?_)
    have ei : ((i : Int) + 1) = ((i + 1 : Nat) : Int) := by omega
    rw [ei]
    have hk2 : ∀ b o, h0.get? b = some o → h2.get? b = some o := fun b o e => hs2.extBut b o (nd b o e) (hk1 b o e)
    have ed : es.drop i = es[i] :: es.drop (i + 1) := List.drop_eq_getElem_cons hlt
    have hX2 : ∀ x ∈ storedH xs es[i].2.2.1 es[i].2.1 es[i].2.2.2, ∀ h : Heap, (∀ b o, h0.get? b = some o → h.get? b = some o) → (tupleKind (mixKind prog w)).is h x.1 x.2.1 := by
      intro x hx h hkk
      rcases mem_storedH hx with ⟨y, hy, e1, e2⟩ | ⟨e1, e2⟩
      · rw [e1, e2]; exact hX y hy h hkk
      · rw [e1, e2]; exact hK _ he h hkk
    have lst : (storedH xs es[i].2.2.1 es[i].2.1 es[i].2.2.2).length ≤ xs.length + 1 := by
      unfold storedH
      split
      · rw [List.length_map]; omega
      · rw [List.length_append, List.length_singleton]; exact Nat.le_refl _
    refine wpAny_pure ⟨plainId_quiet plain_upd _, ih (i + 1) _ (storedH xs es[i].2.2.1 es[i].2.1 es[i].2.2.2) (by omega) (by omega) hk2 (ht1.extBut hs2.extBut hne) hm2 hX2 (by omega) fun h' tk kp dd => ?_⟩
    refine k h' tk (fun b o b1 b2 e => kp b o b1 b2 (hs2.extBut b o b1 (sb.extBut b o b2 e))) ?_
    rw [ed]
    exact dd
theorem dict_pairs {l : Addr} {es : List PE4} {Q : Value → Shared → Prop} (hh : A.handled = none) (hu : A.units + 8 < cLine) (hl : s.heap.IsList l (es.map fun e => Value.ref e.1).toArray) (hnd : ∃ o, s.heap.get? l = some o ∧ o.dict = none) (hT : ∀ e ∈ es, s.heap.IsTuple e.1 #[.ref e.2.1, e.2.2.2])
    (hK : ∀ e ∈ es, ∀ h : Heap, (∀ b o, s.heap.get? b = some o → h.get? b = some o) → (tupleKind (mixKind prog w)).is h e.2.2.1 e.2.1) (hsz : es.length ≤ sizeLine)
    (k : ∀ h' tk, (∀ b o, s.heap.get? b = some o → h'.get? b = some o) → h'.DictOfH (tupleKind (mixKind prog w)) s.heap.objs.size (putH [] es) → Q (.ref s.heap.objs.size) { s with heap := h', toks := tk }) : wpAny (model prog w) A (call (.type "dict") [.ref l]) Q E s := by
  refine callType_codes (Q₁ := fun obj s₁ => obj = .ref s.heap.objs.size ∧ s₁ = { s with heap := s.heap.push { cls := .type "dict", data := .dict #[] } }) F.kt_called_dict (F.kt_typeCall_dict_1 _) F.entry_dict_init (kt_code_dict_new _ ⟨rfl, rfl⟩) ?_
  rintro obj s₁ ⟨rfl, rfl⟩
  have gd : (s.heap.push { cls := .type "dict", data := .dict #[] }).get? s.heap.objs.size = some { cls := .type "dict", data := .dict #[] } := Heap.get?_push_size _ rfl
  have tyD : ({ s with heap := s.heap.push { cls := .type "dict", data := .dict #[] } } : Shared).TypeIs (.ref s.heap.objs.size) "dict" := ⟨_, gd, rfl⟩
  have k0 : ∀ b o, s.heap.get? b = some o → (s.heap.push { cls := .type "dict", data := .dict #[] }).get? b = some o := fun b o e => Heap.get?_push_of_some _ e
  obtain ⟨o, ho, hc, n, hd⟩ := hl
  obtain ⟨o', ho', hod⟩ := hnd
  rw [ho] at ho'
  cases ho'
  refine ⟨tyD, F.args_dict_init_2 _ _, ?_⟩
  unfold Builtin.«dict.__init__» Builtin.Dict.selfAndRest
  refine wpAny_bind (wpAny_bind (wpAny_notOrdered_dict tyD (show wpAny _ _ (pure (s.heap.objs.size, [Value.ref l])) _ _ _ from wpAny_pure ?_)))
  show wpAny _ A.in1.in1 (Builtin.Dict.updateFrom "dict.__init__" s.heap.objs.size (.ref l) [] .none) _ _ _; unfold Builtin.Dict.updateFrom
  refine wpAny_bind (wpAny_typeOf (T := "list") ⟨o, k0 _ _ ho, hc⟩ ?_)
  rw [if_pos (by decide)]
  refine wpAny_bind (list_no_keys (k0 _ _ ho) hc hd hod (show A.in1.in1.handled = none from hh) fun h1 tk1 e1 nx => ?_)
  rw [if_pos (show (none : Option Value).isNone = true from rfl)]
  have gd1 := nx.keeps _ _ gd
  have hlt : s.heap.objs.size < h1.objs.size := Heap.lt_size gd1
  have k1 : ∀ b o, s.heap.get? b = some o → h1.get? b = some o := fun b o e => nx.keeps b o (k0 b o e)
  refine wpAny_bind (wpAny_rule (wpAny_bind (wpAny_pyIter_list (s := { s with heap := h1, toks := tk1 }) ⟨o, k1 _ _ ho, hc, n, hd⟩ ?_)))
  have k2 : ∀ b o, s.heap.get? b = some o → (h1.push { cls := .type "list_iterator", data := .fields #[.ref l, .int 0 0] }).get? b = some o := fun b o e => Heap.get?_push_of_some _ (k1 b o e)
  have hi0 : s.heap.get? h1.objs.size = none := Heap.get?_none_of_le (Nat.le_of_lt hlt)
  refine wpAny_pure ⟨plainId_quiet plain_upd _, pairs_loop (A := A.in1) (h0 := s.heap) (es := es) (l := l) hh (show A.units + 1 + 4 < cLine by omega) ⟨o, ho, hc, n, hd⟩ hT hK (Heap.get?_none_of_le (Nat.le_refl _)) hi0 (Nat.ne_of_gt hlt) es.length 0 _ [] (Nat.sub_zero _).symm (Nat.zero_le _) k2 ⟨_, Heap.get?_push_size _ rfl, rfl, rfl⟩ ?_ (fun x hx => nomatch hx) (by rw [List.length_nil]; omega) fun h' tk kp dd => ?_⟩
  · exact ⟨_, #[], 0, Heap.get?_push_of_some _ gd1, ⟨rfl, rfl, rfl⟩, rfl, rfl, (fun x hx => nomatch hx), List.nodup_nil⟩
  · refine ⟨rfl, k h' tk (fun b o e => kp b o (fun z => ?_) (fun z => ?_) (k2 b o e)) (by rw [List.drop_zero] at dd; exact dd)⟩
    · rw [z, Heap.get?_none_of_le (Nat.le_refl _)] at e; cases e
    · rw [z, hi0] at e; cases e
end
section
variable {X : Cx}
def rDictP (K : PySem.W.Frag) : List V → Hp → VK → Prop := fun xs H Q => ∃ l, ∃ ts : List (Addr × Addr × List Key × V), xs = [.ref l] ∧ H l = some (.lst (ts.map fun t => V.ref t.1)) ∧ (∀ t ∈ ts, H t.1 = some (.tup [.ref t.2.1, t.2.2.2]) ∧ H t.2.1 = some (.tup (t.2.2.1.map kV))) ∧
  ∀ d, H d = none → Q (.ref d) (upd H d (.dT (ts.foldl (fun acc t => putK acc t.2.2.1 t.2.2.2) [])))
theorem call_dict_pairs (hc : X.calm = true) (hu : X.A.units + 8 < cLine) : CallR X (.type "dict") (rDictP X.K) := by
  intro pins s σ H xs us Q I r h
  obtain ⟨l, ts, rfl, hl, ht, q⟩ := h
  obtain ⟨u, rfl, ru⟩ := vals1 r
  cases (show u = Value.ref l from ru)
  obtain ⟨hz, its, n, rv, el⟩ := (show ObjOk X.prog X.w H s.heap l (.lst (ts.map fun t => V.ref t.1)) from I.hok l _ hl)
  obtain ⟨es, e1, e2⟩ : ∃ es : List PE4, its = es.map (fun e => Value.ref e.1) ∧ (Paired (fun (t : Addr × Addr × List Key × V) (e : PE4) => t.1 = e.1 ∧ t.2.1 = e.2.1 ∧ t.2.2.1 = e.2.2.1 ∧ RelV t.2.2.2 e.2.2.2 ∧ s.heap.IsTuple e.1 #[.ref e.2.1, e.2.2.2] ∧ H e.2.1 = some (.tup (e.2.2.1.map kV))) ts es) := by
    clear q hl hz el
    induction ts generalizing its with
    | nil => cases rv; exact ⟨[], rfl, .nil⟩
    | cons t ts ih =>
      rw [List.map_cons] at rv
      cases rv with
      | cons r1 r2 =>
        cases r1
        obtain ⟨es, h1, h2⟩ := ih (fun t h => ht t (List.mem_cons_of_mem _ h)) _ r2
        obtain ⟨g1, g2⟩ := ht t List.mem_cons_self
        obtain ⟨_, its1, rv1, it1⟩ := (show ObjOk X.prog X.w H s.heap t.1 (.tup [.ref t.2.1, t.2.2.2]) from I.hok _ _ g1)
        obtain ⟨x, y, rfl, rx, ry⟩ := vals2 rv1
        cases (show x = Value.ref t.2.1 from rx)
        exact ⟨(t.1, t.2.1, t.2.2.1, y) :: es, by rw [h1]; rfl, .cons ⟨rfl, rfl, rfl, ry, it1, g2⟩ h2⟩
  subst e1
  have all : ∀ {ts : List (Addr × Addr × List Key × V)} {es : List PE4}, Paired (fun (t : Addr × Addr × List Key × V) (e : PE4) => t.1 = e.1 ∧ t.2.1 = e.2.1 ∧ t.2.2.1 = e.2.2.1 ∧ RelV t.2.2.2 e.2.2.2 ∧ s.heap.IsTuple e.1 #[.ref e.2.1, e.2.2.2] ∧ H e.2.1 = some (.tup (e.2.2.1.map kV))) ts es → ∀ e ∈ es, s.heap.IsTuple e.1 #[.ref e.2.1, e.2.2.2] ∧ H e.2.1 = some (.tup (e.2.2.1.map kV)) := by
    intro ts es r
    induction r with
    | nil => intro e he; cases he
    | cons h t ih =>
      intro e he
      rcases List.mem_cons.mp he with e' | he
      · rw [e']; exact h.2.2.2.2
      · exact ih e he
  have ha := all e2
  have ln : es.length = ts.length := (Paired.length e2).symm
  rw [List.length_map] at hz
  refine dict_pairs (es := es) (I.ok.hd hc) hu ⟨_, el, rfl, n, rfl⟩ ⟨_, el, rfl⟩ (fun e he => (ha e he).1) (fun e he h' kp => ?_) (by rw [ln]; exact hz) fun h' tk kp dd => ?_
  · obtain ⟨o, its', n', g1, g2, g3, g4⟩ := key_of I.hok (ha e he).2
    exact ⟨o, its', n', kp _ _ g1, g2, g3, g4⟩
  · refine ⟨.ref s.heap.objs.size, _, I.laid (a := s.heap.objs.size) (o := .dT (ts.foldl (fun acc t => putK acc t.2.2.1 t.2.2.2) [])) (t' := tk) kp (Nat.le_refl _) ?_, rfl, q _ (I.hok.fresh (Nat.le_refl _))⟩
    have up : ∀ b o, H b = some o → upd H s.heap.objs.size (.dT (ts.foldl (fun acc t => putK acc t.2.2.1 t.2.2.2) [])) b = some o := fun b o e => by rw [upd_ne (ne_of_none e (I.hok.fresh (Nat.le_refl _)))]; exact e
    have rel : ∀ {ts : List (Addr × Addr × List Key × V)} {es : List PE4}, Paired (fun (t : Addr × Addr × List Key × V) (e : PE4) => t.1 = e.1 ∧ t.2.1 = e.2.1 ∧ t.2.2.1 = e.2.2.1 ∧ RelV t.2.2.2 e.2.2.2 ∧ s.heap.IsTuple e.1 #[.ref e.2.1, e.2.2.2] ∧ H e.2.1 = some (.tup (e.2.2.1.map kV))) ts es → ∀ (kvs : List (List Key × V)) (xs : List (List Key × Addr × Value)), KT H kvs xs → KT H (ts.foldl (fun acc t => putK acc t.2.2.1 t.2.2.2) kvs) (putH xs es) := by
      intro ts es r
      induction r with
      | nil => intro kvs xs h; exact h
      | @cons t e ts es h _ ih =>
        intro kvs xs hk
        obtain ⟨_, _, h3, h4, _, h6⟩ := h
        refine ih _ _ ?_
        show KT H (putK kvs t.2.2.1 t.2.2.2) (storedH xs e.2.2.1 e.2.1 e.2.2.2)
        rw [h3]
        exact hk.put _ h6 h4
    have bnd : ∀ (ts : List (Addr × Addr × List Key × V)) (kvs : List (List Key × V)), (ts.foldl (fun acc t => putK acc t.2.2.1 t.2.2.2) kvs).length ≤ kvs.length + ts.length := by
      intro ts
      induction ts with
      | nil => intro kvs; exact Nat.le_refl _
      | cons t ts ih =>
        intro kvs
        have h1 := ih (putK kvs t.2.2.1 t.2.2.2)
        have h2 := length_putK kvs t.2.2.1 t.2.2.2
        rw [List.foldl_cons, List.length_cons]
        omega
    obtain ⟨o, es', ep, g1, g2, g3, g4, _, g6⟩ := dd
    have b0 := bnd ts []
    rw [List.length_nil] at b0
    exact ⟨by omega, beq_eq_false_iff_ne.mpr (Ne.symm (Nat.ne_of_lt I.big)), _, (rel e2 [] [] .nil).keeps (fun b ys e => up b _ e), o, es', ep, g1, g2, g3, g4, g6⟩
end
end L2
set_option Elab.async false
set_option linter.all false
set_option maxRecDepth 100000
set_option maxHeartbeats 4000000
namespace L2
open PySem PySem.Spec PyProof.Rows
theorem vals_refs {as : List Addr} : ∀ {us : List Value}, Vals (as.map V.ref) us → us = as.map Value.ref := by
  induction as with
  | nil => intro us h; cases h; rfl
  | cons a as ih =>
    intro us h
    rw [List.map_cons] at h
    cases h with
    | cons r1 r2 =>
      cases r1
      rw [List.map_cons, ih r2]
section
variable {X : Cx}
def rNeR (K : PySem.W.Frag) : R2 := fun x y H Q => ∃ p q, ∃ as : List Addr, x = .ref p ∧ y = .ref q ∧ SqL K H p (as.map V.ref) ∧ SqL K H q (as.map V.ref) ∧ Q (.bl false) H
theorem op_neR (hu : X.A.units < cLine) : OpR X (compareOp .NotEq) (rNeR X.K) := by
  intro pins s σ H x y v u Q I rx ry h
  obtain ⟨p, q, as, rfl, rfl, hx, hy, k⟩ := h
  cases rx
  cases ry
  obtain ⟨us, r, pl, _⟩ := I.list hx
  obtain ⟨ws, r', pl', _⟩ := I.list hy
  have e1 := vals_refs r
  have e2 := vals_refs r'
  subst e1 e2
  refine SeqAt.RcNeAt.lists (e := fun _ => true) pl.isList pl'.isList rfl hu (fun j h1 h2 => SeqAt.EqAt.same _) X.prog X.w X.xe _ ⟨.bl false, H, I, ?_, k⟩
  show Value.bool _ = Value.bool _
  simp
end
end L2
set_option Elab.async false
set_option linter.all false
set_option maxRecDepth 100000
set_option maxHeartbeats 4000000
namespace K08
open PySem PySem.Spec PyProof.Rows L2 UM UT
def top (i : Nat) : Stmt := PySem.Challenge.pw_unison_k08_answers_by_hand.main.body.getD i (.Pass ⟨0, 0, 0, 0⟩)
abbrev s_is_ridge : Stmt := top 5
abbrev N_is_ridge : List Str := ["value"]
theorem sc_is_ridge : FnScope N_is_ridge ["value"] (defScope s_is_ridge) := ⟨rfl, rfl, rfl, by decide +kernel, rfl, by decide +kernel, by decide +kernel⟩
abbrev s_check_ridge : Stmt := top 6
abbrev N_check_ridge : List Str := ["value"]
theorem sc_check_ridge : FnScope N_check_ridge ["value"] (defScope s_check_ridge) := ⟨rfl, rfl, rfl, by decide +kernel, rfl, by decide +kernel, by decide +kernel⟩
abbrev s_heights : Stmt := top 7
abbrev N_heights : List Str := ["ridge", "height", "told", "step"]
theorem sc_heights : FnScope N_heights ["ridge"] (defScope s_heights) := ⟨rfl, rfl, rfl, by decide +kernel, rfl, by decide +kernel, by decide +kernel⟩
abbrev s_is_place : Stmt := top 12
abbrev N_is_place : List Str := ["levels", "value"]
theorem sc_is_place : FnScope N_is_place ["levels", "value"] (defScope s_is_place) := ⟨rfl, rfl, rfl, by decide +kernel, rfl, by decide +kernel, by decide +kernel⟩
abbrev s_are_alike : Stmt := top 13
abbrev N_are_alike : List Str := ["levels", "other_levels", "first", "second"]
theorem sc_are_alike : FnScope N_are_alike ["levels", "other_levels", "first", "second"] (defScope s_are_alike) := ⟨rfl, rfl, rfl, by decide +kernel, rfl, by decide +kernel, by decide +kernel⟩
abbrev s_check_places : Stmt := top 14
abbrev N_check_places : List Str := ["levels", "other_levels", "first", "second", "there"]
theorem sc_check_places : FnScope N_check_places ["levels", "other_levels", "first", "second"] (defScope s_check_places) := ⟨rfl, rfl, rfl, by decide +kernel, rfl, by decide +kernel, by decide +kernel⟩
abbrev s_led_to : Stmt := top 15
abbrev N_led_to : List Str := ["first", "second", "move"]
theorem sc_led_to : FnScope N_led_to ["first", "second", "move"] (defScope s_led_to) := ⟨rfl, rfl, rfl, by decide +kernel, rfl, by decide +kernel, by decide +kernel⟩
abbrev s_can_be_done : Stmt := top 16
abbrev N_can_be_done : List Str := ["levels", "other_levels", "first", "second", "move", "pair"]
theorem sc_can_be_done : FnScope N_can_be_done ["levels", "other_levels", "first", "second", "move"] (defScope s_can_be_done) := ⟨rfl, rfl, rfl, by decide +kernel, rfl, by decide +kernel, by decide +kernel⟩
abbrev s_is_move : Stmt := top 17
abbrev N_is_move : List Str := ["value"]
theorem sc_is_move : FnScope N_is_move ["value"] (defScope s_is_move) := ⟨rfl, rfl, rfl, by decide +kernel, rfl, by decide +kernel, by decide +kernel⟩
abbrev s_Way_init : Stmt := inClass (top 20) 0
abbrev N_Way_init : List Str := ["self", "moves"]
theorem sc_Way_init : FnScope N_Way_init ["self", "moves"] (defScope s_Way_init) := ⟨rfl, rfl, rfl, by decide +kernel, rfl, by decide +kernel, by decide +kernel⟩
abbrev s_Way_shows : Stmt := inClass (top 20) 1
abbrev N_Way_shows : List Str := ["self", "one", "other", "first", "second", "levels", "other_levels", "pair", "move"]
theorem sc_Way_shows : FnScope N_Way_shows ["self", "one", "other", "first", "second"] (defScope s_Way_shows) := ⟨rfl, rfl, rfl, by decide +kernel, rfl, by decide +kernel, by decide +kernel⟩
abbrev s_Shut_init : Stmt := inClass (top 21) 0
abbrev N_Shut_init : List Str := ["self", "pairs"]
theorem sc_Shut_init : FnScope N_Shut_init ["self", "pairs"] (defScope s_Shut_init) := ⟨rfl, rfl, rfl, by decide +kernel, rfl, by decide +kernel, by decide +kernel⟩
abbrev s_Shut_shows : Stmt := inClass (top 21) 1
abbrev N_Shut_shows : List Str := ["self", "one", "other", "first", "second", "levels", "other_levels", "known"]
theorem sc_Shut_shows : FnScope N_Shut_shows ["self", "one", "other", "first", "second"] (defScope s_Shut_shows) := ⟨rfl, rfl, rfl, by decide +kernel, rfl, by decide +kernel, by decide +kernel⟩
abbrev cs0_Shut_shows : Scope := { kind := .function, names := [(".0", .local), ("value", .local), ("is_pair", .globalImplicit), ("levels", .free), ("other_levels", .free)], isGenerator := false, isCoroutine := false, more := [] }
theorem c0_Shut_shows : CompOk N_Shut_shows (defScope s_Shut_shows) cs0_Shut_shows "value" ["levels", "other_levels"] [5, 6] := ⟨rfl, by decide +kernel, by decide +kernel, rfl, by decide +kernel, rfl, by decide +kernel, by decide +kernel⟩
abbrev cs1_Shut_shows : Scope := { kind := .function, names := [(".0", .local), ("pair", .local)], isGenerator := false, isCoroutine := false, more := [] }
theorem c1_Shut_shows : CompOk N_Shut_shows (defScope s_Shut_shows) cs1_Shut_shows "pair" [] [] := ⟨rfl, by decide +kernel, by decide +kernel, rfl, by decide +kernel, rfl, by decide +kernel, by decide +kernel⟩
abbrev cs2_Shut_shows : Scope := { kind := .function, names := [(".0", .local), ("pair", .local), ("len", .globalImplicit), ("pairs_outside", .globalImplicit), ("known", .free), ("levels", .free), ("other_levels", .free)], isGenerator := false, isCoroutine := false, more := [] }
theorem c2_Shut_shows : CompOk N_Shut_shows (defScope s_Shut_shows) cs2_Shut_shows "pair" ["known", "levels", "other_levels"] [7, 5, 6] := ⟨rfl, by decide +kernel, by decide +kernel, rfl, by decide +kernel, rfl, by decide +kernel, by decide +kernel⟩
abbrev s_is_pair : Stmt := top 22
abbrev N_is_pair : List Str := ["levels", "other_levels", "value"]
theorem sc_is_pair : FnScope N_is_pair ["levels", "other_levels", "value"] (defScope s_is_pair) := ⟨rfl, rfl, rfl, by decide +kernel, rfl, by decide +kernel, by decide +kernel⟩
abbrev s_pairs_outside : Stmt := top 23
abbrev N_pairs_outside : List Str := ["levels", "other_levels", "pair", "known", "near"]
theorem sc_pairs_outside : FnScope N_pairs_outside ["levels", "other_levels", "pair", "known"] (defScope s_pairs_outside) := ⟨rfl, rfl, rfl, by decide +kernel, rfl, by decide +kernel, by decide +kernel⟩
abbrev cs0_pairs_outside : Scope := { kind := .function, names := [(".0", .local), ("move", .local), ("led_to", .globalImplicit), ("pair", .free)], isGenerator := false, isCoroutine := false, more := [] }
theorem c0_pairs_outside : CompOk N_pairs_outside (defScope s_pairs_outside) cs0_pairs_outside "move" ["pair"] [2] := ⟨rfl, by decide +kernel, by decide +kernel, rfl, by decide +kernel, rfl, by decide +kernel, by decide +kernel⟩
abbrev cs1_pairs_outside : Scope := { kind := .function, names := [(".0", .local), ("there", .local), ("are_alike", .globalImplicit), ("known", .free), ("levels", .free), ("other_levels", .free)], isGenerator := false, isCoroutine := false, more := [] }
theorem c1_pairs_outside : CompOk N_pairs_outside (defScope s_pairs_outside) cs1_pairs_outside "there" ["known", "levels", "other_levels"] [3, 0, 1] := ⟨rfl, by decide +kernel, by decide +kernel, rfl, by decide +kernel, rfl, by decide +kernel, by decide +kernel⟩
abbrev s_explored : Stmt := top 24
abbrev N_explored : List Str := ["levels", "other_levels", "goal", "came_by", "newest"]
theorem sc_explored : FnScope N_explored ["levels", "other_levels", "goal"] (defScope s_explored) := ⟨rfl, rfl, rfl, by decide +kernel, rfl, by decide +kernel, by decide +kernel⟩
abbrev s_explored_next : Stmt := top 25
abbrev N_explored_next : List Str := ["levels", "other_levels", "newest", "came_by", "found", "pair", "move", "there"]
theorem sc_explored_next : FnScope N_explored_next ["levels", "other_levels", "newest", "came_by"] (defScope s_explored_next) := ⟨rfl, rfl, rfl, by decide +kernel, rfl, by decide +kernel, by decide +kernel⟩
abbrev s_moves_to : Stmt := top 26
abbrev N_moves_to : List Str := ["goal", "came_by", "moves", "pair", "move"]
theorem sc_moves_to : FnScope N_moves_to ["goal", "came_by"] (defScope s_moves_to) := ⟨rfl, rfl, rfl, by decide +kernel, rfl, by decide +kernel, by decide +kernel⟩
abbrev s_reached : Stmt := top 27
abbrev N_reached : List Str := ["one", "other", "first", "second", "levels", "other_levels", "came_by"]
theorem sc_reached : FnScope N_reached ["one", "other", "first", "second"] (defScope s_reached) := ⟨rfl, rfl, rfl, by decide +kernel, rfl, by decide +kernel, by decide +kernel⟩
abbrev s_law_heights : Stmt := top 29
abbrev N_law_heights : List Str := ["_law_ridge", "_law_found", "_law_step"]
theorem sc_law_heights : FnScope N_law_heights ["_law_ridge"] (defScope s_law_heights) := ⟨rfl, rfl, rfl, by decide +kernel, rfl, by decide +kernel, by decide +kernel⟩
abbrev s_law_done : Stmt := top 30
abbrev N_law_done : List Str := ["_law_mine", "_law_theirs", "_law_places", "_law_move", "_law_found", "_law_place", "_law_letter", "_law_told", "_law_later"]
theorem sc_law_done : FnScope N_law_done ["_law_mine", "_law_theirs", "_law_places", "_law_move"] (defScope s_law_done) := ⟨rfl, rfl, rfl, by decide +kernel, rfl, by decide +kernel, by decide +kernel⟩
abbrev s_law_walked : Stmt := top 31
abbrev N_law_walked : List Str := ["_law_one", "_law_other", "_law_moves", "_law_mine", "_law_theirs", "_law_places", "_law_move"]
theorem sc_law_walked : FnScope N_law_walked ["_law_one", "_law_other", "_law_moves"] (defScope s_law_walked) := ⟨rfl, rfl, rfl, by decide +kernel, rfl, by decide +kernel, by decide +kernel⟩
abbrev s_law_says : Stmt := top 32
abbrev N_law_says : List Str := ["_law_said", "_law_due"]
theorem sc_law_says : FnScope N_law_says ["_law_said", "_law_due"] (defScope s_law_says) := ⟨rfl, rfl, rfl, by decide +kernel, rfl, by decide +kernel, by decide +kernel⟩
abbrev s_law_shut : Stmt := top 33
abbrev N_law_shut : List Str := ["_law_mine", "_law_theirs", "_law_places", "_law_pairs", "_law_within", "_law_pair", "_law_move", "_law_behind"]
theorem sc_law_shut : FnScope N_law_shut ["_law_mine", "_law_theirs", "_law_places", "_law_pairs"] (defScope s_law_shut) := ⟨rfl, rfl, rfl, by decide +kernel, rfl, by decide +kernel, by decide +kernel⟩
abbrev s_law_near : Stmt := top 34
abbrev N_law_near : List Str := ["_law_one", "_law_other", "_law_places", "_law_first", "_law_second"]
theorem sc_law_near : FnScope N_law_near ["_law_one", "_law_other", "_law_places"] (defScope s_law_near) := ⟨rfl, rfl, rfl, by decide +kernel, rfl, by decide +kernel, by decide +kernel⟩
abbrev s_law_way_right : Stmt := top 35
abbrev N_law_way_right : List Str := ["_law_one", "_law_other", "_law_places", "_law_moves", "_law_handed", "_law_answer", "_law_come", "_law_first", "_law_second"]
theorem sc_law_way_right : FnScope N_law_way_right ["_law_one", "_law_other", "_law_places", "_law_moves"] (defScope s_law_way_right) := ⟨rfl, rfl, rfl, by decide +kernel, rfl, by decide +kernel, by decide +kernel⟩
abbrev s_law_shut_right : Stmt := top 36
abbrev N_law_shut_right : List Str := ["_law_one", "_law_other", "_law_places", "_law_pairs", "_law_handed", "_law_answer", "_law_mine", "_law_theirs", "_law_first", "_law_second"]
theorem sc_law_shut_right : FnScope N_law_shut_right ["_law_one", "_law_other", "_law_places", "_law_pairs"] (defScope s_law_shut_right) := ⟨rfl, rfl, rfl, by decide +kernel, rfl, by decide +kernel, by decide +kernel⟩
abbrev s_law : Stmt := top 37
abbrev N_law : List Str := ["_law_script", "_law_middle", "_law_one", "_law_other", "_law_mixed", "_law_moves", "_law_pairs", "_law_all_tried", "_law_all_pairs", "_law_places", "_law_mine", "_law_theirs", "_law_far", "_law_told", "_law_at"]
theorem sc_law : FnScope N_law ["_law_script"] (defScope s_law) := ⟨rfl, rfl, rfl, by decide +kernel, rfl, by decide +kernel, by decide +kernel⟩
abbrev cs0_law : Scope := { kind := .function, names := [(".0", .local), ("_law_cell", .local)], isGenerator := false, isCoroutine := false, more := [] }
theorem c0_law : CompOk N_law (defScope s_law) cs0_law "_law_cell" [] [] := ⟨rfl, by decide +kernel, by decide +kernel, rfl, by decide +kernel, rfl, by decide +kernel, by decide +kernel⟩
abbrev cs1_law : Scope := { kind := .function, names := [(".0", .local), ("_law_cell", .local)], isGenerator := false, isCoroutine := false, more := [] }
theorem c1_law : CompOk N_law (defScope s_law) cs1_law "_law_cell" [] [] := ⟨rfl, by decide +kernel, by decide +kernel, rfl, by decide +kernel, rfl, by decide +kernel, by decide +kernel⟩
abbrev cs2_law : Scope := { kind := .function, names := [(".0", .local), ("_law_cell", .local)], isGenerator := false, isCoroutine := false, more := [] }
theorem c2_law : CompOk N_law (defScope s_law) cs2_law "_law_cell" [] [] := ⟨rfl, by decide +kernel, by decide +kernel, rfl, by decide +kernel, rfl, by decide +kernel, by decide +kernel⟩
abbrev cs3_law : Scope := { kind := .function, names := [(".0", .local), ("_law_cell", .local), ("len", .globalImplicit), ("_law_one", .free), ("_law_other", .free)], isGenerator := false, isCoroutine := false, more := [] }
theorem c3_law : CompOk N_law (defScope s_law) cs3_law "_law_cell" ["_law_one", "_law_other"] [2, 3] := ⟨rfl, by decide +kernel, by decide +kernel, rfl, by decide +kernel, rfl, by decide +kernel, by decide +kernel⟩
abbrev cs4_law : Scope := { kind := .function, names := [(".0", .local), ("_law_some", .local), ("_law_way_right", .globalImplicit), ("_law_one", .free), ("_law_other", .free), ("_law_places", .free)], isGenerator := false, isCoroutine := false, more := [] }
theorem c4_law : CompOk N_law (defScope s_law) cs4_law "_law_some" ["_law_one", "_law_other", "_law_places"] [2, 3, 9] := ⟨rfl, by decide +kernel, by decide +kernel, rfl, by decide +kernel, rfl, by decide +kernel, by decide +kernel⟩
abbrev cs5_law : Scope := { kind := .function, names := [(".0", .local), ("_law_some", .local), ("_law_shut_right", .globalImplicit), ("_law_one", .free), ("_law_other", .free), ("_law_places", .free)], isGenerator := false, isCoroutine := false, more := [] }
theorem c5_law : CompOk N_law (defScope s_law) cs5_law "_law_some" ["_law_one", "_law_other", "_law_places"] [2, 3, 9] := ⟨rfl, by decide +kernel, by decide +kernel, rfl, by decide +kernel, rfl, by decide +kernel, by decide +kernel⟩
structure Adr where
  a_is_ridge : Addr
  d_is_ridge : FuncData
  a_check_ridge : Addr
  d_check_ridge : FuncData
  a_heights : Addr
  d_heights : FuncData
  a_is_place : Addr
  d_is_place : FuncData
  a_are_alike : Addr
  d_are_alike : FuncData
  a_check_places : Addr
  d_check_places : FuncData
  a_led_to : Addr
  d_led_to : FuncData
  a_can_be_done : Addr
  d_can_be_done : FuncData
  a_is_move : Addr
  d_is_move : FuncData
  a_is_pair : Addr
  d_is_pair : FuncData
  a_pairs_outside : Addr
  d_pairs_outside : FuncData
  a_explored : Addr
  d_explored : FuncData
  a_explored_next : Addr
  d_explored_next : FuncData
  a_moves_to : Addr
  d_moves_to : FuncData
  a_reached : Addr
  d_reached : FuncData
  a_law_heights : Addr
  d_law_heights : FuncData
  a_law_done : Addr
  d_law_done : FuncData
  a_law_walked : Addr
  d_law_walked : FuncData
  a_law_says : Addr
  d_law_says : FuncData
  a_law_shut : Addr
  d_law_shut : FuncData
  a_law_near : Addr
  d_law_near : FuncData
  a_law_way_right : Addr
  d_law_way_right : FuncData
  a_law_shut_right : Addr
  d_law_shut_right : FuncData
  a_law : Addr
  d_law : FuncData
  g_MOVES : Addr
  g_TAKEN_BACK : Addr
  g_STEPS : Addr
  a_Way_init : Addr
  d_Way_init : FuncData
  a_Way_shows : Addr
  d_Way_shows : FuncData
  a_Shut_init : Addr
  d_Shut_init : FuncData
  a_Shut_shows : Addr
  d_Shut_shows : FuncData
  c_Answer : Addr
  c_Way : Addr
  c_Shut : Addr
  c_BadRidge : Addr
  c_BadPlaces : Addr
structure Txt (P : Program) (w : World) (K : PySem.W.Frag) (mg : Str → Option Value) (A : Adr) : Prop where
  b_all : mg "all" = none
  b_bool : mg "bool" = none
  b_dict : mg "dict" = none
  b_int : mg "int" = none
  b_isinstance : mg "isinstance" = none
  b_len : mg "len" = none
  b_list : mg "list" = none
  b_min : mg "min" = none
  b_range : mg "range" = none
  b_str : mg "str" = none
  b_sum : mg "sum" = none
  b_tuple : mg "tuple" = none
  m_is_ridge : mg "is_ridge" = some (.ref A.a_is_ridge)
  k_is_ridge : PySem.W.keepIn K (.ref A.a_is_ridge) = true
  F_is_ridge : Fun K "is_ridge" "is_ridge" s_is_ridge A.a_is_ridge A.d_is_ridge
  B_is_ridge : Binds K A.d_is_ridge ["value"] []
  m_check_ridge : mg "check_ridge" = some (.ref A.a_check_ridge)
  k_check_ridge : PySem.W.keepIn K (.ref A.a_check_ridge) = true
  F_check_ridge : Fun K "check_ridge" "check_ridge" s_check_ridge A.a_check_ridge A.d_check_ridge
  B_check_ridge : Binds K A.d_check_ridge ["value"] []
  m_heights : mg "heights" = some (.ref A.a_heights)
  k_heights : PySem.W.keepIn K (.ref A.a_heights) = true
  F_heights : Fun K "heights" "heights" s_heights A.a_heights A.d_heights
  B_heights : Binds K A.d_heights ["ridge"] []
  m_is_place : mg "is_place" = some (.ref A.a_is_place)
  k_is_place : PySem.W.keepIn K (.ref A.a_is_place) = true
  F_is_place : Fun K "is_place" "is_place" s_is_place A.a_is_place A.d_is_place
  B_is_place : Binds K A.d_is_place ["levels", "value"] []
  m_are_alike : mg "are_alike" = some (.ref A.a_are_alike)
  k_are_alike : PySem.W.keepIn K (.ref A.a_are_alike) = true
  F_are_alike : Fun K "are_alike" "are_alike" s_are_alike A.a_are_alike A.d_are_alike
  B_are_alike : Binds K A.d_are_alike ["levels", "other_levels", "first", "second"] []
  m_check_places : mg "check_places" = some (.ref A.a_check_places)
  k_check_places : PySem.W.keepIn K (.ref A.a_check_places) = true
  F_check_places : Fun K "check_places" "check_places" s_check_places A.a_check_places A.d_check_places
  B_check_places : Binds K A.d_check_places ["levels", "other_levels", "first", "second"] []
  m_led_to : mg "led_to" = some (.ref A.a_led_to)
  k_led_to : PySem.W.keepIn K (.ref A.a_led_to) = true
  F_led_to : Fun K "led_to" "led_to" s_led_to A.a_led_to A.d_led_to
  B_led_to : Binds K A.d_led_to ["first", "second", "move"] []
  m_can_be_done : mg "can_be_done" = some (.ref A.a_can_be_done)
  k_can_be_done : PySem.W.keepIn K (.ref A.a_can_be_done) = true
  F_can_be_done : Fun K "can_be_done" "can_be_done" s_can_be_done A.a_can_be_done A.d_can_be_done
  B_can_be_done : Binds K A.d_can_be_done ["levels", "other_levels", "first", "second", "move"] []
  m_is_move : mg "is_move" = some (.ref A.a_is_move)
  k_is_move : PySem.W.keepIn K (.ref A.a_is_move) = true
  F_is_move : Fun K "is_move" "is_move" s_is_move A.a_is_move A.d_is_move
  B_is_move : Binds K A.d_is_move ["value"] []
  m_is_pair : mg "is_pair" = some (.ref A.a_is_pair)
  k_is_pair : PySem.W.keepIn K (.ref A.a_is_pair) = true
  F_is_pair : Fun K "is_pair" "is_pair" s_is_pair A.a_is_pair A.d_is_pair
  B_is_pair : Binds K A.d_is_pair ["levels", "other_levels", "value"] []
  m_pairs_outside : mg "pairs_outside" = some (.ref A.a_pairs_outside)
  k_pairs_outside : PySem.W.keepIn K (.ref A.a_pairs_outside) = true
  F_pairs_outside : Fun K "pairs_outside" "pairs_outside" s_pairs_outside A.a_pairs_outside A.d_pairs_outside
  B_pairs_outside : Binds K A.d_pairs_outside ["levels", "other_levels", "pair", "known"] []
  m_explored : mg "explored" = some (.ref A.a_explored)
  k_explored : PySem.W.keepIn K (.ref A.a_explored) = true
  F_explored : Fun K "explored" "explored" s_explored A.a_explored A.d_explored
  B_explored : Binds K A.d_explored ["levels", "other_levels", "goal"] []
  m_explored_next : mg "explored_next" = some (.ref A.a_explored_next)
  k_explored_next : PySem.W.keepIn K (.ref A.a_explored_next) = true
  F_explored_next : Fun K "explored_next" "explored_next" s_explored_next A.a_explored_next A.d_explored_next
  B_explored_next : Binds K A.d_explored_next ["levels", "other_levels", "newest", "came_by"] []
  m_moves_to : mg "moves_to" = some (.ref A.a_moves_to)
  k_moves_to : PySem.W.keepIn K (.ref A.a_moves_to) = true
  F_moves_to : Fun K "moves_to" "moves_to" s_moves_to A.a_moves_to A.d_moves_to
  B_moves_to : Binds K A.d_moves_to ["goal", "came_by"] []
  m_reached : mg "reached" = some (.ref A.a_reached)
  k_reached : PySem.W.keepIn K (.ref A.a_reached) = true
  F_reached : Fun K "reached" "reached" s_reached A.a_reached A.d_reached
  B_reached : Binds K A.d_reached ["one", "other", "first", "second"] []
  m_law_heights : mg "_law_heights" = some (.ref A.a_law_heights)
  k_law_heights : PySem.W.keepIn K (.ref A.a_law_heights) = true
  F_law_heights : Fun K "_law_heights" "_law_heights" s_law_heights A.a_law_heights A.d_law_heights
  B_law_heights : Binds K A.d_law_heights ["_law_ridge"] []
  m_law_done : mg "_law_done" = some (.ref A.a_law_done)
  k_law_done : PySem.W.keepIn K (.ref A.a_law_done) = true
  F_law_done : Fun K "_law_done" "_law_done" s_law_done A.a_law_done A.d_law_done
  B_law_done : Binds K A.d_law_done ["_law_mine", "_law_theirs", "_law_places", "_law_move"] []
  m_law_walked : mg "_law_walked" = some (.ref A.a_law_walked)
  k_law_walked : PySem.W.keepIn K (.ref A.a_law_walked) = true
  F_law_walked : Fun K "_law_walked" "_law_walked" s_law_walked A.a_law_walked A.d_law_walked
  B_law_walked : Binds K A.d_law_walked ["_law_one", "_law_other", "_law_moves"] []
  m_law_says : mg "_law_says" = some (.ref A.a_law_says)
  k_law_says : PySem.W.keepIn K (.ref A.a_law_says) = true
  F_law_says : Fun K "_law_says" "_law_says" s_law_says A.a_law_says A.d_law_says
  B_law_says : Binds K A.d_law_says ["_law_said", "_law_due"] []
  m_law_shut : mg "_law_shut" = some (.ref A.a_law_shut)
  k_law_shut : PySem.W.keepIn K (.ref A.a_law_shut) = true
  F_law_shut : Fun K "_law_shut" "_law_shut" s_law_shut A.a_law_shut A.d_law_shut
  B_law_shut : Binds K A.d_law_shut ["_law_mine", "_law_theirs", "_law_places", "_law_pairs"] []
  m_law_near : mg "_law_near" = some (.ref A.a_law_near)
  k_law_near : PySem.W.keepIn K (.ref A.a_law_near) = true
  F_law_near : Fun K "_law_near" "_law_near" s_law_near A.a_law_near A.d_law_near
  B_law_near : Binds K A.d_law_near ["_law_one", "_law_other", "_law_places"] []
  m_law_way_right : mg "_law_way_right" = some (.ref A.a_law_way_right)
  k_law_way_right : PySem.W.keepIn K (.ref A.a_law_way_right) = true
  F_law_way_right : Fun K "_law_way_right" "_law_way_right" s_law_way_right A.a_law_way_right A.d_law_way_right
  B_law_way_right : Binds K A.d_law_way_right ["_law_one", "_law_other", "_law_places", "_law_moves"] []
  m_law_shut_right : mg "_law_shut_right" = some (.ref A.a_law_shut_right)
  k_law_shut_right : PySem.W.keepIn K (.ref A.a_law_shut_right) = true
  F_law_shut_right : Fun K "_law_shut_right" "_law_shut_right" s_law_shut_right A.a_law_shut_right A.d_law_shut_right
  B_law_shut_right : Binds K A.d_law_shut_right ["_law_one", "_law_other", "_law_places", "_law_pairs"] []
  m_law : mg "law" = some (.ref A.a_law)
  k_law : PySem.W.keepIn K (.ref A.a_law) = true
  F_law : Fun K "law" "law" s_law A.a_law A.d_law
  B_law : Binds K A.d_law ["_law_script"] []
  m_MOVES : mg "MOVES" = some (.ref A.g_MOVES)
  t_MOVES : ∀ H, SqT K H A.g_MOVES [.str "ff", .str "fb", .str "bf", .str "bb"]
  m_TAKEN_BACK : mg "TAKEN_BACK" = some (.ref A.g_TAKEN_BACK)
  t_TAKEN_BACK : GTab P w K A.g_TAKEN_BACK [("ff", .str "bb"), ("fb", .str "bf"), ("bf", .str "fb"), ("bb", .str "ff")]
  m_STEPS : mg "STEPS" = some (.ref A.g_STEPS)
  t_STEPS : GTab P w K A.g_STEPS [("f", .int (1)), ("b", .int (-1))]
  m_BadRidge : mg "BadRidge" = some (.ref A.c_BadRidge)
  m_BadPlaces : mg "BadPlaces" = some (.ref A.c_BadPlaces)
  x_BadRidge : PySem.W.excIn K A.c_BadRidge bmV "ValueError.__new__" = true
  E_BadRidge : ExCls K A.c_BadRidge
  x_BadPlaces : PySem.W.excIn K A.c_BadPlaces bmV "ValueError.__new__" = true
  E_BadPlaces : ExCls K A.c_BadPlaces
  m_Answer : mg "Answer" = some (.ref A.c_Answer)
  m_Way : mg "Way" = some (.ref A.c_Way)
  cl_Way : Cls K A.c_Way
  M_Way : Mk K A.c_Way A.a_Way_init
  n_Way_moves : NoAttr K A.c_Way "moves"
  j_Way_Way : PySem.W.kitOne K (.ref A.c_Way) (.ref A.c_Way) = some true
  y_Way : InsTy K A.c_Way
  m_Shut : mg "Shut" = some (.ref A.c_Shut)
  cl_Shut : Cls K A.c_Shut
  M_Shut : Mk K A.c_Shut A.a_Shut_init
  n_Shut_pairs : NoAttr K A.c_Shut "pairs"
  j_Shut_Way : PySem.W.kitOne K (.ref A.c_Shut) (.ref A.c_Way) = some false
  y_Shut : InsTy K A.c_Shut
  F_Way_init : Fun K "__init__" "Way.__init__" s_Way_init A.a_Way_init A.d_Way_init
  B_Way_init : Binds K A.d_Way_init ["self", "moves"] []
  me_Way_shows : Meth K A.c_Way "shows" A.a_Way_shows
  F_Way_shows : Fun K "shows" "Way.shows" s_Way_shows A.a_Way_shows A.d_Way_shows
  B_Way_shows : Binds K A.d_Way_shows ["self", "one", "other", "first", "second"] []
  F_Shut_init : Fun K "__init__" "Shut.__init__" s_Shut_init A.a_Shut_init A.d_Shut_init
  B_Shut_init : Binds K A.d_Shut_init ["self", "pairs"] []
  me_Shut_shows : Meth K A.c_Shut "shows" A.a_Shut_shows
  F_Shut_shows : Fun K "shows" "Shut.shows" s_Shut_shows A.a_Shut_shows A.d_Shut_shows
  B_Shut_shows : Binds K A.d_Shut_shows ["self", "one", "other", "first", "second"] []
theorem txt_mk {P : Program} {w : World} {K : PySem.W.Frag} {h : Heap} {mg : Str → Option Value} (X : K.In h) (G : h.Ns mainGlobals mg)
    {f0 : Addr} {od0 an0 : Option Addr} {sl0 : Array (Option Value)} {oc0 kV0 dc0 pm0 cd0 ct0 : Value}
    (a0 : PySem.W.nsIn K mainGlobals "is_ridge" = some (some (.ref f0))) (l0 : K.lookup f0 = some ⟨oc0, od0, .func (PySem.W.fnOf "is_ridge" "is_ridge" (defArgs s_is_ridge) (defBody s_is_ridge) (defScope s_is_ridge) .none kV0 dc0 pm0 an0 cd0 ct0), sl0⟩) (c0 : PySem.W.codeIn K cd0 "is_ridge" = true) (k0 : PySem.W.keepIn K (.ref f0) = true)
    {f1 : Addr} {od1 an1 : Option Addr} {sl1 : Array (Option Value)} {oc1 kV1 dc1 pm1 cd1 ct1 : Value}
    (a1 : PySem.W.nsIn K mainGlobals "check_ridge" = some (some (.ref f1))) (l1 : K.lookup f1 = some ⟨oc1, od1, .func (PySem.W.fnOf "check_ridge" "check_ridge" (defArgs s_check_ridge) (defBody s_check_ridge) (defScope s_check_ridge) .none kV1 dc1 pm1 an1 cd1 ct1), sl1⟩) (c1 : PySem.W.codeIn K cd1 "check_ridge" = true) (k1 : PySem.W.keepIn K (.ref f1) = true)
    {f2 : Addr} {od2 an2 : Option Addr} {sl2 : Array (Option Value)} {oc2 kV2 dc2 pm2 cd2 ct2 : Value}
    (a2 : PySem.W.nsIn K mainGlobals "heights" = some (some (.ref f2))) (l2 : K.lookup f2 = some ⟨oc2, od2, .func (PySem.W.fnOf "heights" "heights" (defArgs s_heights) (defBody s_heights) (defScope s_heights) .none kV2 dc2 pm2 an2 cd2 ct2), sl2⟩) (c2 : PySem.W.codeIn K cd2 "heights" = true) (k2 : PySem.W.keepIn K (.ref f2) = true)
    {f3 : Addr} {od3 an3 : Option Addr} {sl3 : Array (Option Value)} {oc3 kV3 dc3 pm3 cd3 ct3 : Value}
    (a3 : PySem.W.nsIn K mainGlobals "is_place" = some (some (.ref f3))) (l3 : K.lookup f3 = some ⟨oc3, od3, .func (PySem.W.fnOf "is_place" "is_place" (defArgs s_is_place) (defBody s_is_place) (defScope s_is_place) .none kV3 dc3 pm3 an3 cd3 ct3), sl3⟩) (c3 : PySem.W.codeIn K cd3 "is_place" = true) (k3 : PySem.W.keepIn K (.ref f3) = true)
    {f4 : Addr} {od4 an4 : Option Addr} {sl4 : Array (Option Value)} {oc4 kV4 dc4 pm4 cd4 ct4 : Value}
    (a4 : PySem.W.nsIn K mainGlobals "are_alike" = some (some (.ref f4))) (l4 : K.lookup f4 = some ⟨oc4, od4, .func (PySem.W.fnOf "are_alike" "are_alike" (defArgs s_are_alike) (defBody s_are_alike) (defScope s_are_alike) .none kV4 dc4 pm4 an4 cd4 ct4), sl4⟩) (c4 : PySem.W.codeIn K cd4 "are_alike" = true) (k4 : PySem.W.keepIn K (.ref f4) = true)
    {f5 : Addr} {od5 an5 : Option Addr} {sl5 : Array (Option Value)} {oc5 kV5 dc5 pm5 cd5 ct5 : Value}
    (a5 : PySem.W.nsIn K mainGlobals "check_places" = some (some (.ref f5))) (l5 : K.lookup f5 = some ⟨oc5, od5, .func (PySem.W.fnOf "check_places" "check_places" (defArgs s_check_places) (defBody s_check_places) (defScope s_check_places) .none kV5 dc5 pm5 an5 cd5 ct5), sl5⟩) (c5 : PySem.W.codeIn K cd5 "check_places" = true) (k5 : PySem.W.keepIn K (.ref f5) = true)
    {f6 : Addr} {od6 an6 : Option Addr} {sl6 : Array (Option Value)} {oc6 kV6 dc6 pm6 cd6 ct6 : Value}
    (a6 : PySem.W.nsIn K mainGlobals "led_to" = some (some (.ref f6))) (l6 : K.lookup f6 = some ⟨oc6, od6, .func (PySem.W.fnOf "led_to" "led_to" (defArgs s_led_to) (defBody s_led_to) (defScope s_led_to) .none kV6 dc6 pm6 an6 cd6 ct6), sl6⟩) (c6 : PySem.W.codeIn K cd6 "led_to" = true) (k6 : PySem.W.keepIn K (.ref f6) = true)
    {f7 : Addr} {od7 an7 : Option Addr} {sl7 : Array (Option Value)} {oc7 kV7 dc7 pm7 cd7 ct7 : Value}
    (a7 : PySem.W.nsIn K mainGlobals "can_be_done" = some (some (.ref f7))) (l7 : K.lookup f7 = some ⟨oc7, od7, .func (PySem.W.fnOf "can_be_done" "can_be_done" (defArgs s_can_be_done) (defBody s_can_be_done) (defScope s_can_be_done) .none kV7 dc7 pm7 an7 cd7 ct7), sl7⟩) (c7 : PySem.W.codeIn K cd7 "can_be_done" = true) (k7 : PySem.W.keepIn K (.ref f7) = true)
    {f8 : Addr} {od8 an8 : Option Addr} {sl8 : Array (Option Value)} {oc8 kV8 dc8 pm8 cd8 ct8 : Value}
    (a8 : PySem.W.nsIn K mainGlobals "is_move" = some (some (.ref f8))) (l8 : K.lookup f8 = some ⟨oc8, od8, .func (PySem.W.fnOf "is_move" "is_move" (defArgs s_is_move) (defBody s_is_move) (defScope s_is_move) .none kV8 dc8 pm8 an8 cd8 ct8), sl8⟩) (c8 : PySem.W.codeIn K cd8 "is_move" = true) (k8 : PySem.W.keepIn K (.ref f8) = true)
    {f9 : Addr} {od9 an9 : Option Addr} {sl9 : Array (Option Value)} {oc9 kV9 dc9 pm9 cd9 ct9 : Value}
    (a9 : PySem.W.nsIn K mainGlobals "is_pair" = some (some (.ref f9))) (l9 : K.lookup f9 = some ⟨oc9, od9, .func (PySem.W.fnOf "is_pair" "is_pair" (defArgs s_is_pair) (defBody s_is_pair) (defScope s_is_pair) .none kV9 dc9 pm9 an9 cd9 ct9), sl9⟩) (c9 : PySem.W.codeIn K cd9 "is_pair" = true) (k9 : PySem.W.keepIn K (.ref f9) = true)
    {f10 : Addr} {od10 an10 : Option Addr} {sl10 : Array (Option Value)} {oc10 kV10 dc10 pm10 cd10 ct10 : Value}
    (a10 : PySem.W.nsIn K mainGlobals "pairs_outside" = some (some (.ref f10))) (l10 : K.lookup f10 = some ⟨oc10, od10, .func (PySem.W.fnOf "pairs_outside" "pairs_outside" (defArgs s_pairs_outside) (defBody s_pairs_outside) (defScope s_pairs_outside) .none kV10 dc10 pm10 an10 cd10 ct10), sl10⟩) (c10 : PySem.W.codeIn K cd10 "pairs_outside" = true) (k10 : PySem.W.keepIn K (.ref f10) = true)
    {f11 : Addr} {od11 an11 : Option Addr} {sl11 : Array (Option Value)} {oc11 kV11 dc11 pm11 cd11 ct11 : Value}
    (a11 : PySem.W.nsIn K mainGlobals "explored" = some (some (.ref f11))) (l11 : K.lookup f11 = some ⟨oc11, od11, .func (PySem.W.fnOf "explored" "explored" (defArgs s_explored) (defBody s_explored) (defScope s_explored) .none kV11 dc11 pm11 an11 cd11 ct11), sl11⟩) (c11 : PySem.W.codeIn K cd11 "explored" = true) (k11 : PySem.W.keepIn K (.ref f11) = true)
    {f12 : Addr} {od12 an12 : Option Addr} {sl12 : Array (Option Value)} {oc12 kV12 dc12 pm12 cd12 ct12 : Value}
    (a12 : PySem.W.nsIn K mainGlobals "explored_next" = some (some (.ref f12))) (l12 : K.lookup f12 = some ⟨oc12, od12, .func (PySem.W.fnOf "explored_next" "explored_next" (defArgs s_explored_next) (defBody s_explored_next) (defScope s_explored_next) .none kV12 dc12 pm12 an12 cd12 ct12), sl12⟩) (c12 : PySem.W.codeIn K cd12 "explored_next" = true) (k12 : PySem.W.keepIn K (.ref f12) = true)
    {f13 : Addr} {od13 an13 : Option Addr} {sl13 : Array (Option Value)} {oc13 kV13 dc13 pm13 cd13 ct13 : Value}
    (a13 : PySem.W.nsIn K mainGlobals "moves_to" = some (some (.ref f13))) (l13 : K.lookup f13 = some ⟨oc13, od13, .func (PySem.W.fnOf "moves_to" "moves_to" (defArgs s_moves_to) (defBody s_moves_to) (defScope s_moves_to) .none kV13 dc13 pm13 an13 cd13 ct13), sl13⟩) (c13 : PySem.W.codeIn K cd13 "moves_to" = true) (k13 : PySem.W.keepIn K (.ref f13) = true)
    {f14 : Addr} {od14 an14 : Option Addr} {sl14 : Array (Option Value)} {oc14 kV14 dc14 pm14 cd14 ct14 : Value}
    (a14 : PySem.W.nsIn K mainGlobals "reached" = some (some (.ref f14))) (l14 : K.lookup f14 = some ⟨oc14, od14, .func (PySem.W.fnOf "reached" "reached" (defArgs s_reached) (defBody s_reached) (defScope s_reached) .none kV14 dc14 pm14 an14 cd14 ct14), sl14⟩) (c14 : PySem.W.codeIn K cd14 "reached" = true) (k14 : PySem.W.keepIn K (.ref f14) = true)
    {f15 : Addr} {od15 an15 : Option Addr} {sl15 : Array (Option Value)} {oc15 kV15 dc15 pm15 cd15 ct15 : Value}
    (a15 : PySem.W.nsIn K mainGlobals "_law_heights" = some (some (.ref f15))) (l15 : K.lookup f15 = some ⟨oc15, od15, .func (PySem.W.fnOf "_law_heights" "_law_heights" (defArgs s_law_heights) (defBody s_law_heights) (defScope s_law_heights) .none kV15 dc15 pm15 an15 cd15 ct15), sl15⟩) (c15 : PySem.W.codeIn K cd15 "_law_heights" = true) (k15 : PySem.W.keepIn K (.ref f15) = true)
    {f16 : Addr} {od16 an16 : Option Addr} {sl16 : Array (Option Value)} {oc16 kV16 dc16 pm16 cd16 ct16 : Value}
    (a16 : PySem.W.nsIn K mainGlobals "_law_done" = some (some (.ref f16))) (l16 : K.lookup f16 = some ⟨oc16, od16, .func (PySem.W.fnOf "_law_done" "_law_done" (defArgs s_law_done) (defBody s_law_done) (defScope s_law_done) .none kV16 dc16 pm16 an16 cd16 ct16), sl16⟩) (c16 : PySem.W.codeIn K cd16 "_law_done" = true) (k16 : PySem.W.keepIn K (.ref f16) = true)
    {f17 : Addr} {od17 an17 : Option Addr} {sl17 : Array (Option Value)} {oc17 kV17 dc17 pm17 cd17 ct17 : Value}
    (a17 : PySem.W.nsIn K mainGlobals "_law_walked" = some (some (.ref f17))) (l17 : K.lookup f17 = some ⟨oc17, od17, .func (PySem.W.fnOf "_law_walked" "_law_walked" (defArgs s_law_walked) (defBody s_law_walked) (defScope s_law_walked) .none kV17 dc17 pm17 an17 cd17 ct17), sl17⟩) (c17 : PySem.W.codeIn K cd17 "_law_walked" = true) (k17 : PySem.W.keepIn K (.ref f17) = true)
    {f18 : Addr} {od18 an18 : Option Addr} {sl18 : Array (Option Value)} {oc18 kV18 dc18 pm18 cd18 ct18 : Value}
    (a18 : PySem.W.nsIn K mainGlobals "_law_says" = some (some (.ref f18))) (l18 : K.lookup f18 = some ⟨oc18, od18, .func (PySem.W.fnOf "_law_says" "_law_says" (defArgs s_law_says) (defBody s_law_says) (defScope s_law_says) .none kV18 dc18 pm18 an18 cd18 ct18), sl18⟩) (c18 : PySem.W.codeIn K cd18 "_law_says" = true) (k18 : PySem.W.keepIn K (.ref f18) = true)
    {f19 : Addr} {od19 an19 : Option Addr} {sl19 : Array (Option Value)} {oc19 kV19 dc19 pm19 cd19 ct19 : Value}
    (a19 : PySem.W.nsIn K mainGlobals "_law_shut" = some (some (.ref f19))) (l19 : K.lookup f19 = some ⟨oc19, od19, .func (PySem.W.fnOf "_law_shut" "_law_shut" (defArgs s_law_shut) (defBody s_law_shut) (defScope s_law_shut) .none kV19 dc19 pm19 an19 cd19 ct19), sl19⟩) (c19 : PySem.W.codeIn K cd19 "_law_shut" = true) (k19 : PySem.W.keepIn K (.ref f19) = true)
    {f20 : Addr} {od20 an20 : Option Addr} {sl20 : Array (Option Value)} {oc20 kV20 dc20 pm20 cd20 ct20 : Value}
    (a20 : PySem.W.nsIn K mainGlobals "_law_near" = some (some (.ref f20))) (l20 : K.lookup f20 = some ⟨oc20, od20, .func (PySem.W.fnOf "_law_near" "_law_near" (defArgs s_law_near) (defBody s_law_near) (defScope s_law_near) .none kV20 dc20 pm20 an20 cd20 ct20), sl20⟩) (c20 : PySem.W.codeIn K cd20 "_law_near" = true) (k20 : PySem.W.keepIn K (.ref f20) = true)
    {f21 : Addr} {od21 an21 : Option Addr} {sl21 : Array (Option Value)} {oc21 kV21 dc21 pm21 cd21 ct21 : Value}
    (a21 : PySem.W.nsIn K mainGlobals "_law_way_right" = some (some (.ref f21))) (l21 : K.lookup f21 = some ⟨oc21, od21, .func (PySem.W.fnOf "_law_way_right" "_law_way_right" (defArgs s_law_way_right) (defBody s_law_way_right) (defScope s_law_way_right) .none kV21 dc21 pm21 an21 cd21 ct21), sl21⟩) (c21 : PySem.W.codeIn K cd21 "_law_way_right" = true) (k21 : PySem.W.keepIn K (.ref f21) = true)
    {f22 : Addr} {od22 an22 : Option Addr} {sl22 : Array (Option Value)} {oc22 kV22 dc22 pm22 cd22 ct22 : Value}
    (a22 : PySem.W.nsIn K mainGlobals "_law_shut_right" = some (some (.ref f22))) (l22 : K.lookup f22 = some ⟨oc22, od22, .func (PySem.W.fnOf "_law_shut_right" "_law_shut_right" (defArgs s_law_shut_right) (defBody s_law_shut_right) (defScope s_law_shut_right) .none kV22 dc22 pm22 an22 cd22 ct22), sl22⟩) (c22 : PySem.W.codeIn K cd22 "_law_shut_right" = true) (k22 : PySem.W.keepIn K (.ref f22) = true)
    {f23 : Addr} {od23 an23 : Option Addr} {sl23 : Array (Option Value)} {oc23 kV23 dc23 pm23 cd23 ct23 : Value}
    (a23 : PySem.W.nsIn K mainGlobals "law" = some (some (.ref f23))) (l23 : K.lookup f23 = some ⟨oc23, od23, .func (PySem.W.fnOf "law" "law" (defArgs s_law) (defBody s_law) (defScope s_law) .none kV23 dc23 pm23 an23 cd23 ct23), sl23⟩) (c23 : PySem.W.codeIn K cd23 "law" = true) (k23 : PySem.W.keepIn K (.ref f23) = true)
    {eMOVES : Addr} {odMOVES : Option Addr} {slMOVES : Array (Option Value)} {itsMOVES : Array Value} {nMOVES : Nat} (aMOVES : PySem.W.nsIn K mainGlobals "MOVES" = some (some (.ref eMOVES))) (lMOVES : K.lookup eMOVES = some ⟨.type "tuple", odMOVES, .seq itsMOVES nMOVES, slMOVES⟩) (vMOVES : Vals [V.str "ff", V.str "fb", V.str "bf", V.str "bb"] itsMOVES.toList) (zMOVES : itsMOVES.size ≤ sizeLine)
    {eTAKEN_BACK : Addr} (aTAKEN_BACK : PySem.W.nsIn K mainGlobals "TAKEN_BACK" = some (some (.ref eTAKEN_BACK))) (tTAKEN_BACK : KTD.tabLook KTD.flatLooks (fun b => K.lookup b) eTAKEN_BACK [("ff", .str "bb"), ("fb", .str "bf"), ("bf", .str "fb"), ("bb", .str "ff")] = true) (hTAKEN_BACK : KTD.hashesOf (fun b => K.lookup b) eTAKEN_BACK = [(PySem.strKind P w).hash "ff", (PySem.strKind P w).hash "fb", (PySem.strKind P w).hash "bf", (PySem.strKind P w).hash "bb"])
    {eSTEPS : Addr} (aSTEPS : PySem.W.nsIn K mainGlobals "STEPS" = some (some (.ref eSTEPS))) (tSTEPS : KTD.tabLook KTD.flatLooks (fun b => K.lookup b) eSTEPS [("f", .int (1)), ("b", .int (-1))] = true) (hSTEPS : KTD.hashesOf (fun b => K.lookup b) eSTEPS = [(PySem.strKind P w).hash "f", (PySem.strKind P w).hash "b"])
    {eBadRidge : Addr} (aBadRidge : PySem.W.nsIn K mainGlobals "BadRidge" = some (some (.ref eBadRidge)))
    {eBadPlaces : Addr} (aBadPlaces : PySem.W.nsIn K mainGlobals "BadPlaces" = some (some (.ref eBadPlaces)))
    (xBadRidge : PySem.W.excIn K eBadRidge bmV "ValueError.__new__" = true) (yBadRidge : exClsB K eBadRidge = true)
    (xBadPlaces : PySem.W.excIn K eBadPlaces bmV "ValueError.__new__" = true) (yBadPlaces : exClsB K eBadPlaces = true)
    (z_all : PySem.W.nsIn K mainGlobals "all" = some none)
    (z_bool : PySem.W.nsIn K mainGlobals "bool" = some none)
    (z_dict : PySem.W.nsIn K mainGlobals "dict" = some none)
    (z_int : PySem.W.nsIn K mainGlobals "int" = some none)
    (z_isinstance : PySem.W.nsIn K mainGlobals "isinstance" = some none)
    (z_len : PySem.W.nsIn K mainGlobals "len" = some none)
    (z_list : PySem.W.nsIn K mainGlobals "list" = some none)
    (z_min : PySem.W.nsIn K mainGlobals "min" = some none)
    (z_range : PySem.W.nsIn K mainGlobals "range" = some none)
    (z_str : PySem.W.nsIn K mainGlobals "str" = some none)
    (z_sum : PySem.W.nsIn K mainGlobals "sum" = some none)
    (z_tuple : PySem.W.nsIn K mainGlobals "tuple" = some none)
    {eAnswer : Addr} (aAnswer : PySem.W.nsIn K mainGlobals "Answer" = some (some (.ref eAnswer)))
    {eWay : Addr} (aWay : PySem.W.nsIn K mainGlobals "Way" = some (some (.ref eWay)))
    {fWay_init : Addr} {odWay_init anWay_init : Option Addr} {slWay_init : Array (Option Value)} {ocWay_init kVWay_init dcWay_init pmWay_init cdWay_init ctWay_init : Value}
    (aWay_init : PySem.W.findIn K (.ref eWay) "__init__" = some (some (.ref fWay_init))) (iWay_init : PySem.W.isFn K (.ref fWay_init) = true) (lWay_init : K.lookup fWay_init = some ⟨ocWay_init, odWay_init, .func (PySem.W.fnOf "__init__" "Way.__init__" (defArgs s_Way_init) (defBody s_Way_init) (defScope s_Way_init) .none kVWay_init dcWay_init pmWay_init anWay_init cdWay_init ctWay_init), slWay_init⟩) (cWay_init : PySem.W.codeIn K cdWay_init "Way.__init__" = true) (kWay_init : PySem.W.keepIn K (.ref fWay_init) = true)
    {fWay_shows : Addr} {odWay_shows anWay_shows : Option Addr} {slWay_shows : Array (Option Value)} {ocWay_shows kVWay_shows dcWay_shows pmWay_shows cdWay_shows ctWay_shows : Value}
    (aWay_shows : PySem.W.findIn K (.ref eWay) "shows" = some (some (.ref fWay_shows))) (iWay_shows : PySem.W.isFn K (.ref fWay_shows) = true) (lWay_shows : K.lookup fWay_shows = some ⟨ocWay_shows, odWay_shows, .func (PySem.W.fnOf "shows" "Way.shows" (defArgs s_Way_shows) (defBody s_Way_shows) (defScope s_Way_shows) .none kVWay_shows dcWay_shows pmWay_shows anWay_shows cdWay_shows ctWay_shows), slWay_shows⟩) (cWay_shows : PySem.W.codeIn K cdWay_shows "Way.shows" = true) (kWay_shows : PySem.W.keepIn K (.ref fWay_shows) = true)
    (pgWay : PySem.W.plainGet K eWay Str.empty = true) (hdWay : PySem.W.hasDictIn K eWay = true) (poWay : PySem.W.plainOver K eWay = true) (saWay : PySem.W.findIn K (.ref eWay) "__setattr__" = some (some (.builtin "object.__setattr__"))) (mkWay : PySem.W.makesIn K eWay = true) (kcWay : PySem.W.keepIn K (.ref eWay) = true)
    (nWay_moves : PySem.W.findIn K (.ref eWay) "moves" = some none)
    (haWay : PySem.W.findIn K (.ref eWay) "__class__" = some (some (.builtin "object.__class__"))) (hnWay : PySem.W.specialIn K (.builtin "object.__class__") "__get__" = some (some (.builtin "getset_descriptor.__get__"))) (htWay : PySem.W.takesIn K (.builtin "object.__class__") = some true) (hmWay : PySem.W.mroIn K eWay (.type "object") = some true)
    {eShut : Addr} (aShut : PySem.W.nsIn K mainGlobals "Shut" = some (some (.ref eShut)))
    {fShut_init : Addr} {odShut_init anShut_init : Option Addr} {slShut_init : Array (Option Value)} {ocShut_init kVShut_init dcShut_init pmShut_init cdShut_init ctShut_init : Value}
    (aShut_init : PySem.W.findIn K (.ref eShut) "__init__" = some (some (.ref fShut_init))) (iShut_init : PySem.W.isFn K (.ref fShut_init) = true) (lShut_init : K.lookup fShut_init = some ⟨ocShut_init, odShut_init, .func (PySem.W.fnOf "__init__" "Shut.__init__" (defArgs s_Shut_init) (defBody s_Shut_init) (defScope s_Shut_init) .none kVShut_init dcShut_init pmShut_init anShut_init cdShut_init ctShut_init), slShut_init⟩) (cShut_init : PySem.W.codeIn K cdShut_init "Shut.__init__" = true) (kShut_init : PySem.W.keepIn K (.ref fShut_init) = true)
    {fShut_shows : Addr} {odShut_shows anShut_shows : Option Addr} {slShut_shows : Array (Option Value)} {ocShut_shows kVShut_shows dcShut_shows pmShut_shows cdShut_shows ctShut_shows : Value}
    (aShut_shows : PySem.W.findIn K (.ref eShut) "shows" = some (some (.ref fShut_shows))) (iShut_shows : PySem.W.isFn K (.ref fShut_shows) = true) (lShut_shows : K.lookup fShut_shows = some ⟨ocShut_shows, odShut_shows, .func (PySem.W.fnOf "shows" "Shut.shows" (defArgs s_Shut_shows) (defBody s_Shut_shows) (defScope s_Shut_shows) .none kVShut_shows dcShut_shows pmShut_shows anShut_shows cdShut_shows ctShut_shows), slShut_shows⟩) (cShut_shows : PySem.W.codeIn K cdShut_shows "Shut.shows" = true) (kShut_shows : PySem.W.keepIn K (.ref fShut_shows) = true)
    (pgShut : PySem.W.plainGet K eShut Str.empty = true) (hdShut : PySem.W.hasDictIn K eShut = true) (poShut : PySem.W.plainOver K eShut = true) (saShut : PySem.W.findIn K (.ref eShut) "__setattr__" = some (some (.builtin "object.__setattr__"))) (mkShut : PySem.W.makesIn K eShut = true) (kcShut : PySem.W.keepIn K (.ref eShut) = true)
    (nShut_pairs : PySem.W.findIn K (.ref eShut) "pairs" = some none)
    (haShut : PySem.W.findIn K (.ref eShut) "__class__" = some (some (.builtin "object.__class__"))) (hnShut : PySem.W.specialIn K (.builtin "object.__class__") "__get__" = some (some (.builtin "getset_descriptor.__get__"))) (htShut : PySem.W.takesIn K (.builtin "object.__class__") = some true) (hmShut : PySem.W.mroIn K eShut (.type "object") = some true)
    (jWay_Way : PySem.W.kitOne K (.ref eWay) (.ref eWay) = some true)
    (jShut_Way : PySem.W.kitOne K (.ref eShut) (.ref eWay) = some false)
    : ∃ A, Txt P w K mg A := by
  have F0 := fun_mk (st := s_is_ridge) l0 c0 k0
  have b0 := F0.binds (ps := ["value"]) fun _ _ _ _ _ _ us hl => match us, hl with | [_], _ => rfl
  have F1 := fun_mk (st := s_check_ridge) l1 c1 k1
  have b1 := F1.binds (ps := ["value"]) fun _ _ _ _ _ _ us hl => match us, hl with | [_], _ => rfl
  have F2 := fun_mk (st := s_heights) l2 c2 k2
  have b2 := F2.binds (ps := ["ridge"]) fun _ _ _ _ _ _ us hl => match us, hl with | [_], _ => rfl
  have F3 := fun_mk (st := s_is_place) l3 c3 k3
  have b3 := F3.binds (ps := ["levels", "value"]) fun _ _ _ _ _ _ us hl => match us, hl with | [_, _], _ => rfl
  have F4 := fun_mk (st := s_are_alike) l4 c4 k4
  have b4 := F4.binds (ps := ["levels", "other_levels", "first", "second"]) fun _ _ _ _ _ _ us hl => match us, hl with | [_, _, _, _], _ => rfl
  have F5 := fun_mk (st := s_check_places) l5 c5 k5
  have b5 := F5.binds (ps := ["levels", "other_levels", "first", "second"]) fun _ _ _ _ _ _ us hl => match us, hl with | [_, _, _, _], _ => rfl
  have F6 := fun_mk (st := s_led_to) l6 c6 k6
  have b6 := F6.binds (ps := ["first", "second", "move"]) fun _ _ _ _ _ _ us hl => match us, hl with | [_, _, _], _ => rfl
  have F7 := fun_mk (st := s_can_be_done) l7 c7 k7
  have b7 := F7.binds (ps := ["levels", "other_levels", "first", "second", "move"]) fun _ _ _ _ _ _ us hl => match us, hl with | [_, _, _, _, _], _ => rfl
  have F8 := fun_mk (st := s_is_move) l8 c8 k8
  have b8 := F8.binds (ps := ["value"]) fun _ _ _ _ _ _ us hl => match us, hl with | [_], _ => rfl
  have F9 := fun_mk (st := s_is_pair) l9 c9 k9
  have b9 := F9.binds (ps := ["levels", "other_levels", "value"]) fun _ _ _ _ _ _ us hl => match us, hl with | [_, _, _], _ => rfl
  have F10 := fun_mk (st := s_pairs_outside) l10 c10 k10
  have b10 := F10.binds (ps := ["levels", "other_levels", "pair", "known"]) fun _ _ _ _ _ _ us hl => match us, hl with | [_, _, _, _], _ => rfl
  have F11 := fun_mk (st := s_explored) l11 c11 k11
  have b11 := F11.binds (ps := ["levels", "other_levels", "goal"]) fun _ _ _ _ _ _ us hl => match us, hl with | [_, _, _], _ => rfl
  have F12 := fun_mk (st := s_explored_next) l12 c12 k12
  have b12 := F12.binds (ps := ["levels", "other_levels", "newest", "came_by"]) fun _ _ _ _ _ _ us hl => match us, hl with | [_, _, _, _], _ => rfl
  have F13 := fun_mk (st := s_moves_to) l13 c13 k13
  have b13 := F13.binds (ps := ["goal", "came_by"]) fun _ _ _ _ _ _ us hl => match us, hl with | [_, _], _ => rfl
  have F14 := fun_mk (st := s_reached) l14 c14 k14
  have b14 := F14.binds (ps := ["one", "other", "first", "second"]) fun _ _ _ _ _ _ us hl => match us, hl with | [_, _, _, _], _ => rfl
  have F15 := fun_mk (st := s_law_heights) l15 c15 k15
  have b15 := F15.binds (ps := ["_law_ridge"]) fun _ _ _ _ _ _ us hl => match us, hl with | [_], _ => rfl
  have F16 := fun_mk (st := s_law_done) l16 c16 k16
  have b16 := F16.binds (ps := ["_law_mine", "_law_theirs", "_law_places", "_law_move"]) fun _ _ _ _ _ _ us hl => match us, hl with | [_, _, _, _], _ => rfl
  have F17 := fun_mk (st := s_law_walked) l17 c17 k17
  have b17 := F17.binds (ps := ["_law_one", "_law_other", "_law_moves"]) fun _ _ _ _ _ _ us hl => match us, hl with | [_, _, _], _ => rfl
  have F18 := fun_mk (st := s_law_says) l18 c18 k18
  have b18 := F18.binds (ps := ["_law_said", "_law_due"]) fun _ _ _ _ _ _ us hl => match us, hl with | [_, _], _ => rfl
  have F19 := fun_mk (st := s_law_shut) l19 c19 k19
  have b19 := F19.binds (ps := ["_law_mine", "_law_theirs", "_law_places", "_law_pairs"]) fun _ _ _ _ _ _ us hl => match us, hl with | [_, _, _, _], _ => rfl
  have F20 := fun_mk (st := s_law_near) l20 c20 k20
  have b20 := F20.binds (ps := ["_law_one", "_law_other", "_law_places"]) fun _ _ _ _ _ _ us hl => match us, hl with | [_, _, _], _ => rfl
  have F21 := fun_mk (st := s_law_way_right) l21 c21 k21
  have b21 := F21.binds (ps := ["_law_one", "_law_other", "_law_places", "_law_moves"]) fun _ _ _ _ _ _ us hl => match us, hl with | [_, _, _, _], _ => rfl
  have F22 := fun_mk (st := s_law_shut_right) l22 c22 k22
  have b22 := F22.binds (ps := ["_law_one", "_law_other", "_law_places", "_law_pairs"]) fun _ _ _ _ _ _ us hl => match us, hl with | [_, _, _, _], _ => rfl
  have F23 := fun_mk (st := s_law) l23 c23 k23
  have b23 := F23.binds (ps := ["_law_script"]) fun _ _ _ _ _ _ us hl => match us, hl with | [_], _ => rfl
  have FWay_init := fun_mk (st := s_Way_init) lWay_init cWay_init kWay_init
  have bWay_init := FWay_init.binds (ps := ["self", "moves"]) fun _ _ _ _ _ _ us hl => match us, hl with | [_, _], _ => rfl
  have FWay_shows := fun_mk (st := s_Way_shows) lWay_shows cWay_shows kWay_shows
  have bWay_shows := FWay_shows.binds (ps := ["self", "one", "other", "first", "second"]) fun _ _ _ _ _ _ us hl => match us, hl with | [_, _, _, _, _], _ => rfl
  have FShut_init := fun_mk (st := s_Shut_init) lShut_init cShut_init kShut_init
  have bShut_init := FShut_init.binds (ps := ["self", "pairs"]) fun _ _ _ _ _ _ us hl => match us, hl with | [_, _], _ => rfl
  have FShut_shows := fun_mk (st := s_Shut_shows) lShut_shows cShut_shows kShut_shows
  have bShut_shows := FShut_shows.binds (ps := ["self", "one", "other", "first", "second"]) fun _ _ _ _ _ _ us hl => match us, hl with | [_, _, _, _, _], _ => rfl
  exact ⟨⟨f0, _, f1, _, f2, _, f3, _, f4, _, f5, _, f6, _, f7, _, f8, _, f9, _, f10, _, f11, _, f12, _, f13, _, f14, _, f15, _, f16, _, f17, _, f18, _, f19, _, f20, _, f21, _, f22, _, f23, _, eMOVES, eTAKEN_BACK, eSTEPS, fWay_init, _, fWay_shows, _, fShut_init, _, fShut_shows, _, eAnswer, eWay, eShut, eBadRidge, eBadPlaces⟩, PySem.W.mg_none_of X G z_all, PySem.W.mg_none_of X G z_bool, PySem.W.mg_none_of X G z_dict, PySem.W.mg_none_of X G z_int, PySem.W.mg_none_of X G z_isinstance, PySem.W.mg_none_of X G z_len, PySem.W.mg_none_of X G z_list, PySem.W.mg_none_of X G z_min, PySem.W.mg_none_of X G z_range, PySem.W.mg_none_of X G z_str, PySem.W.mg_none_of X G z_sum, PySem.W.mg_none_of X G z_tuple, PySem.W.mg_of X G a0, k0, F0, b0, PySem.W.mg_of X G a1, k1, F1, b1, PySem.W.mg_of X G a2, k2, F2, b2, PySem.W.mg_of X G a3, k3, F3, b3, PySem.W.mg_of X G a4, k4, F4, b4, PySem.W.mg_of X G a5, k5, F5, b5, PySem.W.mg_of X G a6, k6, F6, b6, PySem.W.mg_of X G a7, k7, F7, b7, PySem.W.mg_of X G a8, k8, F8, b8, PySem.W.mg_of X G a9, k9, F9, b9, PySem.W.mg_of X G a10, k10, F10, b10, PySem.W.mg_of X G a11, k11, F11, b11, PySem.W.mg_of X G a12, k12, F12, b12, PySem.W.mg_of X G a13, k13, F13, b13, PySem.W.mg_of X G a14, k14, F14, b14, PySem.W.mg_of X G a15, k15, F15, b15, PySem.W.mg_of X G a16, k16, F16, b16, PySem.W.mg_of X G a17, k17, F17, b17, PySem.W.mg_of X G a18, k18, F18, b18, PySem.W.mg_of X G a19, k19, F19, b19, PySem.W.mg_of X G a20, k20, F20, b20, PySem.W.mg_of X G a21, k21, F21, b21, PySem.W.mg_of X G a22, k22, F22, b22, PySem.W.mg_of X G a23, k23, F23, b23, PySem.W.mg_of X G aMOVES, fun H => .inr ⟨_, _, _, lMOVES, rfl, rfl, zMOVES, vMOVES⟩, PySem.W.mg_of X G aTAKEN_BACK, fun h' X' => PySem.W.kt_tab_in P w X' tTAKEN_BACK (by decide +kernel) hTAKEN_BACK, PySem.W.mg_of X G aSTEPS, fun h' X' => PySem.W.kt_tab_in P w X' tSTEPS (by decide +kernel) hSTEPS, PySem.W.mg_of X G aBadRidge, PySem.W.mg_of X G aBadPlaces, xBadRidge, exCls_of yBadRidge, xBadPlaces, exCls_of yBadPlaces, PySem.W.mg_of X G aAnswer, PySem.W.mg_of X G aWay, ⟨pgWay, hdWay, poWay, saWay⟩, ⟨mkWay, aWay_init, iWay_init, kcWay⟩, nWay_moves, jWay_Way, ⟨haWay, hnWay, htWay, hmWay⟩, PySem.W.mg_of X G aShut, ⟨pgShut, hdShut, poShut, saShut⟩, ⟨mkShut, aShut_init, iShut_init, kcShut⟩, nShut_pairs, jShut_Way, ⟨haShut, hnShut, htShut, hmShut⟩, FWay_init, bWay_init, ⟨aWay_shows, iWay_shows, kWay_shows⟩, FWay_shows, bWay_shows, FShut_init, bShut_init, ⟨aShut_shows, iShut_shows, kShut_shows⟩, FShut_shows, bShut_shows⟩
end K08
set_option Elab.async false
set_option linter.all false
set_option maxRecDepth 100000
set_option maxHeartbeats 4000000
namespace K08
open PySem PySem.Spec PyProof.Rows L2 UM UT
def sp_is_ridge : Sp := fun vs H Q _ => ∃ R, vs = [.str (rt R)] ∧ R.length ≤ 16000000 ∧ Q (.bl true) H
def sp_check_ridge : Sp := fun vs H Q _ => ∃ R, vs = [.str (rt R)] ∧ R.length ≤ 16000000 ∧ Q .non H
def sp_heights : Sp := fun vs H Q _ => ∃ R, vs = [.str (rt R)] ∧ R.length ≤ 16000000 ∧ ∀ p H', H p = none → Same H H' → H' p = some (.lst ((hts 0 R).map V.int)) → Q (.ref p) H'
def sp_is_place (K : PySem.W.Frag) : Sp := fun vs H Q _ => ∃ a xs i, vs = [.ref a, .int i] ∧ SqL K H a (List.map V.int xs) ∧ Q (.bl (decide (0 ≤ i) && decide (i < (xs.length : Int)))) H
def sp_are_alike (K : PySem.W.Frag) : Sp := fun vs H Q _ => ∃ a b xs ys i j, vs = [.ref a, .ref b, .int i, .int j] ∧ SqL K H a (List.map V.int xs) ∧ SqL K H b (List.map V.int ys) ∧ Q (.bl (alike xs ys i j)) H
def sp_led_to : Sp := fun vs H Q _ => ∃ i j m, vs = [.int i, .int j, mvV m] ∧ ∀ t, H t = none → Q (.ref t) (upd H t (.tup (pt2 (adv (i, j) m))))
section
variable {P : Program} {w : World} {K : PySem.W.Frag} {mg : Str → Option Value} {base : Heap} {A : Adr}
theorem ok_is_ridge (T : Txt P w K mg A) : FnOk P w K mg base CX0 1 A.a_is_ridge A.d_is_ridge ["value"] sp_is_ridge := by
  refine T.F_is_ridge.ok sc_is_ridge (fun vs H Q E h => ?_) (fun cdv Ar outer s H vs Q E hr h => ?_)
  · obtain ⟨R, rfl, _⟩ := h
    rfl
  · obtain ⟨R, rfl, hR, q⟩ := h
    have hu := hu_of hr
    refine ⟨_, (pss_one (ps_ret (pe_and (pe_callB call_isinst rfl T.b_isinstance boot_isinstance (pa_cons (pv 0) (pa_cons (pe_bltn (v := .ty "str") rfl T.b_str boot_str rfl) pa_nil))) (pe_one (pe_cmpR op_eq (pe_op op_add (pe_bm PySem.F.plainAttrs_str PySem.F.slot_str_count PySem.F.type_str_count mt_count (pv 0) (pa_cons pe_str pa_nil)) (pe_bm PySem.F.plainAttrs_str PySem.F.slot_str_count PySem.F.type_str_count mt_count (pv 0) (pa_cons pe_str pa_nil))) (pe_callB call_lenV rfl T.b_len boot_len (pa_cons (pv 0) pa_nil)) (nomark _)))))), ?_⟩
    refine ⟨_, rfl, _, _, _, _, rfl, .str _, rfl, _, rfl, iteT ?_⟩
    refine ⟨_, rfl, rfl, _, _, rfl, rfl, _, rfl, rfl, _, _, rfl, rfl, _, _, rfl, rfl, _, rfl, _, _, rfl, ⟨by rw [rt_length]; exact bigM hR, rfl⟩, rfl, ?_⟩
    have e : decide (V.int (Txt.count (rt R) "u" + Txt.count (rt R) "d") = V.int ((rt R).length : Int)) = true := by
      refine decide_eq_true ?_
      have e1 : Txt.count (rt R) "u" = ((R.map cd).count 117 : Nat) := count_one _ _
      have e2 : Txt.count (rt R) "d" = ((R.map cd).count 100 : Nat) := count_one _ _
      rw [e1, e2, rt_length, ← count_rt R]
      congr 1
    rw [e]
    exact q
theorem ok_check_ridge (T : Txt P w K mg A) : FnOk P w K mg base CX0 2 A.a_check_ridge A.d_check_ridge ["value"] sp_check_ridge := by
  have G_is_ridge : FnOk P w K mg base CX0 1 A.a_is_ridge A.d_is_ridge ["value"] sp_is_ridge := ok_is_ridge T
  refine T.F_check_ridge.ok sc_check_ridge (fun vs H Q E h => ?_) (fun cdv Ar outer s H vs Q E hr h => ?_)
  · obtain ⟨R, rfl, _⟩ := h
    rfl
  · obtain ⟨R, rfl, hR, q⟩ := h
    have hu := hu_of hr
    refine ⟨_, (pss_one (ps_if (pt_not (pt_val (pe_call G_is_ridge (hr.mono (by decide)) rfl T.m_is_ridge T.k_is_ridge T.B_is_ridge .nil pass0 (pa_cons (pv 0) pa_nil))))
      (pss_one ps_never)
      pss_nil)), ?_⟩
    exact ⟨_, rfl, R, rfl, hR, _, rfl, iteF q⟩
theorem ok_heights (T : Txt P w K mg A) : FnOk P w K mg base CX0 3 A.a_heights A.d_heights ["ridge"] sp_heights := by
  have G_check_ridge : FnOk P w K mg base CX0 2 A.a_check_ridge A.d_check_ridge ["value"] sp_check_ridge := ok_check_ridge T
  refine T.F_heights.ok sc_heights (fun vs H Q E h => ?_) (fun cdv Ar outer s H vs Q E hr h => ?_)
  · obtain ⟨R, rfl, _⟩ := h
    rfl
  · obtain ⟨R, rfl, hR, k⟩ := h
    have hu := hu_of hr
    refine ⟨_, (pss_cons (ps_expr (pe_call G_check_ridge (hr.mono (by decide)) rfl T.m_check_ridge T.k_check_ridge T.B_check_ridge .nil pass0 (pa_cons (pv 0) pa_nil)))
    (pss_cons (ps_set (i := 1) sc_heights.nd rfl (Or.inl rfl) pe_int)
    (pss_cons (ps_set (i := 2) sc_heights.nd rfl (Or.inl rfl) (pe_lst (pa_cons (pv 1) pa_nil)))
    (pss_cons (ps_for PassesOwn.never rfl (pi_str (pv 0)) (pg_name (i := 3) sc_heights.nd rfl (Or.inl rfl))
      (pss_cons (ps_set (i := 1) sc_heights.nd rfl (Or.inl rfl) (pe_ifExp (pt_cmpR op_eq (pv 3) pe_str (nomark _)) (pe_op op_add (pv 1) pe_int) (pe_op op_sub (pv 1) pe_int)))
      (pss_one (ps_expr (pe_bm PySem.F.plainAttrs_list PySem.F.slot_list_append PySem.F.type_list_append mt_append (pv 2) (pa_cons (pv 1) pa_nil))))))
    (pss_one (ps_ret (pv 2))))))), ?_⟩
    refine ⟨_, rfl, R, rfl, hR, ?_⟩
    refine ⟨_, rfl, (by decide), fun p hp => ?_⟩
    refine ⟨_, rfl, _, rfl, for_each (ItOf.str (rt R)) (fun rest σ H2 => ∃ (h : Int) (pre : List Int) (r : List Bool) (z : Option V), rest = (r.map fun b => sg (cd b)) ∧ σ = [some (.str (rt R)), some (.int h), some (.ref p), z] ∧ hts 0 R = pre ++ hts h r ∧ Same H H2 ∧ H2 p = some (.lst ((pre ++ [h]).map V.int)))
      ⟨0, [], R, none, sgs_rt R, rfl, rfl, same_upd hp, upd_same⟩ (fun _ _ _ _ => True.intro) ?_ ?_⟩
    · rintro x rest σ H2 ⟨h, pre, r, z, e, rfl, hh, s2, e2⟩
      cases r with
      | nil => cases e
      | cons b r =>
        obtain ⟨rfl, rfl⟩ := List.cons.inj e
        have hl := hts_split hR hh
        rw [List.length_cons] at hl
        refine ⟨_, rfl, rfl, _, rfl, ?_⟩
        refine ite2 (fun hc => ?_) (fun hc => ?_)
        · have hb : b = true := by rw [← sg_u b]; exact hc
          subst hb
          refine ⟨_, rfl, _, _, rfl, rfl, ?_⟩
          refine ⟨_, rfl, .inl ⟨rfl, _, SqL.of e2⟩, _, rfl, _, _, _, rfl, rfl, e2, smallM (by rw [List.length_map, List.length_append, List.length_singleton]; omega), ?_⟩
          refine ⟨h + 1, pre ++ [h], r, _, rfl, rfl, ?_, s2.upd hp rfl, ?_⟩
          · rw [hh, List.append_assoc]; rfl
          · rw [upd_same, List.map_append (l₁ := pre ++ [h])]; rfl
        · have hb : b = false := by
            have := sg_u b
            cases b with
            | true => exact absurd this hc
            | false => rfl
          subst hb
          refine ⟨_, rfl, _, _, rfl, rfl, ?_⟩
          refine ⟨_, rfl, .inl ⟨rfl, _, SqL.of e2⟩, _, rfl, _, _, _, rfl, rfl, e2, smallM (by rw [List.length_map, List.length_append, List.length_singleton]; omega), ?_⟩
          refine ⟨h - 1, pre ++ [h], r, _, rfl, rfl, ?_, s2.upd hp rfl, ?_⟩
          · rw [hh, List.append_assoc]; rfl
          · rw [upd_same, List.map_append (l₁ := pre ++ [h])]; rfl
    · rintro σ H2 ⟨h, pre, r, z, e, rfl, hh, s2, e2⟩
      cases r with
      | cons b r => cases e
      | nil => exact ⟨_, rfl, k p H2 hp s2 (by rw [hh]; exact e2)⟩
theorem ok_law_heights (T : Txt P w K mg A) : FnOk P w K mg base CX0 1 A.a_law_heights A.d_law_heights ["_law_ridge"] sp_heights := by
  refine T.F_law_heights.ok sc_law_heights (fun vs H Q E h => ?_) (fun cdv Ar outer s H vs Q E hr h => ?_)
  · obtain ⟨R, rfl, _⟩ := h
    rfl
  · obtain ⟨R, rfl, hR, k⟩ := h
    have hu := hu_of hr
    refine ⟨_, (pss_cons (ps_set (i := 1) sc_law_heights.nd rfl (Or.inl rfl) (pe_lst (pa_cons pe_int pa_nil)))
    (pss_cons (ps_for PassesOwn.never rfl (pi_str (pv 0)) (pg_name (i := 2) sc_law_heights.nd rfl (Or.inl rfl))
      (pss_one (ps_expr (pe_bm PySem.F.plainAttrs_list PySem.F.slot_list_append PySem.F.type_list_append mt_append (pv 1) (pa_cons (pe_op op_add (pe_ix ix_list (pv 1) (pe_un un_neg pe_int) (fun _ _ => rfl)) (pe_dget hu (pe_disp (pps_cons pe_str pe_int (pps_cons pe_str (pe_un un_neg pe_int) pps_nil)) rfl rfl (by simp) (by decide)) (pv 2) (fun _ _ => rfl))) pa_nil)))))
    (pss_one (ps_ret (pv 1))))), ?_⟩
    refine ⟨(by decide), fun p hp => ?_⟩
    refine ⟨_, rfl, _, rfl, for_each (ItOf.str (rt R)) (fun rest σ H2 => ∃ (h : Int) (pre : List Int) (r : List Bool) (z : Option V), rest = (r.map fun b => sg (cd b)) ∧ σ = [some (.str (rt R)), some (.ref p), z] ∧ hts 0 R = pre ++ hts h r ∧ Same H H2 ∧ H2 p = some (.lst ((pre ++ [h]).map V.int)))
      ⟨0, [], R, none, sgs_rt R, rfl, rfl, same_upd hp, upd_same⟩ (fun _ _ _ _ => True.intro) ?_ ?_⟩
    · rintro x rest σ H2 ⟨h, pre, r, z, e, rfl, hh, s2, e2⟩
      cases r with
      | nil => cases e
      | cons b r =>
        obtain ⟨rfl, rfl⟩ := List.cons.inj e
        have hl := hts_split hR hh
        rw [List.length_cons] at hl
        refine ⟨_, rfl, .inl ⟨rfl, _, SqL.of e2⟩, _, rfl, _, rfl, _, _, _, _, rfl, rfl, SqL.of e2, (by rw [List.map_append]; exact atI_last _ _), ?_⟩
        refine fun d hd => ⟨_, rfl, upd_same, [((Sum.inr ("u" : Str) : Key), V.int 1), ((Sum.inr ("d" : Str) : Key), V.int (-1))], rfl, by decide, ?_⟩
        have npd : p ≠ d := ne_of_none e2 hd
        refine ⟨_, rfl, d, .int (stp b), rfl, ud_tab b ▸ DGet.k (k := Sum.inr (⟨#[cd b]⟩ : Str)) upd_same, ?_⟩
        refine ⟨_, _, rfl, rfl, _, _, _, rfl, rfl, (by rw [upd_ne npd, upd_ne npd]; exact e2), smallM (by rw [List.length_map, List.length_append, List.length_singleton]; omega), ?_⟩
        refine ⟨h + stp b, pre ++ [h], r, _, rfl, rfl, ?_, ((s2.upd (s2.free hd) rfl).upd (s2.free hd) rfl).upd hp rfl, ?_⟩
        · rw [hh, List.append_assoc]; rfl
        · rw [upd_same, List.map_append (l₁ := pre ++ [h])]; rfl
    · rintro σ H2 ⟨h, pre, r, z, e, rfl, hh, s2, e2⟩
      cases r with
      | cons b r => cases e
      | nil => exact ⟨_, rfl, k p H2 hp s2 (by rw [hh]; exact e2)⟩
theorem ok_is_place (T : Txt P w K mg A) : FnOk P w K mg base CX0 1 A.a_is_place A.d_is_place ["levels", "value"] (sp_is_place K) := by
  refine T.F_is_place.ok sc_is_place (fun vs H Q E h => ?_) (fun cdv Ar outer s H vs Q E hr h => ?_)
  · obtain ⟨a, xs, i, rfl, _⟩ := h
    rfl
  · obtain ⟨a, xs, i, rfl, hx, q⟩ := h
    have hu := hu_of hr
    refine ⟨_, (pss_one (ps_ret (pe_and (pe_callB call_isinst rfl T.b_isinstance boot_isinstance (pa_cons (pv 1) (pa_cons (pe_bltn (v := .ty "int") rfl T.b_int boot_int rfl) pa_nil))) (pe_and (pe_not (pe_callB call_isinst rfl T.b_isinstance boot_isinstance (pa_cons (pv 1) (pa_cons (pe_bltn (v := .ty "bool") rfl T.b_bool boot_bool rfl) pa_nil)))) (pe_one (pe_chain op_le op_lt pe_int (pv 1) (pe_callB call_lenV rfl T.b_len boot_len (pa_cons (pv 0) pa_nil)))))))), ?_⟩
    refine ⟨_, rfl, _, _, _, _, rfl, .int _, rfl, _, rfl, iteT ?_⟩
    refine ⟨_, rfl, _, _, _, _, rfl, .int _, rfl, _, rfl, _, rfl, iteT ?_⟩
    refine ⟨_, rfl, _, _, rfl, rfl, _, rfl, ?_⟩
    refine ite2 (fun hc => ?_) (fun hc => ?_)
    · refine ⟨_, rfl, _, _, rfl, .inl ⟨_, hx, rfl⟩, _, _, rfl, rfl, ?_⟩
      rw [hc, Bool.true_and] at q
      rw [List.length_map]
      exact q
    · have hc : decide (0 ≤ i) = false := by simpa using hc
      rw [hc, Bool.false_and] at q
      exact q
theorem place_in {xs : List Int} {i : Int} (h : (decide (0 ≤ i) && decide (i < (xs.length : Int))) = true) : ∃ x, plc xs i = some x := by
  rw [Bool.and_eq_true] at h
  obtain ⟨x, e, _⟩ := plc_some (of_decide_eq_true h.1) (of_decide_eq_true h.2)
  exact ⟨x, e⟩
theorem place_out {xs : List Int} {i : Int} (h : (decide (0 ≤ i) && decide (i < (xs.length : Int))) = false) : plc xs i = none := by
  cases e : plc xs i with
  | none => rfl
  | some x =>
    obtain ⟨_, h0, h1⟩ := plc_at e
    rw [decide_eq_true h0, decide_eq_true h1] at h
    cases h
theorem ok_are_alike (T : Txt P w K mg A) : FnOk P w K mg base CX0 2 A.a_are_alike A.d_are_alike ["levels", "other_levels", "first", "second"] (sp_are_alike K) := by
  refine (T.F_are_alike.ok (k := 0) sc_are_alike (fun vs H Q E h => ?_) (fun cdv Ar outer s H vs Q E hr h => ?_)).mono (by decide)
  · obtain ⟨a, b, xs, ys, i, j, rfl, _⟩ := h
    rfl
  · obtain ⟨a, b, xs, ys, i, j, rfl, hx, hy, q⟩ := h
    have hu := hu_of hr
    refine ⟨_, (pss_cons (ps_if (PW.pt (pw_or (pt_not (pt_chain op_le op_lt pe_int (pv 2) (pe_callB call_lenV rfl T.b_len boot_len (pa_cons (pv 0) pa_nil)))) (pw_or1 (pt_not (pt_chain op_le op_lt pe_int (pv 3) (pe_callB call_lenV rfl T.b_len boot_len (pa_cons (pv 1) pa_nil)))))))
      (pss_one (ps_ret pe_bl))
      pss_nil)
    (pss_one (ps_ret (pe_cmpR op_eq (pe_ix ix_list (pv 0) (pv 2) (fun _ _ => rfl)) (pe_ix ix_list (pv 1) (pv 3) (fun _ _ => rfl)) (nomark _))))), ?_⟩
    refine rd_place (n := 2) (m := 0) rfl rfl hx ?_
    rw [List.length_map]
    cases c1 : decide (0 ≤ i) && decide (i < (xs.length : Int)) with
    | false =>
      refine iteT (iteT ?_)
      unfold alike at q
      rw [place_out c1, eqo_n] at q
      exact q
    | true =>
      obtain ⟨x, ex⟩ := place_in c1
      refine iteF ?_
      refine rd_place (n := 3) (m := 1) rfl rfl hy ?_
      rw [List.length_map]
      cases c2 : decide (0 ≤ j) && decide (j < (ys.length : Int)) with
      | false =>
        refine iteT ?_
        unfold alike at q
        rw [place_out c2, eqo_n'] at q
        exact q
      | true =>
        obtain ⟨y, ey⟩ := place_in c2
        refine iteF ?_
        refine ⟨_, rfl, _, rfl, _, _, _, _, rfl, rfl, hx, (plc_at ex).1, _, rfl, _, rfl, _, _, _, _, rfl, rfl, hy, (plc_at ey).1, rfl, ?_⟩
        unfold alike at q
        rw [ex, ey] at q
        have e : decide (V.int x = V.int y) = eqo (some x) (some y) := by
          show _ = (x == y)
          by_cases h : x = y
          · subst h; simp
          · rw [beq_eq_false_iff_ne.mpr h, decide_eq_false fun z => h (V.int.inj z)]
        rw [e]
        exact q
theorem ok_led_to (T : Txt P w K mg A) : FnOk P w K mg base CX0 1 A.a_led_to A.d_led_to ["first", "second", "move"] sp_led_to := by
  refine T.F_led_to.ok sc_led_to (fun vs H Q E h => ?_) (fun cdv Ar outer s H vs Q E hr h => ?_)
  · obtain ⟨i, j, m, rfl, _⟩ := h
    rfl
  · obtain ⟨i, j, m, rfl, k⟩ := h
    have hu := hu_of hr
    refine ⟨_, (pss_one (ps_ret (pe_tup (pa_cons (pe_op op_add (pv 0) (pe_ix ix_gtabI (pe_glob (v := .ref A.g_STEPS) rfl T.m_STEPS rfl) (pe_ix ix_str (pv 2) pe_int (fun _ _ => rfl)) (fun _ _ => rfl))) (pa_cons (pe_op op_add (pv 1) (pe_ix ix_gtabI (pe_glob (v := .ref A.g_STEPS) rfl T.m_STEPS rfl) (pe_ix ix_str (pv 2) pe_int (fun _ _ => rfl)) (fun _ _ => rfl))) pa_nil))))), ?_⟩
    have z2 : 2 ≤ sizeLine := by decide
    refine ⟨_, rfl, _, rfl, _, _, _, rfl, rfl, z2, atI_nat (mv_0 m), _, _, _, _, rfl, rfl, T.t_STEPS, step_tab m.1, _, _, rfl, rfl, ?_⟩
    refine ⟨_, rfl, _, rfl, _, _, _, rfl, rfl, z2, atI_nat (mv_1 m), _, _, _, _, rfl, rfl, T.t_STEPS, step_tab m.2, _, _, rfl, rfl, ?_⟩
    exact ⟨z2, fun t ht => k t ht⟩
def sp_check_places (K : PySem.W.Frag) : Sp := fun vs H Q _ => ∃ a b xs ys i j, vs = [.ref a, .ref b, .int i, .int j] ∧ SqL K H a (List.map V.int xs) ∧ SqL K H b (List.map V.int ys) ∧ alike xs ys i j = true ∧ Q .non H
theorem ok_check_places (T : Txt P w K mg A) : FnOk P w K mg base CX0 3 A.a_check_places A.d_check_places ["levels", "other_levels", "first", "second"] (sp_check_places K) := by
  have G_is_place : FnOk P w K mg base CX0 1 A.a_is_place A.d_is_place ["levels", "value"] (sp_is_place K) := ok_is_place T
  have G_are_alike : FnOk P w K mg base CX0 2 A.a_are_alike A.d_are_alike ["levels", "other_levels", "first", "second"] (sp_are_alike K) := ok_are_alike T
  refine T.F_check_places.ok sc_check_places (fun vs H Q E h => ?_) (fun cdv Ar outer s H vs Q E hr h => ?_)
  · obtain ⟨a, b, xs, ys, i, j, rfl, _⟩ := h
    rfl
  · obtain ⟨a, b, xs, ys, i, j, rfl, hx, hy, hal, q0⟩ := h
    have hu := hu_of hr
    refine ⟨_, (pss_cons (ps_set (i := 4) sc_check_places.nd rfl (Or.inl rfl) (pe_and (pe_call G_is_place (hr.mono (by decide)) rfl T.m_is_place T.k_is_place T.B_is_place .nil pass0 (pa_cons (pv 0) (pa_cons (pv 2) pa_nil))) (pe_one (pe_call G_is_place (hr.mono (by decide)) rfl T.m_is_place T.k_is_place T.B_is_place .nil pass0 (pa_cons (pv 1) (pa_cons (pv 3) pa_nil))))))
    (pss_one (ps_if (PW.pt (pw_or (pt_not (pt_val (pv 4))) (pw_or1 (pt_not (pt_val (pe_call G_are_alike (hr.mono (by decide)) rfl T.m_are_alike T.k_are_alike T.B_are_alike .nil pass0 (pa_cons (pv 0) (pa_cons (pv 1) (pa_cons (pv 2) (pa_cons (pv 3) pa_nil))))))))))
      (pss_one ps_never)
      pss_nil))), ?_⟩
    refine ⟨_, rfl, _, rfl, a, xs, i, rfl, hx, _, rfl, ?_⟩
    cases c1 : decide (0 ≤ i) && decide (i < (xs.length : Int)) with
    | false =>
      have q : alike xs ys i j = false := by
        unfold alike
        rw [place_out c1, eqo_n]
      rw [hal] at q; cases q
    | true =>
      refine iteT ⟨_, rfl, _, rfl, b, ys, j, rfl, hy, ?_⟩
      cases c2 : decide (0 ≤ j) && decide (j < (ys.length : Int)) with
      | false =>
        have q : alike xs ys i j = false := by
          unfold alike
          rw [place_out c2, eqo_n']
        rw [hal] at q; cases q
      | true =>
        refine ⟨_, rfl, _, rfl, iteF ⟨_, rfl, _, rfl, _, rfl, _, rfl, a, b, xs, ys, i, j, rfl, hx, hy, _, rfl, ?_⟩⟩
        cases c3 : alike xs ys i j with
        | false => rw [hal] at c3; cases c3
        | true => exact iteF q0
def sp_can_be_done (K : PySem.W.Frag) : Sp := fun vs H Q _ => ∃ a b xs ys i j m, vs = [.ref a, .ref b, .int i, .int j, mvV m] ∧ SqL K H a (List.map V.int xs) ∧ SqL K H b (List.map V.int ys) ∧ ∀ H', Same H H' → Q (.bl (alike xs ys (i + stp m.1) (j + stp m.2))) H'
theorem ok_can_be_done (T : Txt P w K mg A) : FnOk P w K mg base CX0 3 A.a_can_be_done A.d_can_be_done ["levels", "other_levels", "first", "second", "move"] (sp_can_be_done K) := by
  have G_are_alike : FnOk P w K mg base CX0 2 A.a_are_alike A.d_are_alike ["levels", "other_levels", "first", "second"] (sp_are_alike K) := ok_are_alike T
  have G_led_to : FnOk P w K mg base CX0 1 A.a_led_to A.d_led_to ["first", "second", "move"] sp_led_to := ok_led_to T
  refine T.F_can_be_done.ok sc_can_be_done (fun vs H Q E h => ?_) (fun cdv Ar outer s H vs Q E hr h => ?_)
  · obtain ⟨a, b, xs, ys, i, j, m, rfl, _⟩ := h
    rfl
  · obtain ⟨a, b, xs, ys, i, j, m, rfl, hx, hy, k⟩ := h
    have hu := hu_of hr
    refine ⟨_, (pss_cons (ps_set (i := 5) sc_can_be_done.nd rfl (Or.inl rfl) (pe_call G_led_to (hr.mono (by decide)) rfl T.m_led_to T.k_led_to T.B_led_to .nil pass0 (pa_cons (pv 2) (pa_cons (pv 3) (pa_cons (pv 4) pa_nil)))))
    (pss_one (ps_ret (pe_call G_are_alike (hr.mono (by decide)) rfl T.m_are_alike T.k_are_alike T.B_are_alike .nil pass0 (pa_cons (pv 0) (pa_cons (pv 1) (pa_cons (pe_ix ix_tup (pv 5) pe_int (fun _ _ => rfl)) (pa_cons (pe_ix ix_tup (pv 5) pe_int (fun _ _ => rfl)) pa_nil)))))))), ?_⟩
    refine ⟨_, rfl, _, rfl, _, rfl, i, j, m, rfl, fun t ht => ?_⟩
    have s1 := same_upd (o := .tup (pt2 (adv (i, j) m))) ht
    have et : upd H t (.tup (pt2 (adv (i, j) m))) t = some (.tup (pt2 (adv (i, j) m))) := upd_same
    refine ⟨_, rfl, _, rfl, _, rfl, t, _, _, _, rfl, rfl, SqT.of et, atI_nat (j := 0) rfl, _, rfl, t, _, _, _, rfl, rfl, SqT.of et, atI_nat (j := 1) rfl, ?_⟩
    exact ⟨a, b, xs, ys, _, _, rfl, s1.seq hx, s1.seq hy, k _ s1⟩
end
end K08
set_option Elab.async false
set_option linter.all false
set_option maxRecDepth 100000
set_option maxHeartbeats 4000000
namespace K08
open PySem PySem.Spec PyProof.Rows L2 UM UT
def refs (N : List (Addr × Pr)) : List V := N.map fun t => V.ref t.1
structure EXS (xs ys : List Int) (H : Hp) (d q : Addr) (D : Dc) (F : List (Addr × Pr)) (D2 : Dc) (H2 : Hp) : Prop where
  kp : ∀ c o, c ≠ d → H c = some o → H2 c = some o
  q2 : H2 q = some (.lst (refs F))
  tf : ∀ t ∈ F, H2 t.1 = some (.tup (pt2 t.2))
  d2 : H2 d = some (.dT (kvD D2))
  g : GD xs ys D2
  ln : D2.length = D.length + F.length
  fk : ∀ t ∈ F, t.2 ∈ ks D2
  sub : ∀ p ∈ ks D, p ∈ ks D2
  new : ∀ p ∈ ks D2, p ∈ ks D ∨ ∃ t ∈ F, t.2 = p
theorem EXS.grow {xs ys : List Int} {H : Hp} {d q : Addr} {D : Dc} {F : List (Addr × Pr)} {D2 : Dc} {H2 H3 : Hp} (e : EXS xs ys H d q D F D2 H2) (s : Same H2 H3) : EXS xs ys H d q D F D2 H3 :=
  ⟨fun c o n h => s _ _ (e.kp c o n h), s _ _ e.q2, fun t h => s _ _ (e.tf t h), s _ _ e.d2, e.g, e.ln, e.fk, e.sub, e.new⟩
theorem EXS.more {xs ys : List Int} {H : Hp} {d q : Addr} {D : Dc} {F : List (Addr × Pr)} {D2 : Dc} {H2 : Hp} {t : Addr} {p : Pr} {m : Mv} (e : EXS xs ys H d q D F D2 H2) (hq : H q = none) (et : H2 t = some (.tup (pt2 (adv p m)))) (hp : p ∈ ks D2) (ha : alk xs ys (adv p m) = true) (hn : adv p m ∉ ks D2) :
    EXS xs ys H d q D (F ++ [(t, adv p m)]) (D2 ++ [(adv p m, some m)]) (upd (upd H2 d (.dT (kvD (D2 ++ [(adv p m, some m)])))) q (.lst (refs F ++ [.ref t]))) := by
  have nqd : q ≠ d := ne_of e.q2 e.d2 (fun z => nomatch z)
  have tup : ∀ (c : Addr) (zs : List V), H2 c = some (.tup zs) → upd (upd H2 d (.dT (kvD (D2 ++ [(adv p m, some m)])))) q (.lst (refs F ++ [.ref t])) c = some (.tup zs) := by
    intro c zs h
    rw [upd_ne (ne_of h e.q2 (fun z => nomatch z)), upd_ne (ne_of h e.d2 (fun z => nomatch z))]
    exact h
  refine ⟨fun c o n h => ?_, ?_, fun t' h => ?_, ?_, e.g.snoc hp ha hn, ?_, fun t' h => ?_, fun r h => ?_, fun r h => ?_⟩
  · rw [upd_ne (ne_of_none h hq), upd_ne n]
    exact e.kp c o n h
  · rw [upd_same]
    unfold refs
    rw [List.map_append]
    rfl
  · rcases List.mem_append.mp h with h | h
    · exact tup _ _ (e.tf t' h)
    · rw [List.mem_singleton] at h
      subst h
      exact tup _ _ et
  · rw [upd_ne nqd.symm, upd_same]
  · rw [List.length_append, List.length_append, List.length_singleton, List.length_singleton, e.ln]
    omega
  · rw [ks_snoc]
    rcases List.mem_append.mp h with h | h
    · exact List.mem_append_left _ (e.fk t' h)
    · rw [List.mem_singleton] at h
      subst h
      exact List.mem_append_right _ (List.mem_singleton.mpr rfl)
  · rw [ks_snoc]
    exact List.mem_append_left _ (e.sub r h)
  · rw [ks_snoc] at h
    rcases List.mem_append.mp h with h | h
    · rcases e.new r h with z | ⟨t', z1, z2⟩
      · exact .inl z
      · exact .inr ⟨t', List.mem_append_left _ z1, z2⟩
    · rw [List.mem_singleton] at h
      exact .inr ⟨(t, adv p m), List.mem_append_right _ (List.mem_singleton.mpr rfl), h.symm⟩
def CloN (xs ys : List Int) (N : List (Addr × Pr)) (D : Dc) : Prop := ∀ p ∈ ks D, (∃ t ∈ N, t.2 = p) ∨ ∀ m, alk xs ys (adv p m) = true → adv p m ∈ ks D
def sp_explored_next : Sp := fun vs H Q _ => ∃ a b n d xs ys N D, vs = [.ref a, .ref b, .ref n, .ref d] ∧ H a = some (.lst (List.map V.int xs)) ∧ H b = some (.lst (List.map V.int ys)) ∧ H n = some (.lst (refs N)) ∧ (∀ t ∈ N, H t.1 = some (.tup (pt2 t.2))) ∧ H d = some (.dT (kvD D)) ∧
  GD xs ys D ∧ alk xs ys (0, 0) = true ∧ (∀ t ∈ N, t.2 ∈ ks D) ∧ cnt xs ys ≤ 16000000 ∧ CloN xs ys N D ∧
  ∀ q F D2 H2, H q = none → EXS xs ys H d q D F D2 H2 → CloN xs ys F D2 → Q (.ref q) H2
section
variable {P : Program} {w : World} {K : PySem.W.Frag} {mg : Str → Option Value} {base : Heap} {A : Adr}
theorem all4_mem (m : Mv) : m ∈ all4 := by
  obtain ⟨a, b⟩ := m
  cases a <;> cases b <;> decide
theorem ok_explored_next (T : Txt P w K mg A) : FnOk P w K mg base CX0 3 A.a_explored_next A.d_explored_next ["levels", "other_levels", "newest", "came_by"] sp_explored_next := by
  have G_are_alike : FnOk P w K mg base CX0 2 A.a_are_alike A.d_are_alike ["levels", "other_levels", "first", "second"] (sp_are_alike K) := ok_are_alike T
  have G_led_to : FnOk P w K mg base CX0 1 A.a_led_to A.d_led_to ["first", "second", "move"] sp_led_to := ok_led_to T
  refine T.F_explored_next.ok sc_explored_next (fun vs H Q E h => ?_) (fun cdv Ar outer s H vs Q E hr h => ?_)
  · obtain ⟨a, b, n, d, xs, ys, N, D, rfl, _⟩ := h
    rfl
  · obtain ⟨a, b, n, d, xs, ys, N, D, rfl, ha, hb, hn, hN, hd, hg, h0, hND, hc, hcl, k⟩ := h
    have hu := hu_of hr
    refine ⟨_, (pss_cons (ps_set (i := 4) sc_explored_next.nd rfl (Or.inl rfl) (pe_lst pa_nil))
    (pss_cons (ps_for PassesOwn.never rfl (pi_list (pv 2)) (pg_name (i := 5) sc_explored_next.nd rfl (Or.inl rfl))
      (pss_one (ps_for PassesOwn.never rfl (pi_tup (pe_glob (v := .ref A.g_MOVES) rfl T.m_MOVES rfl)) (pg_name (i := 6) sc_explored_next.nd rfl (Or.inl rfl))
        (pss_cons (ps_set (i := 7) sc_explored_next.nd rfl (Or.inl rfl) (pe_call G_led_to (hr.mono (by decide)) rfl T.m_led_to T.k_led_to T.B_led_to .nil pass0 (pa_cons (pe_ix ix_tup (pv 5) pe_int (fun _ _ => rfl)) (pa_cons (pe_ix ix_tup (pv 5) pe_int (fun _ _ => rfl)) (pa_cons (pv 6) pa_nil)))))
        (pss_one (ps_if (PW.pt (pw_and (pt_cmp (pc_dnotin hu (pv 7) (pv 3))) (pw_and1 (pt_val (pe_call G_are_alike (hr.mono (by decide)) rfl T.m_are_alike T.k_are_alike T.B_are_alike .nil pass0 (pa_cons (pv 0) (pa_cons (pv 1) (pa_cons (pe_ix ix_tup (pv 7) pe_int (fun _ _ => rfl)) (pa_cons (pe_ix ix_tup (pv 7) pe_int (fun _ _ => rfl)) pa_nil)))))))))
          (pss_cons (ps_dput hu (pv 3) (pv 7) (pv 6) rfl)
          (pss_one (ps_expr (pe_bm PySem.F.plainAttrs_list PySem.F.slot_list_append PySem.F.type_list_append mt_append (pv 4) (pa_cons (pv 7) pa_nil)))))
          pss_nil))))))
    (pss_one (ps_ret (pv 4))))), ?_⟩
    have nad : a ≠ d := ne_of ha hd (fun z => nomatch z)
    have nbd : b ≠ d := ne_of hb hd (fun z => nomatch z)
    have nnd : n ≠ d := ne_of hn hd (fun z => nomatch z)
    have ntd : ∀ t ∈ N, t.1 ≠ d := fun t h => ne_of (hN t h) hd (fun z => nomatch z)
    refine ⟨Nat.zero_le _, fun q hq => ?_⟩
    have nqd : d ≠ q := ne_of_none hd hq
    have e0 : EXS xs ys H d q D [] D (upd H q (.lst [])) := ⟨fun c o _ h => same_upd hq _ _ h, upd_same, (fun t h => nomatch h), same_upd hq _ _ hd, hg, rfl, (fun t h => nomatch h), fun p h => h, fun p h => .inl h⟩
    refine ⟨_, rfl, n, rfl, ⟨_, SqL.of (e0.kp _ _ nnd hn)⟩, for_each (ItOf.list K n (refs N)) (fun rest σ H2 => ∃ (N1 N2 : List (Addr × Pr)) (F : List (Addr × Pr)) (D2 : Dc) (y1 y2 y3 : Option V), N = N1 ++ N2 ∧ rest = refs N2 ∧
      σ = [some (.ref a), some (.ref b), some (.ref n), some (.ref d), some (.ref q), y1, y2, y3] ∧ EXS xs ys H d q D F D2 H2 ∧ ∀ t ∈ N1, ∀ m, alk xs ys (adv t.2 m) = true → adv t.2 m ∈ ks D2)
      ⟨[], N, [], D, none, none, none, rfl, rfl, rfl, e0, (fun t h => nomatch h)⟩ (fun r σ H2 ⟨_, _, _, _, _, _, _, _, _, _, e, _⟩ => SqL.of (e.kp _ _ nnd hn)) ?_ ?_⟩
    · rintro x rest σ H2 ⟨N1, N2, F, D2, y1, y2, y3, eN, er, rfl, ex, hd1⟩
      cases N2 with
      | nil => cases er
      | cons t0 N2 =>
        obtain ⟨t, p⟩ := t0
        obtain ⟨rfl, rfl⟩ := List.cons.inj er
        have htN : (t, p) ∈ N := by rw [eN]; exact List.mem_append_right _ List.mem_cons_self
        refine ⟨_, rfl, ⟨_, T.t_MOVES _⟩, for_each (ItOf.tup K A.g_MOVES _) (fun rest σ H3 => ∃ (m1 m2 : List Mv) (F : List (Addr × Pr)) (D3 : Dc) (y2 y3 : Option V), all4 = m1 ++ m2 ∧ rest = m2.map mvV ∧
          σ = [some (.ref a), some (.ref b), some (.ref n), some (.ref d), some (.ref q), some (.ref t), y2, y3] ∧ EXS xs ys H d q D F D3 H3 ∧ (∀ r ∈ ks D2, r ∈ ks D3) ∧ ∀ m ∈ m1, alk xs ys (adv p m) = true → adv p m ∈ ks D3)
          ⟨[], all4, F, D2, _, _, rfl, all4_mv.symm, rfl, ex, fun r h => h, (fun m h => nomatch h)⟩ (fun r σ H3 _ => T.t_MOVES H3) ?_ ?_⟩
        · rintro x rest σ H3 ⟨m1, m2, F3, D3, y2, y3, em, er, rfl, ex3, hs3, hm3⟩
          cases m2 with
          | nil => cases er
          | cons m m2 =>
            obtain ⟨rfl, rfl⟩ := List.cons.inj er
            have em' : all4 = (m1 ++ [m]) ++ m2 := by rw [em, List.append_assoc]; rfl
            have et : H3 t = some (.tup (pt2 p)) := ex3.kp _ _ (ntd _ htN) (hN _ htN)
            have hp3 : p ∈ ks D3 := ex3.sub p (hND _ htN)
            refine ⟨_, rfl, t, _, _, _, rfl, rfl, SqT.of et, atI_nat (j := 0) rfl, _, rfl, t, _, _, _, rfl, rfl, SqT.of et, atI_nat (j := 1) rfl, _, rfl, p.1, p.2, m, rfl, fun t1 ht1 => ?_⟩
            have s4 := same_upd (o := .tup (pt2 (adv (p.1, p.2) m))) ht1
            have et1 : upd H3 t1 (.tup (pt2 (adv (p.1, p.2) m))) t1 = some (.tup (pt2 (adv p m))) := upd_same
            have ex4 := ex3.grow s4
            generalize upd H3 t1 (.tup (pt2 (adv (p.1, p.2) m))) = H4 at s4 et1 ex4
            refine ⟨_, rfl, _, rfl, d, _, rfl, DGet.t (k := pkey (adv p m)) ex4.d2 et1, _, rfl, ?_⟩
            rw [get_kvD]
            by_cases hk : adv p m ∈ ks D3
            · rw [decide_eq_true hk]
              refine iteF (iteF ?_)
              exact ⟨m1 ++ [m], m2, F3, D3, _, _, em', rfl, rfl, ex4, hs3, fun m' h z => by
                rcases List.mem_append.mp h with h | h
                · exact hm3 m' h z
                · rw [List.mem_singleton] at h
                  rw [h]; exact hk⟩
            · rw [decide_eq_false hk]
              refine iteT ?_
              have ea : H4 a = some (.lst (List.map V.int xs)) := ex4.kp _ _ nad ha
              have eb : H4 b = some (.lst (List.map V.int ys)) := ex4.kp _ _ nbd hb
              refine ⟨_, rfl, _, rfl, _, rfl, t1, _, _, _, rfl, rfl, SqT.of et1, atI_nat (j := 0) rfl, _, rfl, t1, _, _, _, rfl, rfl, SqT.of et1, atI_nat (j := 1) rfl, ?_⟩
              refine ⟨a, b, xs, ys, (adv p m).1, (adv p m).2, rfl, SqL.of ea, SqL.of eb, _, rfl, ?_⟩
              cases hal : alike xs ys (adv p m).1 (adv p m).2 with
              | false =>
                refine iteF ?_
                exact ⟨m1 ++ [m], m2, F3, D3, _, _, em', rfl, rfl, ex4, hs3, fun m' h z => by
                  rcases List.mem_append.mp h with h | h
                  · exact hm3 m' h z
                  · rw [List.mem_singleton] at h
                    rw [h] at z
                    have z : alike xs ys (adv p m).1 (adv p m).2 = true := z
                    rw [hal] at z
                    cases z⟩
              | true =>
                refine iteT ?_
                have ln := ex4.ln
                have lg := (ex4.g.snoc hp3 hal hk).len h0
                rw [List.length_append, List.length_singleton] at lg
                have exm := ex4.more hq et1 hp3 hal hk
                refine ⟨_, rfl, _, rfl, _, rfl, d, _, rfl, DPut.t (k := pkey (adv p m)) ex4.d2 et1 (by rw [kvD_len]; exact smallM (by omega)), ?_⟩
                have ep : putK (kvD D3) (pkey (adv p m)) (mvV m) = kvD (D3 ++ [(adv p m, some m)]) := put_kvD (some m) hk
                rw [ep]
                have eq5 : upd H4 d (.dT (kvD (D3 ++ [(adv p m, some m)]))) q = some (.lst (refs F3)) := by rw [upd_ne nqd.symm]; exact ex4.q2
                refine ⟨_, rfl, .inl ⟨rfl, _, SqL.of eq5⟩, _, rfl, q, _, _, rfl, rfl, eq5, (by unfold refs; rw [List.length_map]; exact smallM (by omega)), ?_⟩
                exact ⟨m1 ++ [m], m2, F3 ++ [(t1, adv p m)], D3 ++ [(adv p m, some m)], _, _, em', rfl, rfl, exm, fun r h => by rw [ks_snoc]; exact List.mem_append_left _ (hs3 r h), fun m' h z => by
                  rw [ks_snoc]
                  rcases List.mem_append.mp h with h | h
                  · exact List.mem_append_left _ (hm3 m' h z)
                  · rw [List.mem_singleton] at h
                    rw [h]
                    exact List.mem_append_right _ (List.mem_singleton.mpr rfl)⟩
        · rintro σ H3 ⟨m1, m2, F3, D3, y2, y3, em, er, rfl, ex3, hs3, hm3⟩
          cases m2 with
          | cons m m2 => cases er
          | nil =>
            rw [List.append_nil] at em
            exact ⟨N1 ++ [(t, p)], N2, F3, D3, _, _, _, by rw [eN, List.append_assoc]; rfl, rfl, rfl, ex3, fun t' h m z => by
              rcases List.mem_append.mp h with h | h
              · exact hs3 _ (hd1 t' h m z)
              · rw [List.mem_singleton] at h
                subst h
                exact hm3 m (by rw [← em]; exact all4_mem m) z⟩
    · rintro σ H2 ⟨N1, N2, F, D2, y1, y2, y3, eN, er, rfl, ex, hd1⟩
      cases N2 with
      | cons t0 N2 => cases er
      | nil =>
        rw [List.append_nil] at eN
        refine ⟨_, rfl, k q F D2 H2 hq ex fun p hp => ?_⟩
        rcases ex.new p hp with h | h
        · right
          intro m z
          rcases hcl p h with ⟨t, ht, rfl⟩ | hdn
          · exact hd1 t (by rw [← eN]; exact ht) m z
          · exact ex.sub _ (hdn m z)
        · exact .inl h
def sp_explored : Sp := fun vs H Q _ => ∃ a b g xs ys G, vs = [.ref a, .ref b, .ref g] ∧ H a = some (.lst (List.map V.int xs)) ∧ H b = some (.lst (List.map V.int ys)) ∧ H g = some (.tup (pt2 G)) ∧ alk xs ys (0, 0) = true ∧ cnt xs ys ≤ 16000000 ∧
  ∀ d D H', H d = none → Same H H' → H' d = some (.dT (kvD D)) → GD xs ys D → (G ∈ ks D ∨ Clo xs ys (ks D)) → Q (.ref d) H'
theorem ok_explored (T : Txt P w K mg A) : FnOk P w K mg base CX0 4 A.a_explored A.d_explored ["levels", "other_levels", "goal"] sp_explored := by
  have G_explored_next : FnOk P w K mg base CX0 3 A.a_explored_next A.d_explored_next ["levels", "other_levels", "newest", "came_by"] sp_explored_next := ok_explored_next T
  refine T.F_explored.ok sc_explored (fun vs H Q E h => ?_) (fun cdv Ar outer s H vs Q E hr h => ?_)
  · obtain ⟨a, b, g, xs, ys, G, rfl, _⟩ := h
    rfl
  · obtain ⟨a, b, g, xs, ys, G, rfl, ha, hb, hG, h0, hc, k⟩ := h
    have hu := hu_of hr
    refine ⟨_, (pss_cons (ps_set (i := 3) sc_explored.nd rfl (Or.inl rfl) (pe_dispT (hu_of hr) (pe_tup (pa_cons pe_int (pa_cons pe_int pa_nil))) pe_non))
    (pss_cons (ps_set (i := 4) sc_explored.nd rfl (Or.inl rfl) (pe_lst (pa_cons (pe_tup (pa_cons pe_int (pa_cons pe_int pa_nil))) pa_nil)))
    (pss_cons (ps_while PassesOwn.never (PW.pt (pw_and (pt_cmpR op_gt (pe_callB call_lenV rfl T.b_len boot_len (pa_cons (pv 4) pa_nil)) pe_int (nomark _)) (pw_and1 (pt_cmp (pc_dnotin hu (pv 2) (pv 3))))))
      (pss_one (ps_set (i := 4) sc_explored.nd rfl (Or.inl rfl) (pe_call G_explored_next (hr.mono (by decide)) rfl T.m_explored_next T.k_explored_next T.B_explored_next .nil pass0 (pa_cons (pv 0) (pa_cons (pv 1) (pa_cons (pv 4) (pa_cons (pv 3) pa_nil))))))))
    (pss_one (ps_ret (pv 3)))))), ?_⟩
    have z2 : 2 ≤ sizeLine := by decide
    have z1 : 1 ≤ sizeLine := by decide
    refine fun d hd => ⟨z2, fun t0 ht0 => ?_⟩
    have S0 := same_upd (o := .dT []) hd
    have S1 := same_upd (o := .tup [V.int 0, V.int 0]) ht0
    have ed1 := S1 d _ upd_same
    have et0 : upd (upd H d (.dT [])) t0 (.tup [V.int 0, V.int 0]) t0 = some (.tup [V.int 0, V.int 0]) := upd_same
    have s1 := S0.trans S1
    generalize upd (upd H d (.dT [])) t0 (.tup [V.int 0, V.int 0]) = H1 at ed1 et0 s1
    refine ⟨t0, pkey (0, 0), rfl, et0, ed1, ?_⟩
    have ed2 : upd H1 d (.dT [(pkey (0, 0), V.non)]) d = some (.dT (kvD [((0, 0), none)])) := upd_same
    have s2 : Same H (upd H1 d (.dT [(pkey (0, 0), V.non)])) := s1.upd hd rfl
    generalize upd H1 d (.dT [(pkey (0, 0), V.non)]) = H2 at ed2 s2
    refine ⟨z2, fun t1 ht1 => ⟨z1, fun n hn => ?_⟩⟩
    have T1 := same_upd (o := .tup [V.int 0, V.int 0]) ht1
    have T2 := same_upd (o := .lst [V.ref t1]) hn
    have et1 := T2 t1 _ upd_same
    have en : upd (upd H2 t1 (.tup [V.int 0, V.int 0])) n (.lst [V.ref t1]) n = some (.lst (refs [(t1, (0, 0))])) := upd_same
    have ed3 := T2 _ _ (T1 _ _ ed2)
    have s3 := (s2.trans T1).trans T2
    generalize upd (upd H2 t1 (.tup [V.int 0, V.int 0])) n (.lst [V.ref t1]) = H3 at et1 en ed3 s3
    refine ⟨fun mm σ H4 => ∃ (n : Addr) (N : List (Addr × Pr)) (D : Dc), σ = [some (.ref a), some (.ref b), some (.ref g), some (.ref d), some (.ref n)] ∧ Same H H4 ∧ H4 n = some (.lst (refs N)) ∧ (∀ t ∈ N, H4 t.1 = some (.tup (pt2 t.2))) ∧ H4 d = some (.dT (kvD D)) ∧ GD xs ys D ∧ (∀ t ∈ N, t.2 ∈ ks D) ∧ CloN xs ys N D ∧
      cnt xs ys - D.length + (if N.length = 0 then 0 else 1) ≤ mm, ⟨_, n, [(t1, (0, 0))], [((0, 0), none)], rfl, s3, en, ?_, ed3, .base, ?_, ?_, Nat.le_refl _⟩, ?_⟩
    · intro t ht
      rw [List.mem_singleton] at ht
      subst ht
      exact et1
    · intro t ht
      rw [List.mem_singleton] at ht
      subst ht
      exact List.mem_singleton.mpr rfl
    · intro p hp
      exact .inl ⟨(t1, (0, 0)), List.mem_singleton.mpr rfl, (List.mem_singleton.mp hp).symm⟩
    · rintro mm σ H4 ⟨n, N, D, rfl, s4, en, hN, ed, hg, hND, hcl, hmm⟩
      refine ⟨_, rfl, _, _, rfl, .inl ⟨_, SqL.of en, rfl⟩, _, _, rfl, rfl, _, rfl, ?_⟩
      have lN : (refs N).length = N.length := List.length_map _
      rw [lN]
      by_cases hN0 : N.length = 0
      · rw [decide_eq_false (by omega)]
        refine iteF (iteF ⟨_, rfl, ?_⟩)
        refine k d D H4 hd s4 ed hg (.inr fun p hp m z => ?_)
        rcases hcl p hp with ⟨t, ht, _⟩ | h
        · rw [List.length_eq_zero_iff.mp hN0] at ht
          cases ht
        · exact h m z
      · rw [decide_eq_true (by omega)]
        refine iteT ⟨_, rfl, _, rfl, d, _, rfl, DGet.t (k := pkey G) ed (s4 _ _ hG), _, rfl, ?_⟩
        rw [get_kvD]
        by_cases hk : G ∈ ks D
        · rw [decide_eq_true hk]
          exact iteF ⟨_, rfl, k d D H4 hd s4 ed hg (.inl hk)⟩
        · rw [decide_eq_false hk]
          refine iteT ⟨fun σ' H' => ∃ (n : Addr) (N : List (Addr × Pr)) (D' : Dc), σ' = [some (.ref a), some (.ref b), some (.ref g), some (.ref d), some (.ref n)] ∧ Same H H' ∧ H' n = some (.lst (refs N)) ∧ (∀ t ∈ N, H' t.1 = some (.tup (pt2 t.2))) ∧ H' d = some (.dT (kvD D')) ∧ GD xs ys D' ∧ (∀ t ∈ N, t.2 ∈ ks D') ∧ CloN xs ys N D' ∧ D'.length = D.length + N.length, ?_, ?_⟩
          · rintro σ' H' ⟨n', N', D', rfl, s', en', hN', ed', hg', hND', hcl', hl'⟩
            refine ⟨_, ?_, n', N', D', rfl, s', en', hN', ed', hg', hND', hcl', Nat.le_refl _⟩
            have l1 := hg'.len h0
            rw [if_neg hN0] at hmm
            by_cases hN1 : N'.length = 0
            · rw [if_pos hN1]
              omega
            · rw [if_neg hN1]
              omega
          · refine ⟨_, rfl, _, rfl, _, rfl, _, rfl, a, b, n, d, xs, ys, N, D, rfl, s4 _ _ ha, s4 _ _ hb, en, hN, ed, hg, h0, hND, hc, hcl, fun q F D2 H5 hq ex hclF => ?_⟩
            exact ⟨q, F, D2, rfl, fun c o h => ex.kp c o (ne_of_none h hd) (s4 _ _ h), ex.q2, ex.tf, ex.d2, ex.g, ex.fk, hclF, ex.ln⟩
def sp_moves_to : Sp := fun vs H Q _ => ∃ g d xs ys G D, vs = [.ref g, .ref d] ∧ H g = some (.tup (pt2 G)) ∧ H d = some (.dT (kvD D)) ∧ GD xs ys D ∧ alk xs ys (0, 0) = true ∧ cnt xs ys ≤ 16000000 ∧ G ∈ ks D ∧
  ∀ p ms H', H p = none → Same H H' → H' p = some (.lst (List.map mvV ms)) → wlk xs ys (0, 0) ms = some G → ms.length ≤ cnt xs ys → (trc (0, 0) ms).Nodup → Q (.ref p) H'
theorem ok_moves_to (T : Txt P w K mg A) : FnOk P w K mg base CX0 2 A.a_moves_to A.d_moves_to ["goal", "came_by"] sp_moves_to := by
  have G_led_to : FnOk P w K mg base CX0 1 A.a_led_to A.d_led_to ["first", "second", "move"] sp_led_to := ok_led_to T
  refine T.F_moves_to.ok sc_moves_to (fun vs H Q E h => ?_) (fun cdv Ar outer s H vs Q E hr h => ?_)
  · obtain ⟨g, d, xs, ys, G, D, rfl, _⟩ := h
    rfl
  · obtain ⟨g, d, xs, ys, G, D, rfl, hG, hd, hg, h0, hc, hGD, k⟩ := h
    have hu := hu_of hr
    refine ⟨_, (pss_cons (ps_set (i := 2) sc_moves_to.nd rfl (Or.inl rfl) (pe_lst pa_nil))
    (pss_cons (ps_set (i := 3) sc_moves_to.nd rfl (Or.inl rfl) (pv 0))
    (pss_cons (ps_while PassesOwn.never (pt_cmpR (op_neT hr.units0) (pv 3) (pe_tup (pa_cons pe_int (pa_cons pe_int pa_nil))) (nomark _))
      (pss_cons (ps_set (i := 4) sc_moves_to.nd rfl (Or.inl rfl) (pe_dget hu (pv 1) (pv 3) (fun _ _ => rfl)))
      (pss_cons (ps_expr (pe_bm PySem.F.plainAttrs_list PySem.F.slot_list_append PySem.F.type_list_append mt_append (pv 2) (pa_cons (pv 4) pa_nil)))
      (pss_one (ps_set (i := 3) sc_moves_to.nd rfl (Or.inl rfl) (pe_call G_led_to (hr.mono (by decide)) rfl T.m_led_to T.k_led_to T.B_led_to .nil pass0 (pa_cons (pe_ix ix_tup (pv 3) pe_int (fun _ _ => rfl)) (pa_cons (pe_ix ix_tup (pv 3) pe_int (fun _ _ => rfl)) (pa_cons (pe_ix ix_gtab (pe_glob (v := .ref A.g_TAKEN_BACK) rfl T.m_TAKEN_BACK rfl) (pv 4) (fun _ _ => rfl)) pa_nil)))))))))
    (pss_one (ps_ret (pe_rev (pv 2))))))), ?_⟩
    have z2 : 2 ≤ sizeLine := by decide
    have lD := hg.len h0
    refine ⟨Nat.zero_le _, fun l hl => ?_⟩
    refine ⟨_, rfl, ?_⟩
    refine ⟨fun mm σ H4 => ∃ (t : Addr) (p : Pr) (ms : List Mv) (y : Option V), σ = [some (.ref g), some (.ref d), some (.ref l), some (.ref t), y] ∧ Same H H4 ∧ H4 t = some (.tup (pt2 p)) ∧ H4 l = some (.lst (List.map mvV ms)) ∧ p ∈ ks D ∧ wlk xs ys p ms.reverse = some G ∧ ms.length + (ks D).idxOf p ≤ D.length ∧ ((trc p ms.reverse).Nodup ∧ ∀ q ∈ trc p ms.reverse, (ks D).idxOf p ≤ (ks D).idxOf q) ∧ mm = (ks D).idxOf p,
      ⟨_, g, G, [], none, rfl, same_upd hl, same_upd hl _ _ hG, upd_same, hGD, rfl, ?_, ⟨List.nodup_cons.mpr ⟨(fun z => nomatch z), List.nodup_nil⟩, fun q hq => by rw [List.mem_singleton.mp hq]; exact Nat.le_refl _⟩, rfl⟩, ?_⟩
    · have := List.idxOf_lt_length_of_mem hGD
      rw [List.length_map] at this
      rw [List.length_nil]
      omega
    · rintro mm σ H4 ⟨t, p, ms, y, rfl, s4, et, el, hp, hw, hlen, hnd, rfl⟩
      refine ⟨_, rfl, z2, fun t0 ht0 => ?_⟩
      have S0 := same_upd (o := .tup [V.int 0, V.int 0]) ht0
      have et0 : upd H4 t0 (.tup [V.int 0, V.int 0]) t0 = some (.tup (pt2 (0, 0))) := upd_same
      have et := S0 _ _ et
      have el := S0 _ _ el
      have s5 := s4.trans S0
      generalize upd H4 t0 (.tup [V.int 0, V.int 0]) = H5 at et0 et el s5
      refine ⟨t, t0, _, _, rfl, rfl, SqT.of et, SqT.of et0, rfl, rfl, _, rfl, ?_⟩
      rw [eqL_pt]
      by_cases hp0 : p = (0, 0)
      · rw [decide_eq_true hp0]
        refine iteF ?_
        refine ⟨_, rfl, .inr ⟨l, _, rfl, SqL.of el, fun r hr' => ?_⟩⟩
        rw [← List.map_reverse]
        refine k r ms.reverse _ (s5.free hr') (s5.upd (s5.free hr') rfl) upd_same (by rw [← hp0]; exact hw) ?_ (by rw [← hp0]; exact hnd.1)
        rw [List.length_reverse]
        omega
      · rw [decide_eq_false hp0]
        obtain ⟨m, hm, hb, hi⟩ := hg.back hp hp0
        have hal := hg.alk h0 p hp
        refine iteT ⟨fun σ' H' => ∃ (t : Addr) (p' : Pr) (ms : List Mv) (y : Option V), σ' = [some (.ref g), some (.ref d), some (.ref l), some (.ref t), y] ∧ Same H H' ∧ H' t = some (.tup (pt2 p')) ∧ H' l = some (.lst (List.map mvV ms)) ∧ p' ∈ ks D ∧ wlk xs ys p' ms.reverse = some G ∧ ms.length + (ks D).idxOf p' ≤ D.length ∧ ((trc p' ms.reverse).Nodup ∧ ∀ q ∈ trc p' ms.reverse, (ks D).idxOf p' ≤ (ks D).idxOf q) ∧ (ks D).idxOf p' < (ks D).idxOf p, ?_, ?_⟩
        · rintro σ' H' ⟨t', p', ms', y', rfl, s', et', el', hp', hw', hl', hn', hlt⟩
          exact ⟨_, hlt, t', p', ms', y', rfl, s', et', el', hp', hw', hl', hn', rfl⟩
        · have ev : valV (kvD D) (pkey p) = some (mvV m) := by rw [val_kvD, hm]; rfl
          refine ⟨_, rfl, _, rfl, d, _, rfl, ev ▸ DGet.t (k := pkey p) (s5 _ _ hd) et, ?_⟩
          have lm : (List.map mvV ms).length < sizeLine := by rw [List.length_map]; exact smallM (by omega)
          refine ⟨_, rfl, .inl ⟨rfl, _, SqL.of el⟩, _, rfl, l, _, _, rfl, rfl, el, lm, ?_⟩
          have ntl : t ≠ l := ne_of et el (fun z => nomatch z)
          have et6 : upd H5 l (.lst (List.map mvV ms ++ [mvV m])) t = some (.tup (pt2 p)) := by rw [upd_ne ntl]; exact et
          have el6 : upd H5 l (.lst (List.map mvV ms ++ [mvV m])) l = some (.lst (List.map mvV (ms ++ [m]))) := by rw [upd_same, List.map_append]; rfl
          have s6 : Same H (upd H5 l (.lst (List.map mvV ms ++ [mvV m]))) := s5.upd hl rfl
          generalize upd H5 l (.lst (List.map mvV ms ++ [mvV m])) = H6 at et6 el6 s6
          refine ⟨_, rfl, t, _, _, _, rfl, rfl, SqT.of et6, atI_nat (j := 0) rfl, _, rfl, t, _, _, _, rfl, rfl, SqT.of et6, atI_nat (j := 1) rfl, ?_⟩
          refine ⟨_, rfl, _, _, _, _, rfl, rfl, T.t_TAKEN_BACK, back_tab m, ?_⟩
          refine ⟨p.1, p.2, bk m, rfl, fun t1 ht1 => ?_⟩
          refine ⟨t1, adv p (bk m), ms ++ [m], _, rfl, s6.trans (same_upd ht1), upd_same, same_upd ht1 _ _ el6, hb, ?_, ?_, ?_, hi⟩
          · rw [List.reverse_append, List.reverse_singleton, List.singleton_append]
            show (if UM.alk xs ys (adv (adv p (bk m)) m) = true then wlk xs ys (adv (adv p (bk m)) m) ms.reverse else none) = some G
            rw [adv_bk', if_pos hal]
            exact hw
          · rw [List.length_append, List.length_singleton]
            omega
          · rw [List.reverse_append, List.reverse_singleton, List.singleton_append]
            have et : trc (adv p (bk m)) (m :: ms.reverse) = adv p (bk m) :: trc p ms.reverse := by
              show adv p (bk m) :: trc (adv (adv p (bk m)) m) ms.reverse = _
              rw [adv_bk']
            rw [et]
            refine ⟨List.nodup_cons.mpr ⟨fun z => ?_, hnd.1⟩, fun q hq => ?_⟩
            · have := hnd.2 _ z
              omega
            · rcases List.mem_cons.mp hq with e | hq
              · rw [e]; exact Nat.le_refl _
              · have := hnd.2 q hq
                omega
end
end K08
set_option Elab.async false
set_option linter.all false
set_option maxRecDepth 100000
set_option maxHeartbeats 4000000
namespace K08
open PySem PySem.Spec PyProof.Rows L2 UM UT
theorem moves_in (m : Mv) : inV (mvV m) [.str "ff", .str "fb", .str "bf", .str "bb"] = true := by
  obtain ⟨a, b⟩ := m
  cases a <;> cases b <;> decide +kernel
def inr (xs : List Int) (i : Int) : Bool := decide (0 ≤ i) && decide (i < (xs.length : Int))
def inP (xs ys : List Int) (p : Pr) : Bool := inr xs p.1 && inr ys p.2
def noOut (xs ys : List Int) (Ps : List Pr) (p : Pr) : Bool := all4.all fun m => !(!decide (adv p m ∈ Ps) && alk xs ys (adv p m))
def shutB (xs ys : List Int) (Ps : List Pr) (g : Pr) : Bool := Ps.all (inP xs ys) && (decide ((0, 0) ∈ Ps) && (!decide (g ∈ Ps) && Ps.all (noOut xs ys Ps)))
def prOf (N : List (Addr × Pr)) : V → Pr
  | .ref a => ((N.find? fun t => decide (t.1 = a)).map (·.2)).getD (0, 0)
  | _ => (0, 0)
theorem pt2_inj {p q : Pr} (h : pt2 p = pt2 q) : p = q := by
  unfold pt2 at h
  injection h with h1 h2
  injection h2 with h2 _
  exact Prod.ext (V.int.inj h1) (V.int.inj h2)
theorem prOf_mem {H : Hp} {N : List (Addr × Pr)} (h : ∀ t ∈ N, H t.1 = some (.tup (pt2 t.2))) {t : Addr × Pr} (ht : t ∈ N) : prOf N (.ref t.1) = t.2 := by
  unfold prOf
  cases e : N.find? (fun u => decide (u.1 = t.1)) with
  | none =>
    have := List.find?_eq_none.mp e t ht
    simp at this
  | some u =>
    have e1 : u.1 = t.1 := by simpa using List.find?_some e
    have e2 := h u (List.mem_of_find?_eq_some e)
    rw [e1, h t ht] at e2
    show ((N.find? (fun u => decide (u.1 = t.1))).map (·.2)).getD (0, 0) = t.2
    rw [e]
    exact (pt2_inj (HO.tup.inj (Option.some.inj e2))).symm
theorem all_prOf {H : Hp} {N : List (Addr × Pr)} (h : ∀ t ∈ N, H t.1 = some (.tup (pt2 t.2))) (f : Pr → Bool) : (refs N).map (fun v => V.bl (f (prOf N v))) = ((N.map fun t => f t.2)).map V.bl := by
  unfold refs
  rw [List.map_map, List.map_map]
  refine List.map_congr_left fun t ht => ?_
  show V.bl (f (prOf N (.ref t.1))) = V.bl (f t.2)
  rw [prOf_mem h ht]
theorem all_map2 {N : List (Addr × Pr)} (f : Pr → Bool) : (N.map fun t => f t.2).all id = (N.map (·.2)).all f := by
  rw [List.all_map, List.all_map]
  rfl
theorem rel_refs {α : Type} (f : α → Pr) (H : Hp) : ∀ (L : List α) (ys : List V), ys.length = L.length → (∀ (i : Nat) a y, L[i]? = some a → ys[i]? = some y → ∃ q, y = .ref q ∧ H q = some (.tup (pt2 (f a)))) →
    ∃ M : List (Addr × Pr), ys = refs M ∧ M.map (·.2) = L.map f ∧ ∀ t ∈ M, H t.1 = some (.tup (pt2 t.2)) := by
  intro L
  induction L with
  | nil =>
    intro ys hl _
    cases ys with
    | nil => exact ⟨[], rfl, rfl, fun t h => nomatch h⟩
    | cons y ys => cases hl
  | cons a L ih =>
    intro ys hl h
    cases ys with
    | nil => cases hl
    | cons y ys =>
      obtain ⟨M, e1, e2, e3⟩ := ih ys (Nat.succ.inj hl) fun i a y h1 h2 => h (i + 1) a y h1 h2
      obtain ⟨q, rfl, eq⟩ := h 0 a y rfl rfl
      refine ⟨(q, f a) :: M, by rw [e1]; rfl, by rw [List.map_cons, List.map_cons, e2], fun t ht => ?_⟩
      rcases List.mem_cons.mp ht with rfl | ht
      · exact eq
      · exact e3 t ht
def knK (Ps : List Pr) : List (List Key × V) := Ps.foldl (fun acc p => putK acc (pkey p) (.bl true)) []
theorem knK_get (Ps : List Pr) (p : Pr) : (valV (knK Ps) (pkey p)).isSome = decide (p ∈ Ps) := by
  have gen : ∀ (Ps : List Pr) (acc : List (List Key × V)), (valV (Ps.foldl (fun acc p => putK acc (pkey p) (.bl true)) acc) (pkey p)).isSome = ((valV acc (pkey p)).isSome || decide (p ∈ Ps)) := by
    intro Ps
    induction Ps with
    | nil => intro acc; simp
    | cons q Ps ih =>
      intro acc
      rw [List.foldl_cons, ih, valV_put]
      by_cases h : p = q
      · subst h; simp
      · rw [if_neg (fun z => h (pkey_inj z))]
        simp [h]
  unfold knK
  rw [gen]
  rfl
theorem known_ts (H : Hp) : ∀ (N : List (Addr × Pr)) (ys : List V), ys.length = N.length → (∀ (i : Nat) t y, N[i]? = some t → ys[i]? = some y → ∃ q, y = .ref q ∧ H q = some (.tup [.ref t.1, .bl true])) → (∀ t ∈ N, H t.1 = some (.tup (pt2 t.2))) →
    ∃ ts : List (Addr × Addr × List Key × V), ys = ts.map (fun t => V.ref t.1) ∧ (∀ t ∈ ts, H t.1 = some (.tup [.ref t.2.1, t.2.2.2]) ∧ H t.2.1 = some (.tup (t.2.2.1.map kV))) ∧ ∀ acc, ts.foldl (fun acc t => putK acc t.2.2.1 t.2.2.2) acc = (N.map (·.2)).foldl (fun acc p => putK acc (pkey p) (.bl true)) acc := by
  intro N
  induction N with
  | nil =>
    intro ys hl _ _
    cases ys with
    | nil => exact ⟨[], rfl, (fun t h => nomatch h), fun _ => rfl⟩
    | cons y ys => cases hl
  | cons a N ih =>
    intro ys hl h hN
    cases ys with
    | nil => cases hl
    | cons y ys =>
      obtain ⟨ts, e1, e2, e3⟩ := ih ys (Nat.succ.inj hl) (fun i a y h1 h2 => h (i + 1) a y h1 h2) fun t ht => hN t (List.mem_cons_of_mem _ ht)
      obtain ⟨q, rfl, eq⟩ := h 0 a y rfl rfl
      refine ⟨(q, a.1, pkey a.2, .bl true) :: ts, by rw [e1]; rfl, fun t ht => ?_, fun acc => ?_⟩
      · rcases List.mem_cons.mp ht with rfl | ht
        · exact ⟨eq, hN a List.mem_cons_self⟩
        · exact e2 t ht
      · rw [List.foldl_cons, List.map_cons, List.foldl_cons]
        exact e3 _
section
variable {P : Program} {w : World} {K : PySem.W.Frag} {mg : Str → Option Value} {base : Heap} {A : Adr}
def sp_is_move : Sp := fun vs H Q _ => ∃ m, vs = [mvV m] ∧ Q (.bl true) H
theorem ok_is_move (T : Txt P w K mg A) : FnOk P w K mg base CX0 1 A.a_is_move A.d_is_move ["value"] sp_is_move := by
  refine T.F_is_move.ok sc_is_move (fun vs H Q E h => ?_) (fun cdv Ar outer s H vs Q E hr h => ?_)
  · obtain ⟨m, rfl, _⟩ := h
    rfl
  · obtain ⟨m, rfl, q⟩ := h
    have hu := hu_of hr
    refine ⟨_, (pss_one (ps_ret (pe_and (pe_callB call_isinst rfl T.b_isinstance boot_isinstance (pa_cons (pv 0) (pa_cons (pe_bltn (v := .ty "str") rfl T.b_str boot_str rfl) pa_nil))) (pe_one (pe_cmpR op_in_seq (pv 0) (pe_glob (v := .ref A.g_MOVES) rfl T.m_MOVES rfl) rfl))))), ?_⟩
    refine ⟨_, rfl, _, _, _, _, rfl, .str _, rfl, _, rfl, iteT ?_⟩
    refine ⟨_, rfl, _, _, rfl, .inr (T.t_MOVES H), rfl, rfl, ?_⟩
    show Q (.bl (inV (mvV m) [.str "ff", .str "fb", .str "bf", .str "bb"])) H
    rw [moves_in]
    exact q
def sp_Way_shows (C : Addr) : Sp := fun vs H Q _ => ∃ s dx l R S i j ms, vs = [.ref s, .str (rt R), .str (rt S), .int i, .int j] ∧ R.length ≤ 16000000 ∧ S.length ≤ 16000000 ∧ H s = some (.ins C dx [("moves", .ref l)]) ∧ H l = some (.lst (List.map mvV ms)) ∧
  ∀ H', Same H H' → Q (.bl (decide (wlk (hts 0 R) (hts 0 S) (0, 0) ms = some (i, j)))) H'
theorem ok_Way_shows (T : Txt P w K mg A) : FnOk P w K mg base CX0 4 A.a_Way_shows A.d_Way_shows ["self", "one", "other", "first", "second"] (sp_Way_shows A.c_Way) := by
  have G_heights : FnOk P w K mg base CX0 3 A.a_heights A.d_heights ["ridge"] sp_heights := ok_heights T
  have G_is_move : FnOk P w K mg base CX0 1 A.a_is_move A.d_is_move ["value"] sp_is_move := ok_is_move T
  have G_can_be_done : FnOk P w K mg base CX0 3 A.a_can_be_done A.d_can_be_done ["levels", "other_levels", "first", "second", "move"] (sp_can_be_done K) := ok_can_be_done T
  have G_led_to : FnOk P w K mg base CX0 1 A.a_led_to A.d_led_to ["first", "second", "move"] sp_led_to := ok_led_to T
  refine T.F_Way_shows.ok sc_Way_shows (fun vs H Q E h => ?_) (fun cdv Ar outer s H vs Q E hr h => ?_)
  · obtain ⟨x, dx, l, R, S, i, j, ms, rfl, _⟩ := h
    rfl
  · obtain ⟨x, dx, l, R, S, i, j, ms, rfl, hR, hS, hx, hl, k⟩ := h
    have hu := hu_of hr
    refine ⟨_, (pss_cons (ps_set (i := 5) sc_Way_shows.nd rfl (Or.inl rfl) (pe_call G_heights (hr.mono (by decide)) rfl T.m_heights T.k_heights T.B_heights .nil pass0 (pa_cons (pv 1) pa_nil)))
    (pss_cons (ps_set (i := 6) sc_Way_shows.nd rfl (Or.inl rfl) (pe_call G_heights (hr.mono (by decide)) rfl T.m_heights T.k_heights T.B_heights .nil pass0 (pa_cons (pv 2) pa_nil)))
    (pss_cons (ps_set (i := 7) sc_Way_shows.nd rfl (Or.inl rfl) (pe_tup (pa_cons pe_int (pa_cons pe_int pa_nil))))
    (pss_cons (ps_for PassesOwn.never rfl (pi_list (pe_fld (pv 0) rfl)) (pg_name (i := 8) sc_Way_shows.nd rfl (Or.inl rfl))
      (pss_cons (ps_if (PW.pt (pw_or (pt_not (pt_val (pe_call G_is_move (hr.mono (by decide)) rfl T.m_is_move T.k_is_move T.B_is_move .nil pass0 (pa_cons (pv 8) pa_nil)))) (pw_or1 (pt_not (pt_val (pe_call G_can_be_done (hr.mono (by decide)) rfl T.m_can_be_done T.k_can_be_done T.B_can_be_done .nil pass0 (pa_cons (pv 5) (pa_cons (pv 6) (pa_cons (pe_ix ix_tup (pv 7) pe_int (fun _ _ => rfl)) (pa_cons (pe_ix ix_tup (pv 7) pe_int (fun _ _ => rfl)) (pa_cons (pv 8) pa_nil)))))))))))
        (pss_one (ps_ret pe_bl))
        pss_nil)
      (pss_one (ps_set (i := 7) sc_Way_shows.nd rfl (Or.inl rfl) (pe_call G_led_to (hr.mono (by decide)) rfl T.m_led_to T.k_led_to T.B_led_to .nil pass0 (pa_cons (pe_ix ix_tup (pv 7) pe_int (fun _ _ => rfl)) (pa_cons (pe_ix ix_tup (pv 7) pe_int (fun _ _ => rfl)) (pa_cons (pv 8) pa_nil))))))))
    (pss_one (ps_ret (pe_cmpR (op_eqT hr.units0) (pv 7) (pe_tup (pa_cons (pv 3) (pa_cons (pv 4) pa_nil))) (nomark _)))))))), ?_⟩
    have z2 : 2 ≤ sizeLine := by decide
    refine ⟨_, rfl, R, rfl, hR, fun a H1 ha s1 e1 => ?_⟩
    refine ⟨_, rfl, S, rfl, hS, fun b H2 hb s2 e2 => ?_⟩
    have e1 := s2 _ _ e1
    have s2 := s1.trans s2
    refine ⟨z2, fun t ht => ?_⟩
    have S3 := same_upd (o := .tup [V.int 0, V.int 0]) ht
    have et : upd H2 t (.tup [V.int 0, V.int 0]) t = some (.tup (pt2 (0, 0))) := upd_same
    have e1 := S3 _ _ e1
    have e2 := S3 _ _ e2
    have s3 := s2.trans S3
    generalize upd H2 t (.tup [V.int 0, V.int 0]) = H3 at et e1 e2 s3
    refine ⟨_, rfl, x, _, _, _, _, rfl, s3 _ _ hx, T.cl_Way, T.n_Way_moves, rfl, l, rfl, ⟨_, SqL.of (s3 _ _ hl)⟩, for_each (ItOf.list K l (List.map mvV ms)) (fun rest σ H4 => ∃ (pre r : List Mv) (t : Addr) (p : Pr) (y : Option V), ms = pre ++ r ∧ rest = r.map mvV ∧
      σ = [some (.ref x), some (.str (rt R)), some (.str (rt S)), some (.int i), some (.int j), some (.ref a), some (.ref b), some (.ref t), y] ∧ Same H3 H4 ∧ H4 t = some (.tup (pt2 p)) ∧ wlk (hts 0 R) (hts 0 S) (0, 0) pre = some p)
      ⟨[], ms, t, (0, 0), none, rfl, rfl, rfl, Same.refl _, et, rfl⟩ (fun r σ H4 ⟨_, _, _, _, _, _, _, _, s4, _⟩ => SqL.of (s4 _ _ (s3 _ _ hl))) ?_ ?_⟩
    · rintro v rest σ H4 ⟨pre, r, t, p, y, em, er, rfl, s4, et, hw⟩
      cases r with
      | nil => cases er
      | cons m r =>
        obtain ⟨rfl, rfl⟩ := List.cons.inj er
        have em' : ms = (pre ++ [m]) ++ r := by rw [em, List.append_assoc]; rfl
        have hw1 : wlk (hts 0 R) (hts 0 S) (0, 0) (pre ++ [m]) = if alk (hts 0 R) (hts 0 S) (adv p m) = true then some (adv p m) else none := by
          rw [wlk_append, hw]
          rfl
        refine ⟨_, rfl, m, rfl, _, rfl, iteF ?_⟩
        refine ⟨_, rfl, _, rfl, _, rfl, t, _, _, _, rfl, rfl, SqT.of et, atI_nat (j := 0) rfl, _, rfl, t, _, _, _, rfl, rfl, SqT.of et, atI_nat (j := 1) rfl, _, rfl, a, b, _, _, p.1, p.2, m, rfl, SqL.of (s4 _ _ e1), SqL.of (s4 _ _ e2), fun H5 s5 => ⟨_, rfl, ?_⟩⟩
        cases hal : alike (hts 0 R) (hts 0 S) (p.1 + stp m.1) (p.2 + stp m.2) with
        | true =>
          have hal' : alk (hts 0 R) (hts 0 S) (adv p m) = true := hal
          rw [if_pos hal'] at hw1
          refine iteF ?_
          have et5 := s5 _ _ et
          refine ⟨_, rfl, t, _, _, _, rfl, rfl, SqT.of et5, atI_nat (j := 0) rfl, _, rfl, t, _, _, _, rfl, rfl, SqT.of et5, atI_nat (j := 1) rfl, _, rfl, p.1, p.2, m, rfl, fun t1 ht1 => ?_⟩
          exact ⟨pre ++ [m], r, t1, adv p m, _, em', rfl, rfl, (s4.trans s5).trans (same_upd ht1), upd_same, hw1⟩
        | false =>
          have hal' : alk (hts 0 R) (hts 0 S) (adv p m) = false := hal
          rw [hal', if_neg Bool.false_ne_true] at hw1
          refine iteT ?_
          have hn : decide (wlk (hts 0 R) (hts 0 S) (0, 0) ms = some (i, j)) = false := by
            refine decide_eq_false fun z => ?_
            rw [em', wlk_append, hw1] at z
            cases z
          have q := k H5 ((s3.trans s4).trans s5)
          rw [hn] at q
          exact q
    · rintro σ H4 ⟨pre, r, t, p, y, em, er, rfl, s4, et, hw⟩
      cases r with
      | cons m r => cases er
      | nil =>
        rw [List.append_nil] at em
        subst em
        refine ⟨_, rfl, _, rfl, _, rfl, z2, fun g hg => ⟨t, g, _, _, rfl, rfl, SqT.of (same_upd hg _ _ et), SqT.of upd_same, rfl, rfl, ?_⟩⟩
        have q := k _ ((s3.trans s4).trans (same_upd (o := .tup [V.int i, V.int j]) hg))
        have e : decide (wlk (hts 0 R) (hts 0 S) (0, 0) ms = some (i, j)) = eqL (pt2 p) [V.int i, V.int j] := by
          rw [hw]
          show _ = eqL (pt2 p) (pt2 (i, j))
          rw [eqL_pt, Bool.eq_iff_iff, decide_eq_true_iff, decide_eq_true_iff]
          exact ⟨fun z => Option.some.inj z, fun z => congrArg some z⟩
        rw [e] at q
        exact q
def sp_Shut_init (C : Addr) : Sp := fun vs H Q _ => ∃ p dx b xs, vs = [.ref p, .ref b] ∧ H p = some (.ins C dx []) ∧ H b = some (.lst xs) ∧ ∀ l, H l = none → Q .non (upd (upd H l (.lst xs)) p (.ins C dx [("pairs", .ref l)]))
theorem ok_Shut_init (T : Txt P w K mg A) : FnOk P w K mg base CX0 1 A.a_Shut_init A.d_Shut_init ["self", "pairs"] (sp_Shut_init A.c_Shut) := by
  refine T.F_Shut_init.ok sc_Shut_init (fun vs H Q E h => ?_) (fun cdv Ar outer s H vs Q E hr h => ?_)
  · obtain ⟨p, dx, b, xs, rfl, _⟩ := h
    rfl
  · obtain ⟨p, dx, b, xs, rfl, hp, hb, k⟩ := h
    have hu := hu_of hr
    refine ⟨_, (pss_one (ps_fld (pv 0) (pe_callTy call_list_of rfl T.b_list boot_list (pa_cons (pv 1) pa_nil)) rfl)), ?_⟩
    refine ⟨_, rfl, b, xs, rfl, .inl (SqL.of hb), fun l hl => ?_⟩
    exact ⟨_, rfl, p, _, dx, [], rfl, same_upd hl _ _ hp, T.cl_Shut, T.n_Shut_pairs, (by show 0 < 1000; decide), k l hl⟩
def sp_is_pair (K : PySem.W.Frag) : Sp := fun vs H Q _ => ∃ a b t xs ys p, vs = [.ref a, .ref b, .ref t] ∧ SqL K H a (List.map V.int xs) ∧ SqL K H b (List.map V.int ys) ∧ H t = some (.tup (pt2 p)) ∧ Q (.bl (inP xs ys p)) H
theorem ok_is_pair (T : Txt P w K mg A) : FnOk P w K mg base CX0 2 A.a_is_pair A.d_is_pair ["levels", "other_levels", "value"] (sp_is_pair K) := by
  have G_is_place : FnOk P w K mg base CX0 1 A.a_is_place A.d_is_place ["levels", "value"] (sp_is_place K) := ok_is_place T
  refine T.F_is_pair.ok sc_is_pair (fun vs H Q E h => ?_) (fun cdv Ar outer s H vs Q E hr h => ?_)
  · obtain ⟨a, b, t, xs, ys, p, rfl, _⟩ := h
    rfl
  · obtain ⟨a, b, t, xs, ys, p, rfl, hx, hy, ht, k⟩ := h
    have hu := hu_of hr
    refine ⟨_, (pss_cons (ps_if (PW.pt (pw_or (pt_not (pt_val (pe_callB call_isinst rfl T.b_isinstance boot_isinstance (pa_cons (pv 2) (pa_cons (pe_bltn (v := .ty "tuple") rfl T.b_tuple boot_tuple rfl) pa_nil))))) (pw_or1 (pt_cmpR op_ne (pe_callB call_lenV rfl T.b_len boot_len (pa_cons (pv 2) pa_nil)) pe_int (nomark _)))))
      (pss_one (ps_ret pe_bl))
      pss_nil)
    (pss_one (ps_ret (pe_and (pe_call G_is_place (hr.mono (by decide)) rfl T.m_is_place T.k_is_place T.B_is_place .nil pass0 (pa_cons (pv 0) (pa_cons (pe_ix ix_tup (pv 2) pe_int (fun _ _ => rfl)) pa_nil))) (pe_one (pe_call G_is_place (hr.mono (by decide)) rfl T.m_is_place T.k_is_place T.B_is_place .nil pass0 (pa_cons (pv 1) (pa_cons (pe_ix ix_tup (pv 2) pe_int (fun _ _ => rfl)) pa_nil)))))))), ?_⟩
    refine ⟨_, rfl, _, _, _, _, rfl, .tup ht, rfl, _, rfl, iteF ?_⟩
    refine ⟨_, rfl, _, _, rfl, .inr ⟨_, SqT.of ht, rfl⟩, rfl, _, rfl, iteF ?_⟩
    refine ⟨_, rfl, _, rfl, t, _, _, _, rfl, rfl, SqT.of ht, atI_nat (j := 0) rfl, a, xs, p.1, rfl, hx, _, rfl, ?_⟩
    unfold inP inr at k
    cases c1 : decide (0 ≤ p.1) && decide (p.1 < (xs.length : Int)) with
    | false =>
      rw [c1, Bool.false_and] at k
      exact iteF k
    | true =>
      rw [c1, Bool.true_and] at k
      exact iteT ⟨_, rfl, _, rfl, t, _, _, _, rfl, rfl, SqT.of ht, atI_nat (j := 1) rfl, b, ys, p.2, rfl, hy, k⟩
def sp_pairs_outside (K : PySem.W.Frag) : Sp := fun vs H Q _ => ∃ a b t d xs ys p kvs Ps, vs = [.ref a, .ref b, .ref t, .ref d] ∧ SqL K H a (List.map V.int xs) ∧ SqL K H b (List.map V.int ys) ∧ H t = some (.tup (pt2 p)) ∧ H d = some (.dT kvs) ∧ (∀ q, (valV kvs (pkey q)).isSome = decide (q ∈ Ps)) ∧
  ∀ l H' zs, Same H H' → H' l = some (.lst zs) → decide (zs.length = 0) = noOut xs ys Ps p → Q (.ref l) H'
theorem ok_pairs_outside (T : Txt P w K mg A) : FnOk P w K mg base CX0 3 A.a_pairs_outside A.d_pairs_outside ["levels", "other_levels", "pair", "known"] (sp_pairs_outside K) := by
  have G_are_alike : FnOk P w K mg base CX0 2 A.a_are_alike A.d_are_alike ["levels", "other_levels", "first", "second"] (sp_are_alike K) := ok_are_alike T
  have G_led_to : FnOk P w K mg base CX0 1 A.a_led_to A.d_led_to ["first", "second", "move"] sp_led_to := ok_led_to T
  refine T.F_pairs_outside.ok sc_pairs_outside (fun vs H Q E h => ?_) (fun cdv Ar outer s H vs Q E hr h => ?_)
  · obtain ⟨a, b, t, d, xs, ys, p, kvs, Ps, rfl, _⟩ := h
    rfl
  · obtain ⟨a, b, t, d, xs, ys, p, kvs, Ps, rfl, hx, hy, ht, hd, hk, k⟩ := h
    have hu := hu_of hr
    refine ⟨_, (pss_cons (ps_setC (te := (tCall _ _ _ (tCons (tOp (rIxT K) (tVar 1) (tC _)) (tCons (tOp (rIxT K) (tVar 1) (tC _)) (tCons (tVar 0) tNil))))) (j := 4) c0_pairs_outside rfl sc_pairs_outside.nd rfl (Or.inl rfl) (pi_tup (pe_glob (v := .ref A.g_MOVES) rfl T.m_MOVES rfl)) (fun cl C s' H' fp => pifs_nil) (fun cl C s' H' fp => (pe_call G_led_to (hr.mono (by decide)) rfl T.m_led_to T.k_led_to T.B_led_to .nil pass0 (pa_cons (pe_ix ix_tup (pv 1) pe_int (fun _ _ => rfl)) (pa_cons (pe_ix ix_tup (pv 1) pe_int (fun _ _ => rfl)) (pa_cons (pv 0) pa_nil))))))
    (pss_one (ps_ret (pe_comp (te := (tVar 0)) (tt := (tAnd (tB (tDNotIn (tVar 0) (tVar 1))) (tB (tCall _ _ _ (tCons (tVar 2) (tCons (tVar 3) (tCons (tOp (rIxT K) (tVar 0) (tC _)) (tCons (tOp (rIxT K) (tVar 0) (tC _)) tNil)))))))) c1_pairs_outside rfl (pi_list (pv 4)) (fun cl C s' H' fp => pifs_one (PW.pt (pw_and (pt_cmp (pc_dnotin hu (pv 0) (pv 1))) (pw_and1 (pt_val (pe_call G_are_alike (hr.mono (by decide)) rfl T.m_are_alike T.k_are_alike T.B_are_alike .nil pass0 (pa_cons (pv 2) (pa_cons (pv 3) (pa_cons (pe_ix ix_tup (pv 0) pe_int (fun _ _ => rfl)) (pa_cons (pe_ix ix_tup (pv 0) pe_int (fun _ _ => rfl)) pa_nil)))))))))) (fun cl C s' H' fp => (pv 0)))))), ?_⟩
    refine ⟨_, rfl, ⟨_, T.t_MOVES _⟩, comp_relH (ItOf.tup K A.g_MOVES _) (fun v y H => ∃ m q, v = mvV m ∧ y = .ref q ∧ H q = some (.tup (pt2 (adv p m)))) ?_ ?_ (by decide) (fun H' _ => T.t_MOVES H') (fun x hx2 H2 s2 Rk kk => ?_) (fun D H1 zs hD s1 e1 hl hrel => ?_)⟩
    · rintro x y H H' ⟨m, q, e1, e2, e3⟩ s
      exact ⟨m, q, e1, e2, s _ _ e3⟩
    · rintro x y H D l l' ⟨m, q, e1, e2, e3⟩ h
      exact ⟨m, q, e1, e2, by rw [upd_ne (ne_of e3 h (fun z => nomatch z))]; exact e3⟩
    · rw [← all4_mv] at hx2
      obtain ⟨m, hm, rfl⟩ := List.mem_map.mp hx2
      have ht2 := s2 _ _ ht
      exact ⟨_, rfl, t, _, _, _, rfl, rfl, SqT.of ht2, atI_nat (j := 0) rfl, _, rfl, t, _, _, _, rfl, rfl, SqT.of ht2, atI_nat (j := 1) rfl, _, rfl, p.1, p.2, m, rfl, fun t1 ht1 => kk _ _ ⟨m, t1, rfl, rfl, upd_same⟩ (same_upd ht1)⟩
    · obtain ⟨M, eM, eM2, hM⟩ := rel_refs (adv p) H1 all4 zs (by rw [hl]; rfl) (fun i m y h1 h2 => by
        obtain ⟨m', q, g1, g2, g3⟩ := hrel i (mvV m) y (by rw [← all4_mv, List.getElem?_map, h1]; rfl) h2
        have g1 : m = m' := mvS_inj.mp (V.str.inj g1)
        subst g1
        exact ⟨q, g2, g3⟩)
      subst eM
      refine ⟨_, rfl, D, rfl, ⟨_, SqL.of e1⟩, comp_filter (ItOf.list K D (refs M)) (fun v => !decide (prOf M v ∈ Ps) && alk xs ys (prOf M v)) id (by rw [hl]; decide) (fun H' s' => SqL.of (s' _ _ e1)) (fun x hx2 H2 s2 Rk kk => ?_) (fun x hx2 px H2 s2 Rk kk => ?_) (fun D2 H2 hD2 s2 e2 => ?_)⟩
      · obtain ⟨u, hu2, rfl⟩ := List.mem_map.mp hx2
        have pu := prOf_mem hM hu2
        have eu := s2 _ _ (hM u hu2)
        rw [pu] at kk
        refine ⟨_, rfl, _, rfl, d, _, rfl, DGet.t (k := pkey u.2) ((s1.trans s2) _ _ hd) eu, _, rfl, ?_⟩
        rw [hk]
        cases c1 : decide (u.2 ∈ Ps) with
        | true =>
          rw [c1] at kk
          exact iteF (kk H2 (Same.refl _))
        | false =>
          rw [c1] at kk
          refine iteT ⟨_, rfl, _, rfl, _, rfl, u.1, _, _, _, rfl, rfl, SqT.of eu, atI_nat (j := 0) rfl, _, rfl, u.1, _, _, _, rfl, rfl, SqT.of eu, atI_nat (j := 1) rfl, a, b, xs, ys, u.2.1, u.2.2, rfl, (s1.trans s2).seq hx, (s1.trans s2).seq hy, _, rfl, ?_⟩
          exact kk H2 (Same.refl _)
      · exact ⟨_, rfl, kk H2 (Same.refl _)⟩
      · refine k D2 H2 _ (s1.trans s2) e2 ?_
        rw [List.map_id]
        have e : (refs M).filter (fun v => !decide (prOf M v ∈ Ps) && alk xs ys (prOf M v)) = refs (M.filter fun u => !decide (u.2 ∈ Ps) && alk xs ys u.2) := by
          unfold refs
          rw [List.filter_map]
          congr 1
          refine List.filter_congr fun u hu2 => ?_
          show (!decide (prOf M (.ref u.1) ∈ Ps) && alk xs ys (prOf M (.ref u.1))) = _
          rw [prOf_mem hM hu2]
        rw [e]
        unfold noOut refs
        rw [List.length_map]
        have e2 : (all4.all fun m => !(!decide (adv p m ∈ Ps) && alk xs ys (adv p m))) = (M.map (·.2)).all fun q => !(!decide (q ∈ Ps) && alk xs ys q) := by
          rw [eM2, List.all_map]
          rfl
        rw [e2, List.all_map, Bool.eq_iff_iff, decide_eq_true_iff, List.length_eq_zero_iff, List.filter_eq_nil_iff, List.all_eq_true]
        refine forall_congr' fun u => imp_congr_right fun _ => ?_
        show ¬ _ ↔ (!(!decide (u.2 ∈ Ps) && alk xs ys u.2)) = true
        cases (!decide (u.2 ∈ Ps) && alk xs ys u.2) <;> simp
def sp_Shut_shows (C : Addr) : Sp := fun vs H Q _ => ∃ s dx l R S i j N, vs = [.ref s, .str (rt R), .str (rt S), .int i, .int j] ∧ R.length ≤ 16000000 ∧ S.length ≤ 16000000 ∧ H s = some (.ins C dx [("pairs", .ref l)]) ∧ H l = some (.lst (refs N)) ∧ (∀ t ∈ N, H t.1 = some (.tup (pt2 t.2))) ∧ N.length ≤ 16000001 ∧
  ∀ H', Same H H' → Q (.bl (shutB (hts 0 R) (hts 0 S) (N.map (·.2)) (i, j))) H'
theorem ok_Shut_shows (T : Txt P w K mg A) : FnOk P w K mg base CX0 4 A.a_Shut_shows A.d_Shut_shows ["self", "one", "other", "first", "second"] (sp_Shut_shows A.c_Shut) := by
  have G_heights : FnOk P w K mg base CX0 3 A.a_heights A.d_heights ["ridge"] sp_heights := ok_heights T
  have G_is_pair : FnOk P w K mg base CX0 2 A.a_is_pair A.d_is_pair ["levels", "other_levels", "value"] (sp_is_pair K) := ok_is_pair T
  have G_pairs_outside : FnOk P w K mg base CX0 3 A.a_pairs_outside A.d_pairs_outside ["levels", "other_levels", "pair", "known"] (sp_pairs_outside K) := ok_pairs_outside T
  refine T.F_Shut_shows.ok sc_Shut_shows (fun vs H Q E h => ?_) (fun cdv Ar outer s H vs Q E hr h => ?_)
  · obtain ⟨x, dx, l, R, S, i, j, N, rfl, _⟩ := h
    rfl
  · obtain ⟨x, dx, l, R, S, i, j, N, rfl, hR, hS, hx, hl, hN, hn, k⟩ := h
    have hu := hu_of hr
    refine ⟨_, (pss_cons (ps_set (i := 5) sc_Shut_shows.nd rfl (Or.inr rfl) (pe_call G_heights (hr.mono (by decide)) rfl T.m_heights T.k_heights T.B_heights .nil pass0 (pa_cons (pv 1) pa_nil)))
    (pss_cons (ps_set (i := 6) sc_Shut_shows.nd rfl (Or.inr rfl) (pe_call G_heights (hr.mono (by decide)) rfl T.m_heights T.k_heights T.B_heights .nil pass0 (pa_cons (pv 2) pa_nil)))
    (pss_cons (ps_if (pt_not (pt_val (pe_callB (call_all rfl) rfl T.b_all boot_all (pa_cons (pe_comp (te := (tCall _ _ _ (tCons (tVar 1) (tCons (tVar 2) (tCons (tVar 0) tNil))))) c0_Shut_shows rfl (pi_list (pe_fld (pv 0) rfl)) (fun cl C s' H' fp => pifs_nil) (fun cl C s' H' fp => (pe_call G_is_pair (hr.mono (by decide)) rfl T.m_is_pair T.k_is_pair T.B_is_pair .nil pass0 (pa_cons (pv 1) (pa_cons (pv 2) (pa_cons (pv 0) pa_nil)))))) pa_nil))))
      (pss_one (ps_ret pe_bl))
      pss_nil)
    (pss_cons (ps_set (i := 7) sc_Shut_shows.nd rfl (Or.inr rfl) (pe_callTy (call_dict_pairs rfl (Nat.lt_of_le_of_lt (Nat.add_le_add_left (by decide : 8 ≤ 64) _) hr.units)) rfl T.b_dict boot_dict (pa_cons (pe_comp (te := (tTup (tCons (tVar 0) (tCons (tC _) tNil)))) c1_Shut_shows rfl (pi_list (pe_fld (pv 0) rfl)) (fun cl C s' H' fp => pifs_nil) (fun cl C s' H' fp => (pe_tup (pa_cons (pv 0) (pa_cons pe_bl pa_nil))))) pa_nil)))
    (pss_cons (ps_if (PW.pt (pw_or (pt_cmp (pc_dnotin hu (pe_tup (pa_cons pe_int (pa_cons pe_int pa_nil))) (pv 7))) (pw_or1 (pt_cmp (pc_din hu (pe_tup (pa_cons (pv 3) (pa_cons (pv 4) pa_nil))) (pv 7))))))
      (pss_one (ps_ret pe_bl))
      pss_nil)
    (pss_one (ps_ret (pe_callB (call_all rfl) rfl T.b_all boot_all (pa_cons (pe_comp (te := (tOp _ (tCB (rLen K) (tCons (tCall _ _ _ (tCons (tVar 2) (tCons (tVar 3) (tCons (tVar 0) (tCons (tVar 1) tNil))))) tNil)) (tC _))) c2_Shut_shows rfl (pi_list (pe_fld (pv 0) rfl)) (fun cl C s' H' fp => pifs_nil) (fun cl C s' H' fp => (pe_cmpR op_eq (pe_callB call_lenV rfl T.b_len boot_len (pa_cons (pe_call G_pairs_outside (hr.mono (by decide)) rfl T.m_pairs_outside T.k_pairs_outside T.B_pairs_outside .nil pass0 (pa_cons (pv 2) (pa_cons (pv 3) (pa_cons (pv 0) (pa_cons (pv 1) pa_nil))))) pa_nil)) pe_int (nomark _)))) pa_nil))))))))), ?_⟩
    have z2 : 2 ≤ sizeLine := by decide
    have zN : (refs N).length ≤ sizeLine := by unfold refs; rw [List.length_map]; exact Nat.le_trans hn (by decide)
    refine ⟨_, rfl, R, rfl, hR, fun a H1 ha s1 e1 => ?_⟩
    refine ⟨_, rfl, S, rfl, hS, fun b H2 hb s2 e2 => ?_⟩
    have e1 := s2 _ _ e1
    have s2 := s1.trans s2
    have hN2 : ∀ t ∈ N, H2 t.1 = some (.tup (pt2 t.2)) := fun t h => s2 _ _ (hN t h)
    refine ⟨_, rfl, x, _, _, _, _, rfl, s2 _ _ hx, T.cl_Shut, T.n_Shut_pairs, rfl, l, rfl, ⟨_, SqL.of (s2 _ _ hl)⟩, comp_map (ItOf.list K l (refs N)) (fun v => .bl (inP (hts 0 R) (hts 0 S) (prOf N v))) zN (fun H' s' => SqL.of (s' _ _ (s2 _ _ hl))) (fun v hv H3 s3 Rk kk => ?_) (fun D H3 hD s3 e3 => ?_)⟩
    · obtain ⟨u, hu2, rfl⟩ := List.mem_map.mp hv
      rw [prOf_mem hN hu2] at kk
      exact ⟨_, rfl, _, rfl, _, rfl, a, b, u.1, _, _, u.2, rfl, SqL.of (s3 _ _ e1), SqL.of (s3 _ _ e2), s3 _ _ (hN2 u hu2), kk H3 (Same.refl _)⟩
    · rw [all_prOf hN] at e3
      refine ⟨D, _, rfl, SqL.of e3, _, rfl, ?_⟩
      have r3 := s3
      have s3 := s2.trans s3
      rw [all_map2]
      unfold shutB at k
      cases c1 : (N.map (·.2)).all (inP (hts 0 R) (hts 0 S)) with
      | false =>
        rw [c1, Bool.false_and] at k
        exact iteT (k H3 s3)
      | true =>
        rw [c1, Bool.true_and] at k
        refine iteF ?_
        refine ⟨_, rfl, x, _, _, _, _, rfl, s3 _ _ hx, T.cl_Shut, T.n_Shut_pairs, rfl, l, rfl, ⟨_, SqL.of (s3 _ _ hl)⟩, comp_relH (ItOf.list K l (refs N)) (fun v y H => ∃ c q, v = .ref c ∧ y = .ref q ∧ H q = some (.tup [.ref c, .bl true])) ?_ ?_ zN (fun H' s' => SqL.of (s' _ _ (s3 _ _ hl))) (fun v hv H4 s4 Rk kk => ?_) (fun D4 H4 ws hD4 s4 e4 hl4 hrel => ?_)⟩
        · rintro x y H H' ⟨m, q, e1, e2, e3⟩ s
          exact ⟨m, q, e1, e2, s _ _ e3⟩
        · rintro x y H D l l' ⟨m, q, e1, e2, e3⟩ h
          exact ⟨m, q, e1, e2, by rw [upd_ne (ne_of e3 h (fun z => nomatch z))]; exact e3⟩
        · obtain ⟨u, hu2, rfl⟩ := List.mem_map.mp hv
          exact ⟨_, rfl, z2, fun t1 ht1 => kk _ _ ⟨u.1, t1, rfl, rfl, upd_same⟩ (same_upd ht1)⟩
        · have r4 := r3.trans s4
          have s4 := s3.trans s4
          obtain ⟨ts, ew, hts', hfold⟩ := known_ts H4 N ws (by rw [hl4]; unfold refs; rw [List.length_map]) (fun i t y h1 h2 => by
            obtain ⟨c, q, g1, g2, g3⟩ := hrel i (.ref t.1) y (by unfold refs; rw [List.getElem?_map, h1]; rfl) h2
            cases g1
            exact ⟨q, g2, g3⟩) (fun t h => s4 _ _ (hN t h))
          subst ew
          have hf : ts.foldl (fun acc t => putK acc t.2.2.1 t.2.2.2) [] = knK (N.map (·.2)) := hfold []
          refine ⟨D4, ts, rfl, e4, hts', fun d hd => ?_⟩
          rw [hf]
          have ed : upd H4 d (.dT (knK (N.map (·.2)))) d = some (.dT (knK (N.map (·.2)))) := upd_same
          have s5 := s4.trans (same_upd (o := .dT (knK (N.map (·.2)))) hd)
          have r5 := r4.trans (same_upd (o := .dT (knK (N.map (·.2)))) hd)
          generalize upd H4 d (.dT (knK (N.map (·.2)))) = H5 at ed s5 r5
          refine ⟨z2, fun t0 ht0 => ⟨_, rfl, d, _, rfl, DGet.t (k := pkey (0, 0)) (same_upd ht0 _ _ ed) upd_same, _, rfl, ?_⟩⟩
          rw [knK_get]
          have s6 := s5.trans (same_upd (o := .tup [V.int 0, V.int 0]) ht0)
          have ed6 := same_upd (o := .tup [V.int 0, V.int 0]) ht0 _ _ ed
          have r6 := r5.trans (same_upd (o := .tup [V.int 0, V.int 0]) ht0)
          generalize upd H5 t0 (.tup [V.int 0, V.int 0]) = H6 at s6 ed6 r6
          cases c2 : decide ((0, 0) ∈ N.map (·.2)) with
          | false =>
            rw [c2, Bool.false_and] at k
            exact iteT (iteT (k H6 s6))
          | true =>
            rw [c2, Bool.true_and] at k
            refine iteF ⟨_, rfl, _, rfl, z2, fun t1 ht1 => ⟨_, rfl, d, _, rfl, DGet.t (k := pkey (i, j)) (same_upd ht1 _ _ ed6) upd_same, _, rfl, ?_⟩⟩
            rw [knK_get]
            have s7 := s6.trans (same_upd (o := .tup [V.int i, V.int j]) ht1)
            have ed7 := same_upd (o := .tup [V.int i, V.int j]) ht1 _ _ ed6
            have r7 := r6.trans (same_upd (o := .tup [V.int i, V.int j]) ht1)
            generalize upd H6 t1 (.tup [V.int i, V.int j]) = H7 at s7 ed7 r7
            cases c3 : decide ((i, j) ∈ N.map (·.2)) with
            | true =>
              rw [c3] at k
              exact iteT (k H7 s7)
            | false =>
              rw [c3] at k
              refine iteF ?_
              refine ⟨_, rfl, x, _, _, _, _, rfl, s7 _ _ hx, T.cl_Shut, T.n_Shut_pairs, rfl, l, rfl, ⟨_, SqL.of (s7 _ _ hl)⟩, comp_map (ItOf.list K l (refs N)) (fun v => .bl (noOut (hts 0 R) (hts 0 S) (N.map (·.2)) (prOf N v))) zN (fun H' s' => SqL.of (s' _ _ (s7 _ _ hl))) (fun v hv H8 s8 Rk kk => ?_) (fun D8 H8 hD8 s8 e8 => ?_)⟩
              · obtain ⟨u, hu2, rfl⟩ := List.mem_map.mp hv
                rw [prOf_mem hN hu2] at kk
                have r8 := r7.trans s8
                refine ⟨_, rfl, _, rfl, _, rfl, _, rfl, a, b, u.1, d, _, _, u.2, _, N.map (·.2), rfl, SqL.of (r8 _ _ e1), SqL.of (r8 _ _ e2), r8 _ _ (hN2 u hu2), s8 _ _ ed7, knK_get _, fun l9 H9 zs s9 e9 h9 => ?_⟩
                refine ⟨_, _, rfl, .inl ⟨_, SqL.of e9, rfl⟩, rfl, ?_⟩
                have e : decide (V.int (zs.length : Int) = V.int 0) = noOut (hts 0 R) (hts 0 S) (N.map (·.2)) u.2 := by
                  rw [← h9, Bool.eq_iff_iff, decide_eq_true_iff, decide_eq_true_iff]
                  exact ⟨fun z => by have := V.int.inj z; omega, fun z => by rw [z]; rfl⟩
                rw [e]
                exact kk H9 s9
              · rw [all_prOf hN] at e8
                refine ⟨D8, _, rfl, SqL.of e8, ?_⟩
                rw [all_map2]
                exact k H8 (s7.trans s8)
end
end K08
set_option Elab.async false
set_option linter.all false
set_option maxRecDepth 100000
set_option maxHeartbeats 4000000
namespace K08
open PySem PySem.Spec PyProof.Rows L2 UM UT
section
variable {P : Program} {w : World} {K : PySem.W.Frag} {mg : Str → Option Value} {base : Heap} {A : Adr}
def sp_Way_init (C : Addr) : Sp := fun vs H Q _ => ∃ p dx b xs, vs = [.ref p, .ref b] ∧ H p = some (.ins C dx []) ∧ H b = some (.lst xs) ∧ ∀ l, H l = none → Q .non (upd (upd H l (.lst xs)) p (.ins C dx [("moves", .ref l)]))
theorem ok_Way_init (T : Txt P w K mg A) : FnOk P w K mg base CX0 1 A.a_Way_init A.d_Way_init ["self", "moves"] (sp_Way_init A.c_Way) := by
  refine T.F_Way_init.ok sc_Way_init (fun vs H Q E h => ?_) (fun cdv Ar outer s H vs Q E hr h => ?_)
  · obtain ⟨p, dx, b, xs, rfl, _⟩ := h
    rfl
  · obtain ⟨p, dx, b, xs, rfl, hp, hb, k⟩ := h
    have hu := hu_of hr
    refine ⟨_, (pss_one (ps_fld (pv 0) (pe_callTy call_list_of rfl T.b_list boot_list (pa_cons (pv 1) pa_nil)) rfl)), ?_⟩
    refine ⟨_, rfl, b, xs, rfl, .inl (SqL.of hb), fun l hl => ?_⟩
    exact ⟨_, rfl, p, _, dx, [], rfl, same_upd hl _ _ hp, T.cl_Way, T.n_Way_moves, (by show 0 < 1000; decide), k l hl⟩
theorem shut_of {xs ys : List Int} {D : Dc} {g : Pr} (hg : GD xs ys D) (h0 : alk xs ys (0, 0) = true) (hc : Clo xs ys (ks D)) (hn : g ∉ ks D) : shutB xs ys (ks D) g = true := by
  unfold shutB
  rw [Bool.and_eq_true, Bool.and_eq_true, Bool.and_eq_true]
  refine ⟨List.all_eq_true.mpr fun p hp => ?_, decide_eq_true hg.foot, by rw [decide_eq_false hn]; rfl, List.all_eq_true.mpr fun p hp => ?_⟩
  · obtain ⟨⟨h1, h2⟩, h3, h4⟩ := alike_in (hg.alk h0 p hp)
    unfold inP inr
    rw [decide_eq_true h1, decide_eq_true h2, decide_eq_true h3, decide_eq_true h4]
    rfl
  · unfold noOut
    rw [List.all_eq_true]
    intro m _
    cases ha : alk xs ys (adv p m) with
    | false => rw [Bool.and_false]; rfl
    | true => rw [decide_eq_true (hc p hp m ha)]; rfl
def sp_reached (CW CS : Addr) : Sp := fun vs H Q _ => ∃ R S i j, vs = [.str (rt R), .str (rt S), .int i, .int j] ∧ R.length ≤ 16000000 ∧ S.length ≤ 16000000 ∧ alike (hts 0 R) (hts 0 S) i j = true ∧ cnt (hts 0 R) (hts 0 S) ≤ 16000000 ∧
  (∀ p dx l ms H', H l = none → Same H H' → H' p = some (.ins CW dx [("moves", .ref l)]) → H' l = some (.lst (List.map mvV ms)) → wlk (hts 0 R) (hts 0 S) (0, 0) ms = some (i, j) → ms.length ≤ cnt (hts 0 R) (hts 0 S) → Q (.ref p) H') ∧
  (∀ p dx l N H', H l = none → Same H H' → H' p = some (.ins CS dx [("pairs", .ref l)]) → H' l = some (.lst (refs N)) → (∀ t ∈ N, H' t.1 = some (.tup (pt2 t.2))) → shutB (hts 0 R) (hts 0 S) (N.map (·.2)) (i, j) = true → N.length ≤ cnt (hts 0 R) (hts 0 S) → Q (.ref p) H')
theorem ok_reached (T : Txt P w K mg A) : FnOk P w K mg base CX0 5 A.a_reached A.d_reached ["one", "other", "first", "second"] (sp_reached A.c_Way A.c_Shut) := by
  have G_heights : FnOk P w K mg base CX0 3 A.a_heights A.d_heights ["ridge"] sp_heights := ok_heights T
  have G_check_places : FnOk P w K mg base CX0 3 A.a_check_places A.d_check_places ["levels", "other_levels", "first", "second"] (sp_check_places K) := ok_check_places T
  have G_explored : FnOk P w K mg base CX0 4 A.a_explored A.d_explored ["levels", "other_levels", "goal"] sp_explored := ok_explored T
  have G_moves_to : FnOk P w K mg base CX0 2 A.a_moves_to A.d_moves_to ["goal", "came_by"] sp_moves_to := ok_moves_to T
  have G_Way_init : FnOk P w K mg base CX0 1 A.a_Way_init A.d_Way_init ["self", "moves"] (sp_Way_init A.c_Way) := ok_Way_init T
  have G_Shut_init : FnOk P w K mg base CX0 1 A.a_Shut_init A.d_Shut_init ["self", "pairs"] (sp_Shut_init A.c_Shut) := ok_Shut_init T
  refine T.F_reached.ok sc_reached (fun vs H Q E h => ?_) (fun cdv Ar outer s H vs Q E hr h => ?_)
  · obtain ⟨R, S, i, j, rfl, _⟩ := h
    rfl
  · obtain ⟨R, S, i, j, rfl, hR, hS, hal, hc, kW, kS⟩ := h
    have hu := hu_of hr
    refine ⟨_, (pss_cons (ps_set (i := 4) sc_reached.nd rfl (Or.inl rfl) (pe_call G_heights (hr.mono (by decide)) rfl T.m_heights T.k_heights T.B_heights .nil pass0 (pa_cons (pv 0) pa_nil)))
    (pss_cons (ps_set (i := 5) sc_reached.nd rfl (Or.inl rfl) (pe_call G_heights (hr.mono (by decide)) rfl T.m_heights T.k_heights T.B_heights .nil pass0 (pa_cons (pv 1) pa_nil)))
    (pss_cons (ps_expr (pe_call G_check_places (hr.mono (by decide)) rfl T.m_check_places T.k_check_places T.B_check_places .nil pass0 (pa_cons (pv 4) (pa_cons (pv 5) (pa_cons (pv 2) (pa_cons (pv 3) pa_nil))))))
    (pss_cons (ps_set (i := 6) sc_reached.nd rfl (Or.inl rfl) (pe_call G_explored (hr.mono (by decide)) rfl T.m_explored T.k_explored T.B_explored .nil pass0 (pa_cons (pv 4) (pa_cons (pv 5) (pa_cons (pe_tup (pa_cons (pv 2) (pa_cons (pv 3) pa_nil))) pa_nil)))))
    (pss_cons (ps_if (pt_cmp (pc_din hu (pe_tup (pa_cons (pv 2) (pa_cons (pv 3) pa_nil))) (pv 6)))
      (pss_one (ps_ret (pe_make T.M_Way G_Way_init (hr.mono (by decide)) rfl T.m_Way T.B_Way_init .nil pass0 (pa_cons (pe_call G_moves_to (hr.mono (by decide)) rfl T.m_moves_to T.k_moves_to T.B_moves_to .nil pass0 (pa_cons (pe_tup (pa_cons (pv 2) (pa_cons (pv 3) pa_nil))) (pa_cons (pv 6) pa_nil))) pa_nil))))
      pss_nil)
    (pss_one (ps_ret (pe_make T.M_Shut G_Shut_init (hr.mono (by decide)) rfl T.m_Shut T.B_Shut_init .nil pass0 (pa_cons (pe_callTy (call_list_dT rfl) rfl T.b_list boot_list (pa_cons (pv 6) pa_nil)) pa_nil))))))))), ?_⟩
    have z2 : 2 ≤ sizeLine := by decide
    refine ⟨_, rfl, R, rfl, hR, fun a H1 ha s1 e1 => ?_⟩
    refine ⟨_, rfl, S, rfl, hS, fun b H2 hb s2 e2 => ?_⟩
    have e1 := s2 _ _ e1
    have s2 := s1.trans s2
    refine ⟨_, rfl, _, rfl, _, rfl, _, rfl, a, b, _, _, i, j, rfl, SqL.of e1, SqL.of e2, hal, ?_⟩
    refine ⟨_, rfl, _, rfl, _, rfl, _, rfl, z2, fun t ht => ?_⟩
    have S3 := same_upd (o := .tup [V.int i, V.int j]) ht
    refine ⟨a, b, t, _, _, (i, j), rfl, S3 _ _ e1, S3 _ _ e2, upd_same, alk00 R S, hc, fun d D H3 hd s3 e3 hg hgo => ?_⟩
    have s3 := (s2.trans S3).trans s3
    refine ⟨_, rfl, _, rfl, z2, fun t2 ht2 => ?_⟩
    have S4 := same_upd (o := .tup [V.int i, V.int j]) ht2
    have et2 : upd H3 t2 (.tup [V.int i, V.int j]) t2 = some (.tup (pt2 (i, j))) := upd_same
    have e4 := S4 _ _ e3
    have s4 := s3.trans S4
    generalize upd H3 t2 (.tup [V.int i, V.int j]) = H4 at et2 e4 s4
    refine ⟨_, rfl, d, _, rfl, DGet.t (k := pkey (i, j)) e4 et2, _, rfl, ?_⟩
    rw [get_kvD]
    by_cases hmem : (i, j) ∈ ks D
    · rw [decide_eq_true hmem]
      refine iteT ?_
      refine ⟨_, rfl, _, rfl, z2, fun t3 ht3 => ⟨_, rfl, t3, d, _, _, (i, j), D, rfl, upd_same, same_upd ht3 _ _ e4, hg, alk00 R S, hc, hmem, fun r ms H5 hr5 s5 e5 hw hl hnd => ?_⟩⟩
      have s5 := (s4.trans (same_upd ht3)).trans s5
      refine fun x dx hx hdx hne => ?_
      have e6 : upd (upd H5 dx (.own x)) x (.ins A.c_Way dx []) r = some (.lst (List.map mvV ms)) := by
        rw [upd_ne (ne_of_none e5 hx), upd_ne (ne_of_none e5 hdx)]
        exact e5
      have s6 : Same H (upd (upd H5 dx (.own x)) x (.ins A.c_Way dx [])) := (s5.upd (s5.free hdx) rfl).upd (s5.free hx) rfl
      refine ⟨x, dx, r, _, rfl, upd_same, e6, fun l hl6 => ⟨rfl, ?_⟩⟩
      have nlx : l ≠ x := fun z => by rw [z, upd_same] at hl6; cases hl6
      refine kW x dx l ms _ (s6.free hl6) ((s6.upd (s6.free hl6) rfl).upd (s5.free hx) rfl) upd_same ?_ hw hl
      rw [upd_ne nlx, upd_same]
    · rw [decide_eq_false hmem]
      refine iteF ?_
      have hcl := hgo.resolve_left hmem
      refine ⟨_, rfl, d, _, rfl, e4, fun r bs hr5 hlen hb => ?_⟩
      obtain ⟨M, eM, eM2, hM⟩ := rel_refs (fun e : Pr × Option Mv => e.1) H4 D (bs.map V.ref) (by rw [List.length_map, hlen, kvD_len]) (fun i e y h1 h2 => by
        rw [List.getElem?_map] at h2
        cases hbi : bs[i]? with
        | none => rw [hbi] at h2; cases h2
        | some b =>
          rw [hbi] at h2
          cases h2
          refine ⟨b, rfl, hb i b (pkey e.1, mo e.2) hbi ?_⟩
          unfold kvD
          rw [List.getElem?_map, h1]
          rfl)
      rw [eM]
      have hlM : M.length = D.length := by
        have := congrArg List.length eM2
        rw [List.length_map, List.length_map] at this
        exact this
      have lD := hg.len (alk00 R S)
      have r5 : Same H4 (upd H4 r (.lst (refs M))) := same_upd hr5
      have s5 : Same H (upd H4 r (.lst (refs M))) := s4.trans r5
      have e5 : upd H4 r (.lst (refs M)) r = some (.lst (refs M)) := upd_same
      generalize upd H4 r (.lst (refs M)) = H5 at r5 s5 e5
      refine fun x dx hx hdx hne => ?_
      have e6 : upd (upd H5 dx (.own x)) x (.ins A.c_Shut dx []) r = some (.lst (refs M)) := by
        rw [upd_ne (ne_of_none e5 hx), upd_ne (ne_of_none e5 hdx)]
        exact e5
      have r6 : Same H4 (upd (upd H5 dx (.own x)) x (.ins A.c_Shut dx [])) := (r5.upd (r5.free hdx) rfl).upd (r5.free hx) rfl
      refine ⟨x, dx, r, _, rfl, upd_same, e6, fun l hl6 => ⟨rfl, ?_⟩⟩
      have nlx : l ≠ x := fun z => by rw [z, upd_same] at hl6; cases hl6
      have r7 := (r6.upd (o := .lst (refs M)) (r6.free hl6) rfl).upd (o := .ins A.c_Shut dx [("pairs", .ref l)]) (r5.free hx) rfl
      have hsh := shut_of hg (alk00 R S) hcl hmem
      refine kS x dx l M _ ((s4.trans r6).free hl6) (s4.trans r7) upd_same ?_ (fun t ht => r7 _ _ (hM t ht)) ?_ (by rw [hlM]; exact lD)
      · rw [upd_ne nlx, upd_same]
      · rw [eM2]
        exact hsh
end
end K08
set_option Elab.async false
set_option linter.all false
set_option maxRecDepth 100000
set_option maxHeartbeats 4000000
namespace K08
open PySem PySem.Spec PyProof.Rows L2 UM UT
section
variable {P : Program} {w : World} {K : PySem.W.Frag} {mg : Str → Option Value} {base : Heap} {A : Adr}
theorem mv_cut0 (m : Mv) : cutS (mvS m) none (some 1) = ⟨#[lc m.1]⟩ := by
  obtain ⟨a, b⟩ := m
  cases a <;> cases b <;> decide +kernel
theorem mv_cut1 (m : Mv) : cutS (mvS m) (some 1) none = ⟨#[lc m.2]⟩ := by
  obtain ⟨a, b⟩ := m
  cases a <;> cases b <;> decide +kernel
theorem fb_tab (b : Bool) : valV (mergeK [] [((Sum.inr ("f" : Str) : Key), V.int 1), ((Sum.inr ("b" : Str) : Key), V.int (-1))]) (Sum.inr (⟨#[lc b]⟩ : Str) : Key) = some (.int (stp b)) := by cases b <;> decide +kernel
theorem fb_in (b : Bool) : (!inV (.str ⟨#[lc b]⟩) [.str "f", .str "b"]) = false := by cases b <;> decide +kernel
def sp_law_done (K : PySem.W.Frag) : Sp := fun vs H Q _ => ∃ a b pl xs ys p m, vs = [.ref a, .ref b, .ref pl, mvV m] ∧ SqL K H a (List.map V.int xs) ∧ SqL K H b (List.map V.int ys) ∧ H pl = some (.tup (pt2 p)) ∧
  (alk xs ys (adv p m) = true → ∀ t H', H t = none → Same H H' → H' t = some (.tup (pt2 (adv p m))) → Q (.ref t) H') ∧ (alk xs ys (adv p m) = false → ∀ H', Same H H' → Q .non H')
abbrev Ent := Addr × Int × Bool × Addr × List Int
theorem ok_law_done (T : Txt P w K mg A) : FnOk P w K mg base CX0 1 A.a_law_done A.d_law_done ["_law_mine", "_law_theirs", "_law_places", "_law_move"] (sp_law_done K) := by
  refine T.F_law_done.ok sc_law_done (fun vs H Q E h => ?_) (fun cdv Ar outer s H vs Q E hr h => ?_)
  · obtain ⟨a, b, pl, xs, ys, p, m, rfl, _⟩ := h
    rfl
  · obtain ⟨a, b, pl, xs, ys, p, m, rfl, hx, hy, hp, k1, k2⟩ := h
    have hu := hu_of hr
    refine ⟨_, (pss_cons (ps_set (i := 4) sc_law_done.nd rfl (Or.inl rfl) (pe_lst pa_nil))
    (pss_cons (ps_for PassesOwn.never rfl (pi_list (pe_lst (pa_cons (pe_tup (pa_cons (pe_ix ix_tup (pv 2) pe_int (fun _ _ => rfl)) (pa_cons (pe_slice sl_str (pv 3) po_none (po_some pe_int)) (pa_cons (pv 0) pa_nil)))) (pa_cons (pe_tup (pa_cons (pe_ix ix_tup (pv 2) pe_int (fun _ _ => rfl)) (pa_cons (pe_slice sl_str (pv 3) (po_some pe_int) po_none) (pa_cons (pv 1) pa_nil)))) pa_nil)))) (pg_tup rfl (pgs_cons (pg_name (i := 5) sc_law_done.nd rfl (Or.inl rfl)) (pgs_cons (pg_name (i := 6) sc_law_done.nd rfl (Or.inl rfl)) (pgs_cons (pg_name (i := 7) sc_law_done.nd rfl (Or.inl rfl)) pgs_nil))))
      (pss_cons (ps_set (i := 8) sc_law_done.nd rfl (Or.inl rfl) (pe_op op_add (pv 5) (pe_dget2 hu (pe_disp (pps_cons pe_str pe_int (pps_cons pe_str (pe_un un_neg pe_int) pps_nil)) rfl rfl (by simp) (by decide)) (pv 6) pe_int ⟨rfl, rfl, rfl, rfl⟩)))
      (pss_cons (ps_if (PW.pt (pw_or (pt_cmpR op_notIn_seq (pv 6) (pe_lst (pa_cons pe_str (pa_cons pe_str pa_nil))) rfl) (pw_or1 (pt_not (pt_chain op_le op_lt pe_int (pv 8) (pe_callB call_lenV rfl T.b_len boot_len (pa_cons (pv 7) pa_nil)))))))
        (pss_one (ps_ret pe_non))
        pss_nil)
      (pss_one (ps_expr (pe_bm PySem.F.plainAttrs_list PySem.F.slot_list_append PySem.F.type_list_append mt_append (pv 4) (pa_cons (pv 8) pa_nil)))))))
    (pss_one (ps_ret (pe_ifExp (pt_cmpR op_eq (pe_ix ix_list (pv 0) (pe_ix ix_list (pv 4) pe_int (fun _ _ => rfl)) (fun _ _ => rfl)) (pe_ix ix_list (pv 1) (pe_ix ix_list (pv 4) pe_int (fun _ _ => rfl)) (fun _ _ => rfl)) (nomark _)) (pe_tup (pa_cons (pe_ix ix_list (pv 4) pe_int (fun _ _ => rfl)) (pa_cons (pe_ix ix_list (pv 4) pe_int (fun _ _ => rfl)) pa_nil))) pe_non))))), ?_⟩
    have z2 : 2 ≤ sizeLine := by decide
    have z3 : 3 ≤ sizeLine := by decide
    refine ⟨Nat.zero_le _, fun q hq => ?_⟩
    have S0 := same_upd (o := .lst []) hq
    refine ⟨_, rfl, pl, _, _, _, rfl, rfl, SqT.of (S0 _ _ hp), atI_nat (j := 0) rfl, _, rfl, _, rfl, _, rfl, z2, _, rfl, z3, fun t1 ht1 => ?_⟩
    rw [mv_cut0]
    have S1 := same_upd (o := .tup [V.int p.1, V.str ⟨#[lc m.1]⟩, V.ref a]) ht1
    refine ⟨_, rfl, pl, _, _, _, rfl, rfl, SqT.of (S1 _ _ (S0 _ _ hp)), atI_nat (j := 1) rfl, _, rfl, _, rfl, _, rfl, z2, _, rfl, z3, fun t2 ht2 => ?_⟩
    rw [mv_cut1]
    have S2 := same_upd (o := .tup [V.int p.2, V.str ⟨#[lc m.2]⟩, V.ref b]) ht2
    refine ⟨z2, fun l hl => ?_⟩
    have S3 := same_upd (o := .lst [V.ref t1, V.ref t2]) hl
    have et1 := S3 _ _ (S2 t1 _ upd_same)
    have et2 := S3 t2 _ upd_same
    have el : upd (upd (upd (upd H q (.lst [])) t1 (.tup [V.int p.1, V.str ⟨#[lc m.1]⟩, V.ref a])) t2 (.tup [V.int p.2, V.str ⟨#[lc m.2]⟩, V.ref b])) l (.lst [V.ref t1, V.ref t2]) l = some (.lst [V.ref t1, V.ref t2]) := upd_same
    have eq := S3 _ _ (S2 _ _ (S1 q _ upd_same))
    have nlq : l ≠ q := (ne_of_none (S2 _ _ (S1 q _ upd_same)) hl).symm
    have s3 := ((S0.trans S1).trans S2).trans S3
    generalize upd (upd (upd (upd H q (.lst [])) t1 (.tup [V.int p.1, V.str ⟨#[lc m.1]⟩, V.ref a])) t2 (.tup [V.int p.2, V.str ⟨#[lc m.2]⟩, V.ref b])) l (.lst [V.ref t1, V.ref t2]) = H3 at et1 et2 el eq s3
    let all : List Ent := [(t1, p.1, m.1, a, xs), (t2, p.2, m.2, b, ys)]
    have hall : ∀ e ∈ all, H3 e.1 = some (.tup [.int e.2.1, .str ⟨#[lc e.2.2.1]⟩, .ref e.2.2.2.1]) ∧ SqL K H e.2.2.2.1 (List.map V.int e.2.2.2.2) := by
      intro e he
      rcases List.mem_cons.mp he with rfl | he
      · exact ⟨et1, hx⟩
      rcases List.mem_cons.mp he with rfl | he
      · exact ⟨et2, hy⟩
      · cases he
    have hout : ∀ e ∈ all, (decide (0 ≤ e.2.1 + stp e.2.2.1) && decide (e.2.1 + stp e.2.2.1 < (e.2.2.2.2.length : Int))) = false → alk xs ys (adv p m) = false := by
      intro e he hf
      unfold alk alike
      rcases List.mem_cons.mp he with rfl | he
      · have z := place_out hf
        show eqo (plc xs (p.1 + stp m.1)) _ = false
        rw [show plc xs (p.1 + stp m.1) = none from z, eqo_n]
      rcases List.mem_cons.mp he with rfl | he
      · have z := place_out hf
        show eqo _ (plc ys (p.2 + stp m.2)) = false
        rw [show plc ys (p.2 + stp m.2) = none from z, eqo_n']
      · cases he
    refine ⟨l, rfl, ⟨_, SqL.of el⟩, for_each (ItOf.list K l [V.ref t1, V.ref t2]) (fun rest σ H4 => ∃ (dn ts : List Ent) (y1 y2 y3 y4 : Option V), all = dn ++ ts ∧ rest = ts.map (fun e => V.ref e.1) ∧
      σ = [some (.ref a), some (.ref b), some (.ref pl), some (mvV m), some (.ref q), y1, y2, y3, y4] ∧ Same H H4 ∧ (∀ c o, c ≠ q → H3 c = some o → H4 c = some o) ∧ H4 q = some (.lst (dn.map fun e => V.int (e.2.1 + stp e.2.2.1))) ∧
      ∀ e ∈ dn, (decide (0 ≤ e.2.1 + stp e.2.2.1) && decide (e.2.1 + stp e.2.2.1 < (e.2.2.2.2.length : Int))) = true)
      ⟨[], all, none, none, none, none, rfl, rfl, rfl, s3, fun c o _ h => h, eq, (fun e h => nomatch h)⟩ (fun r σ H4 ⟨_, _, _, _, _, _, _, _, _, _, kp, _⟩ => SqL.of (kp _ _ nlq el)) ?_ ?_⟩
    · rintro x rest σ H4 ⟨dn, ts, y1, y2, y3, y4, ea, er, rfl, s4, kp, eq4, hin⟩
      cases ts with
      | nil => cases er
      | cons e ts =>
        obtain ⟨rfl, rfl⟩ := List.cons.inj er
        have hea : e ∈ all := by rw [ea]; exact List.mem_append_right _ List.mem_cons_self
        obtain ⟨ee, hz⟩ := hall e hea
        have ln : dn.length + ts.length + 1 = 2 := by
          have this : 2 = (dn ++ e :: ts).length := congrArg List.length ea
          rw [List.length_append, List.length_cons] at this
          omega
        have ho := hout e hea
        have ee := kp _ _ (ne_of ee eq (fun z => nomatch z)) ee
        obtain ⟨t, i, c, z, zs⟩ := e
        have ee : H4 t = some (.tup [.int i, .str ⟨#[lc c]⟩, .ref z]) := ee
        have hz : SqL K H z (List.map V.int zs) := hz
        refine ⟨t, _, rfl, SqT.of ee, rfl, _, _, rfl, _, _, rfl, _, _, rfl, rfl, ?_⟩
        refine ⟨_, rfl, fun d hd => ⟨_, rfl, upd_same, [((Sum.inr ("f" : Str) : Key), V.int 1), ((Sum.inr ("b" : Str) : Key), V.int (-1))], rfl, by decide, d, rfl, .inl ⟨_, .inl upd_same⟩, _, rfl, _, fb_tab c ▸ DGet.k (k := Sum.inr (⟨#[lc c]⟩ : Str)) upd_same, _, _, rfl, rfl, ?_⟩⟩
        have nqd : q ≠ d := ne_of_none eq4 hd
        have s5 : Same H4 (upd (upd H4 d (.dK [])) d (.dK (mergeK [] [((Sum.inr ("f" : Str) : Key), V.int 1), ((Sum.inr ("b" : Str) : Key), V.int (-1))]))) := ((Same.refl H4).upd hd rfl).upd hd rfl
        generalize upd (upd H4 d (.dK [])) d (.dK (mergeK [] [((Sum.inr ("f" : Str) : Key), V.int 1), ((Sum.inr ("b" : Str) : Key), V.int (-1))])) = H5 at s5
        refine ⟨_, rfl, z2, fun g hg => ⟨g, _, rfl, .inl (SqL.of upd_same), rfl, rfl, _, rfl, iteFe (fb_in c) ?_⟩⟩
        have s6 := s5.trans (same_upd (o := .lst [V.str "f", V.str "b"]) hg)
        generalize upd H5 g (.lst [V.str "f", V.str "b"]) = H6 at s6
        refine rd_place (n := 8) (m := 7) rfl rfl ((s4.trans s6).seq hz) ?_
        rw [List.length_map]
        cases cc : decide (0 ≤ i + stp c) && decide (i + stp c < (zs.length : Int)) with
        | false => exact iteT (k2 (ho cc) _ (s4.trans s6))
        | true =>
          refine iteF ?_
          have eq6 := s6 _ _ eq4
          refine ⟨_, rfl, .inl ⟨rfl, _, SqL.of eq6⟩, _, rfl, q, _, _, rfl, rfl, eq6, (by rw [List.length_map]; exact smallM (by omega)), ?_⟩
          refine ⟨dn ++ [(t, i, c, z, zs)], ts, _, _, _, _, by rw [ea, List.append_assoc]; rfl, rfl, rfl, (s4.trans s6).upd hq rfl, fun c' o n h => by rw [upd_ne n]; exact s6 _ _ (kp c' o n h), by rw [upd_same, List.map_append]; rfl, fun e he => ?_⟩
          rcases List.mem_append.mp he with he | he
          · exact hin e he
          · rw [List.mem_singleton] at he
            subst he
            exact cc
    · rintro σ H4 ⟨dn, ts, y1, y2, y3, y4, ea, er, rfl, s4, kp, eq4, hin⟩
      cases ts with
      | cons e ts => cases er
      | nil =>
        rw [List.append_nil] at ea
        subst ea
        obtain ⟨x, ex⟩ := place_in (hin _ List.mem_cons_self)
        obtain ⟨y, ey⟩ := place_in (hin _ (List.mem_cons_of_mem _ List.mem_cons_self))
        have ex : plc xs (p.1 + stp m.1) = some x := ex
        have ey : plc ys (p.2 + stp m.2) = some y := ey
        have eq4 : H4 q = some (.lst [.int (p.1 + stp m.1), .int (p.2 + stp m.2)]) := eq4
        have hx := s4.seq hx
        have hy := s4.seq hy
        have eal : alk xs ys (adv p m) = decide (x = y) := by
          rw [alk_adv]
          unfold alike
          rw [ex, ey]
          show (x == y) = _
          rw [Bool.eq_iff_iff, decide_eq_true_iff, beq_iff_eq]
        refine ⟨_, rfl, _, rfl, q, _, _, _, rfl, rfl, SqL.of eq4, atI_nat (j := 0) rfl, a, _, _, _, rfl, rfl, hx, (plc_at ex).1, ?_⟩
        refine ⟨_, rfl, _, rfl, q, _, _, _, rfl, rfl, SqL.of eq4, atI_nat (j := 1) rfl, b, _, _, _, rfl, rfl, hy, (plc_at ey).1, rfl, _, rfl, ?_⟩
        rw [dcI]
        by_cases exy : x = y
        · rw [decide_eq_true exy] at eal ⊢
          refine iteT ⟨_, rfl, q, _, _, _, rfl, rfl, SqL.of eq4, atI_nat (j := 0) rfl, _, rfl, q, _, _, _, rfl, rfl, SqL.of eq4, atI_nat (j := 1) rfl, z2, fun t ht => ?_⟩
          exact k1 eal t _ (s4.free ht) (s4.upd (s4.free ht) rfl) upd_same
        · rw [decide_eq_false exy] at eal ⊢
          exact iteF (k2 eal _ s4)
def Come (R S : List Bool) (ms : List Mv) (c : V) (H : Hp) : Prop := (∃ t r, c = .ref t ∧ H t = some (.tup (pt2 r)) ∧ wlk (hts 0 R) (hts 0 S) (0, 0) ms = some r) ∨ (c = .non ∧ wlk (hts 0 R) (hts 0 S) (0, 0) ms = none)
theorem Come.grow {R S : List Bool} {ms : List Mv} {c : V} {H H' : Hp} (h : Come R S ms c H) (s : Same H H') : Come R S ms c H' := by
  rcases h with ⟨t, r, e1, e2, e3⟩ | h
  · exact .inl ⟨t, r, e1, s _ _ e2, e3⟩
  · exact .inr h
def sp_law_walked (K : PySem.W.Frag) : Sp := fun vs H Q _ => ∃ R S l ms, vs = [.str (rt R), .str (rt S), .ref l] ∧ R.length ≤ 16000000 ∧ S.length ≤ 16000000 ∧ SqL K H l (List.map mvV ms) ∧
  ∀ c H', Same H H' → Come R S ms c H' → Q c H'
theorem ok_law_walked (T : Txt P w K mg A) : FnOk P w K mg base CX0 2 A.a_law_walked A.d_law_walked ["_law_one", "_law_other", "_law_moves"] (sp_law_walked K) := by
  have G_law_heights : FnOk P w K mg base CX0 1 A.a_law_heights A.d_law_heights ["_law_ridge"] sp_heights := ok_law_heights T
  have G_law_done : FnOk P w K mg base CX0 1 A.a_law_done A.d_law_done ["_law_mine", "_law_theirs", "_law_places", "_law_move"] (sp_law_done K) := ok_law_done T
  refine T.F_law_walked.ok sc_law_walked (fun vs H Q E h => ?_) (fun cdv Ar outer s H vs Q E hr h => ?_)
  · obtain ⟨R, S, l, ms, rfl, _⟩ := h
    rfl
  · obtain ⟨R, S, l, ms, rfl, hR, hS, hx, k⟩ := h
    have hu := hu_of hr
    refine ⟨_, (pss_cons (ps_set (i := 3) sc_law_walked.nd rfl (Or.inl rfl) (pe_call G_law_heights (hr.mono (by decide)) rfl T.m_law_heights T.k_law_heights T.B_law_heights .nil pass0 (pa_cons (pv 0) pa_nil)))
    (pss_cons (ps_set (i := 4) sc_law_walked.nd rfl (Or.inl rfl) (pe_call G_law_heights (hr.mono (by decide)) rfl T.m_law_heights T.k_law_heights T.B_law_heights .nil pass0 (pa_cons (pv 1) pa_nil)))
    (pss_cons (ps_set (i := 5) sc_law_walked.nd rfl (Or.inl rfl) (pe_tup (pa_cons pe_int (pa_cons pe_int pa_nil))))
    (pss_cons (ps_for PassesOwn.never rfl (pi_list (pv 2)) (pg_name (i := 6) sc_law_walked.nd rfl (Or.inl rfl))
      (pss_cons (ps_set (i := 5) sc_law_walked.nd rfl (Or.inl rfl) (pe_call G_law_done (hr.mono (by decide)) rfl T.m_law_done T.k_law_done T.B_law_done .nil pass0 (pa_cons (pv 3) (pa_cons (pv 4) (pa_cons (pv 5) (pa_cons (pv 6) pa_nil))))))
      (pss_one (ps_if (pt_cmpR op_isN (pv 5) pe_non (nomark _))
        (pss_one (ps_ret pe_non))
        pss_nil))))
    (pss_one (ps_ret (pv 5))))))), ?_⟩
    have z2 : 2 ≤ sizeLine := by decide
    refine ⟨_, rfl, R, rfl, hR, fun a H1 ha s1 e1 => ?_⟩
    refine ⟨_, rfl, S, rfl, hS, fun b H2 hb s2 e2 => ?_⟩
    have e1 := s2 _ _ e1
    have s2 := s1.trans s2
    refine ⟨z2, fun t ht => ?_⟩
    have S3 := same_upd (o := .tup [V.int 0, V.int 0]) ht
    have et : upd H2 t (.tup [V.int 0, V.int 0]) t = some (.tup (pt2 (0, 0))) := upd_same
    have nt := s2.free ht
    have e1 := S3 _ _ e1
    have e2 := S3 _ _ e2
    have s3 := s2.trans S3
    generalize upd H2 t (.tup [V.int 0, V.int 0]) = H3 at et e1 e2 s3
    refine ⟨_, rfl, l, rfl, ⟨_, s3.seq hx⟩, for_each (ItOf.list K l (List.map mvV ms)) (fun rest σ H4 => ∃ (pre r : List Mv) (t : Addr) (p : Pr) (y : Option V), ms = pre ++ r ∧ rest = r.map mvV ∧ σ = [some (.str (rt R)), some (.str (rt S)), some (.ref l), some (.ref a), some (.ref b), some (.ref t), y] ∧ Same H3 H4 ∧ H t = none ∧ H4 t = some (.tup (pt2 p)) ∧ wlk (hts 0 R) (hts 0 S) (0, 0) pre = some p)
      ⟨[], ms, t, (0, 0), none, rfl, rfl, rfl, Same.refl _, nt, et, rfl⟩ (fun r σ H4 ⟨_, _, _, _, _, _, _, _, s4, _⟩ => s4.seq (s3.seq hx)) ?_ ?_⟩
    · rintro x rest σ H4 ⟨pre, r, t, p, y, em, er, rfl, s4, nt, et, hw⟩
      cases r with
      | nil => cases er
      | cons m r =>
        obtain ⟨rfl, rfl⟩ := List.cons.inj er
        have em' : ms = (pre ++ [m]) ++ r := by rw [em, List.append_assoc]; rfl
        have hw1 : wlk (hts 0 R) (hts 0 S) (0, 0) (pre ++ [m]) = if alk (hts 0 R) (hts 0 S) (adv p m) = true then some (adv p m) else none := by
          rw [wlk_append, hw]
          rfl
        refine ⟨_, rfl, _, rfl, _, rfl, _, rfl, a, b, t, _, _, p, m, rfl, SqL.of (s4 _ _ e1), SqL.of (s4 _ _ e2), et, fun hal t' H5 ht' s5 et' => ?_, fun hal H5 s5 => ?_⟩
        · rw [if_pos hal] at hw1
          refine ⟨_, rfl, rfl, _, rfl, iteFe (decide_eq_false fun z => nomatch z) ?_⟩
          exact ⟨pre ++ [m], r, t', adv p m, _, em', rfl, rfl, s4.trans s5, (s3.trans s4).free ht', et', hw1⟩
        · rw [hal, if_neg Bool.false_ne_true] at hw1
          refine ⟨_, rfl, rfl, _, rfl, iteTe (decide_eq_true rfl) ?_⟩
          refine k _ H5 ((s3.trans s4).trans s5) (.inr ⟨rfl, ?_⟩)
          rw [em', wlk_append, hw1]
          rfl
    · rintro σ H4 ⟨pre, r, t, p, y, em, er, rfl, s4, nt, et, hw⟩
      cases r with
      | cons m r => cases er
      | nil =>
        rw [List.append_nil] at em
        subst em
        exact ⟨_, rfl, k _ H4 (s3.trans s4) (.inl ⟨t, p, rfl, et, hw⟩)⟩
theorem rd_placeE {K : PySem.W.Frag} {σ : L2.St} {H : Hp} {Q : Bool → Hp → Prop} {ti : TE} {m : Nat} {i : Int} {a : Addr} {xs : List V} (hti : ∀ R : VK, R (.int i) H → ti σ H R) (ha : σ[m]? = some (some (.ref a))) (hx : SqL K H a xs) (q : Q (decide (0 ≤ i) && decide (i < (xs.length : Int))) H) :
    tTest (tChain (rI0 fun i j => .bl (decide (i ≤ j))) (rI0 fun i j => .bl (decide (i < j))) (tC (.int 0)) ti (tCB (rLen K) (tCons (tVar m) tNil))) σ H Q := by
  refine hti _ ⟨_, _, rfl, rfl, _, rfl, ite2 (fun hc => ?_) (fun hc => ?_)⟩
  · refine ⟨_, ha, _, _, rfl, .inl ⟨_, hx, rfl⟩, _, _, rfl, rfl, _, rfl, ?_⟩
    rw [hc, Bool.true_and] at q
    exact q
  · have hc : decide (0 ≤ i) = false := by simpa using hc
    rw [hc, Bool.false_and] at q
    exact ⟨_, rfl, q⟩
def ents (N : List (Addr × Pr)) : List (Addr × List V) := N.map fun t => (t.1, pt2 t.2)
theorem put_get {kvs : List (List Key × V)} {Ps : List Pr} (h : ∀ q, (valV kvs (pkey q)).isSome = decide (q ∈ Ps)) (p : Pr) (v : V) : ∀ q, (valV (putK kvs (pkey p) v) (pkey q)).isSome = decide (q ∈ Ps ++ [p]) := by
  intro q
  rw [valV_put]
  by_cases e : q = p
  · subst e; simp
  · rw [if_neg (fun z => e (pkey_inj z)), h]
    simp [e]
def sp_law_says : Sp := fun vs H Q _ => ∃ a b, vs = [.bl a, .bl b] ∧ Q (.bl (decide (V.bl a = V.bl b))) H
theorem ok_law_says (T : Txt P w K mg A) : FnOk P w K mg base CX0 1 A.a_law_says A.d_law_says ["_law_said", "_law_due"] sp_law_says := by
  refine T.F_law_says.ok sc_law_says (fun vs H Q E h => ?_) (fun cdv Ar outer s H vs Q E hr h => ?_)
  · obtain ⟨a, b, rfl, _⟩ := h
    rfl
  · obtain ⟨a, b, rfl, k⟩ := h
    have hu := hu_of hr
    refine ⟨_, (pss_one (ps_ret (pe_and (pe_callB call_isinst rfl T.b_isinstance boot_isinstance (pa_cons (pv 0) (pa_cons (pe_bltn (v := .ty "bool") rfl T.b_bool boot_bool rfl) pa_nil))) (pe_one (pe_cmpR op_eq (pv 0) (pv 1) (nomark _)))))), ?_⟩
    exact ⟨_, rfl, _, _, _, _, rfl, .bl _, rfl, _, rfl, iteT ⟨_, rfl, _, rfl, rfl, k⟩⟩
theorem shutB_iff {xs ys : List Int} {Ps : List Pr} {g : Pr} : shutB xs ys Ps g = true ↔ (∀ p ∈ Ps, inP xs ys p = true) ∧ (0, 0) ∈ Ps ∧ g ∉ Ps ∧ ∀ p ∈ Ps, noOut xs ys Ps p = true := by
  unfold shutB
  rw [Bool.and_eq_true, Bool.and_eq_true, Bool.and_eq_true, List.all_eq_true, List.all_eq_true, decide_eq_true_iff]
  simp
theorem shut_f1 {xs ys : List Int} {Ps : List Pr} {g p : Pr} (hp : p ∈ Ps) (h : inP xs ys p = false) : shutB xs ys Ps g = false := by
  rw [Bool.eq_false_iff]
  intro z
  rw [(shutB_iff.mp z).1 p hp] at h
  cases h
theorem shut_f2 {xs ys : List Int} {Ps : List Pr} {g : Pr} (h : (0, 0) ∉ Ps) : shutB xs ys Ps g = false := by
  rw [Bool.eq_false_iff]
  exact fun z => h (shutB_iff.mp z).2.1
theorem shut_f3 {xs ys : List Int} {Ps : List Pr} {g : Pr} (h : g ∈ Ps) : shutB xs ys Ps g = false := by
  rw [Bool.eq_false_iff]
  exact fun z => (shutB_iff.mp z).2.2.1 h
theorem shut_f4 {xs ys : List Int} {Ps : List Pr} {g p : Pr} {m : Mv} (hp : p ∈ Ps) (h1 : alk xs ys (adv p m) = true) (h2 : adv p m ∉ Ps) : shutB xs ys Ps g = false := by
  rw [Bool.eq_false_iff]
  intro z
  have q := (shutB_iff.mp z).2.2.2 p hp
  unfold noOut at q
  have q := List.all_eq_true.mp q m (all4_mem m)
  rw [h1, decide_eq_false h2] at q
  cases q
def sp_law_shut (K : PySem.W.Frag) : Sp := fun vs H Q _ => ∃ a b pl l xs ys g N, vs = [.ref a, .ref b, .ref pl, .ref l] ∧ H a = some (.lst (List.map V.int xs)) ∧ H b = some (.lst (List.map V.int ys)) ∧ H pl = some (.tup (pt2 g)) ∧ H l = some (.lst (refs N)) ∧ (∀ t ∈ N, H t.1 = some (.tup (pt2 t.2))) ∧ N.length ≤ 16000000 ∧
  ∀ H', Same H H' → Q (.bl (shutB xs ys (N.map (·.2)) g)) H'
theorem ok_law_shut (T : Txt P w K mg A) : FnOk P w K mg base CX0 2 A.a_law_shut A.d_law_shut ["_law_mine", "_law_theirs", "_law_places", "_law_pairs"] (sp_law_shut K) := by
  have G_law_done : FnOk P w K mg base CX0 1 A.a_law_done A.d_law_done ["_law_mine", "_law_theirs", "_law_places", "_law_move"] (sp_law_done K) := ok_law_done T
  refine T.F_law_shut.ok sc_law_shut (fun vs H Q E h => ?_) (fun cdv Ar outer s H vs Q E hr h => ?_)
  · obtain ⟨a, b, pl, l, xs, ys, g, N, rfl, _⟩ := h
    rfl
  · obtain ⟨a, b, pl, l, xs, ys, g, N, rfl, e1, e2, hg, hl, hN, hn, k⟩ := h
    have hu := hu_of hr
    refine ⟨_, (pss_cons (ps_set (i := 4) sc_law_shut.nd rfl (Or.inl rfl) pe_dnewT)
    (pss_cons (ps_for PassesOwn.never rfl (pi_list (pv 3)) (pg_name (i := 5) sc_law_shut.nd rfl (Or.inl rfl))
      (pss_cons (ps_dput hu (pv 4) (pv 5) pe_bl rfl)
      (pss_one (ps_if (PW.pt (pw_or (pt_not (pt_chain op_le op_lt pe_int (pe_ix ix_tup (pv 5) pe_int (fun _ _ => rfl)) (pe_callB call_lenV rfl T.b_len boot_len (pa_cons (pv 0) pa_nil)))) (pw_or1 (pt_not (pt_chain op_le op_lt pe_int (pe_ix ix_tup (pv 5) pe_int (fun _ _ => rfl)) (pe_callB call_lenV rfl T.b_len boot_len (pa_cons (pv 1) pa_nil)))))))
        (pss_one (ps_ret pe_bl))
        pss_nil))))
    (pss_cons (ps_if (PW.pt (pw_or (pt_cmp (pc_dnotin hu (pe_tup (pa_cons pe_int (pa_cons pe_int pa_nil))) (pv 4))) (pw_or1 (pt_cmp (pc_din hu (pv 2) (pv 4))))))
      (pss_one (ps_ret pe_bl))
      pss_nil)
    (pss_cons (ps_for PassesOwn.never rfl (pi_list (pv 3)) (pg_name (i := 5) sc_law_shut.nd rfl (Or.inl rfl))
      (pss_one (ps_for PassesOwn.never rfl (pi_list (pe_lst (pa_cons pe_str (pa_cons pe_str (pa_cons pe_str (pa_cons pe_str pa_nil)))))) (pg_name (i := 6) sc_law_shut.nd rfl (Or.inl rfl))
        (pss_cons (ps_set (i := 7) sc_law_shut.nd rfl (Or.inl rfl) (pe_call G_law_done (hr.mono (by decide)) rfl T.m_law_done T.k_law_done T.B_law_done .nil pass0 (pa_cons (pv 0) (pa_cons (pv 1) (pa_cons (pv 5) (pa_cons (pv 6) pa_nil))))))
        (pss_one (ps_if (PW.pt (pw_and (pt_cmpR op_notN (pv 7) pe_non (nomark _)) (pw_and1 (pt_cmp (pc_dnotin hu (pv 7) (pv 4))))))
          (pss_one (ps_ret pe_bl))
          pss_nil))))))
    (pss_one (ps_ret pe_bl)))))), ?_⟩
    have z2 : 2 ≤ sizeLine := by decide
    have z4 : 4 ≤ sizeLine := by decide
    have kF : shutB xs ys (N.map (·.2)) g = false → ∀ H', Same H H' → Q (.bl false) H' := fun e H' s' => by
      have q := k H' s'
      rw [e] at q
      exact q
    refine fun d hd => ?_
    refine ⟨_, rfl, l, rfl, ⟨_, SqL.of (same_upd hd _ _ hl)⟩, for_each (ItOf.list K l (refs N)) (fun rest σ H5 => ∃ (N1 N2 : List (Addr × Pr)) (kvs : List (List Key × V)) (y : Option V), N = N1 ++ N2 ∧ rest = refs N2 ∧ σ = [some (.ref a), some (.ref b), some (.ref pl), some (.ref l), some (.ref d), y, none, none] ∧ Same H H5 ∧ H5 d = some (.dT kvs) ∧ kvs.length ≤ N1.length ∧ (∀ q, (valV kvs (pkey q)).isSome = decide (q ∈ N1.map (·.2))) ∧ ∀ t ∈ N1, inP xs ys t.2 = true)
      ⟨[], N, [], none, rfl, rfl, rfl, same_upd hd, upd_same, Nat.le_refl _, fun q => rfl, (fun t h => nomatch h)⟩ (fun r σ H5 ⟨_, _, _, _, _, _, _, s5, _⟩ => SqL.of (s5 _ _ hl)) ?_ ?_⟩
    · rintro v rest σ H5 ⟨N1, N2, kvs, y, eN, er, rfl, s5, ed, hlen, hk, hin⟩
      cases N2 with
      | nil => cases er
      | cons u N2 =>
        obtain ⟨rfl, rfl⟩ := List.cons.inj er
        have huN : u ∈ N := by rw [eN]; exact List.mem_append_right _ List.mem_cons_self
        have hup : u.2 ∈ N.map (·.2) := List.mem_map_of_mem huN
        have eu := s5 _ _ (hN u huN)
        have lnN : N1.length + (N2.length + 1) ≤ 16000000 := by
          have := congrArg List.length eN
          rw [List.length_append, List.length_cons] at this
          omega
        refine ⟨_, rfl, _, rfl, d, _, rfl, DPut.t (k := pkey u.2) ed eu (smallM (by omega)), ?_⟩
        have s6 := s5.upd (o := .dT (putK kvs (pkey u.2) (.bl true))) hd rfl
        have ed6 : upd H5 d (.dT (putK kvs (pkey u.2) (.bl true))) d = some (.dT (putK kvs (pkey u.2) (.bl true))) := upd_same
        generalize upd H5 d (.dT (putK kvs (pkey u.2) (.bl true))) = H6 at s6 ed6
        have eu := s6 _ _ (hN u huN)
        dsimp only [tNext, tSeq, tIfS, tOr, tNot]
        refine rd_placeE (m := 0) (i := u.2.1) (a := a) ?_ ?_ (SqL.of (s6 _ _ e1)) ?_
        · exact fun R q => ⟨_, rfl, u.1, _, _, _, rfl, rfl, SqT.of eu, atI_nat (j := 0) rfl, q⟩
        · rfl
        rw [List.length_map]
        cases c1 : decide (0 ≤ u.2.1) && decide (u.2.1 < (xs.length : Int)) with
        | false => exact iteT (iteT (kF (shut_f1 hup (by unfold inP inr; rw [c1]; rfl)) H6 s6))
        | true =>
          refine iteF ?_
          refine rd_placeE (m := 1) (i := u.2.2) (a := b) ?_ ?_ (SqL.of (s6 _ _ e2)) ?_
          · exact fun R q => ⟨_, rfl, u.1, _, _, _, rfl, rfl, SqT.of eu, atI_nat (j := 1) rfl, q⟩
          · rfl
          rw [List.length_map]
          cases c2 : decide (0 ≤ u.2.2) && decide (u.2.2 < (ys.length : Int)) with
          | false => exact iteT (kF (shut_f1 hup (by unfold inP inr; rw [c2, Bool.and_false])) H6 s6)
          | true =>
            refine iteF ?_
            refine ⟨N1 ++ [u], N2, putK kvs (pkey u.2) (.bl true), _, by rw [eN, List.append_assoc]; rfl, rfl, rfl, s6, ed6, ?_, fun q => ?_, fun t h => ?_⟩
            · have := length_putK kvs (pkey u.2) (.bl true)
              rw [List.length_append, List.length_singleton]
              omega
            · rw [put_get hk, List.map_append]
              rfl
            · rcases List.mem_append.mp h with h | h
              · exact hin t h
              · rw [List.mem_singleton] at h
                subst h
                unfold inP inr
                rw [c1, c2]
                rfl
    · rintro σ H5 ⟨N1, N2, kvs, y, eN, er, rfl, s5, ed, hlen, hk, hin⟩
      cases N2 with
      | cons u N2 => cases er
      | nil =>
        rw [List.append_nil] at eN
        subst eN
        refine ⟨z2, fun t0 ht0 => ⟨_, rfl, d, _, rfl, DGet.t (k := pkey (0, 0)) (same_upd ht0 _ _ ed) upd_same, _, rfl, ?_⟩⟩
        rw [hk]
        have s6 := s5.trans (same_upd (o := .tup [V.int 0, V.int 0]) ht0)
        have ed6 := same_upd (o := .tup [V.int 0, V.int 0]) ht0 _ _ ed
        generalize upd H5 t0 (.tup [V.int 0, V.int 0]) = H6 at s6 ed6
        by_cases h0 : (0, 0) ∈ N.map (·.2)
        · rw [decide_eq_true h0]
          refine iteF ⟨_, rfl, _, rfl, d, _, rfl, DGet.t (k := pkey g) ed6 (s6 _ _ hg), _, rfl, ?_⟩
          rw [hk]
          by_cases hgm : g ∈ N.map (·.2)
          · rw [decide_eq_true hgm]
            exact iteT (kF (shut_f3 hgm) H6 s6)
          · rw [decide_eq_false hgm]
            refine iteF ?_
            refine ⟨_, rfl, l, rfl, ⟨_, SqL.of (s6 _ _ hl)⟩, for_each (ItOf.list K l (refs N)) (fun rest σ H7 => ∃ (N1 N2 : List (Addr × Pr)) (y1 y2 y3 : Option V), N = N1 ++ N2 ∧ rest = refs N2 ∧ σ = [some (.ref a), some (.ref b), some (.ref pl), some (.ref l), some (.ref d), y1, y2, y3] ∧ Same H6 H7 ∧ ∀ t ∈ N1, noOut xs ys (N.map (·.2)) t.2 = true)
              ⟨[], N, _, _, _, rfl, rfl, rfl, Same.refl _, (fun t h => nomatch h)⟩ (fun r σ H7 ⟨_, _, _, _, _, _, _, _, s7, _⟩ => SqL.of (s7 _ _ (s6 _ _ hl))) ?_ ?_⟩
            · rintro v rest σ H7 ⟨N1, N2, y1, y2, y3, eN, er, rfl, s7, hdn⟩
              cases N2 with
              | nil => cases er
              | cons u N2 =>
                obtain ⟨rfl, rfl⟩ := List.cons.inj er
                have huN : u ∈ N := by rw [eN]; exact List.mem_append_right _ List.mem_cons_self
                have hup : u.2 ∈ N.map (·.2) := List.mem_map_of_mem huN
                refine ⟨z4, fun g0 hg0 => ⟨g0, rfl, ⟨_, SqL.of upd_same⟩, for_each (ItOf.list K g0 _) (fun rest σ H8 => ∃ (m1 m2 : List Mv) (y2 y3 : Option V), all4 = m1 ++ m2 ∧ rest = m2.map mvV ∧ σ = [some (.ref a), some (.ref b), some (.ref pl), some (.ref l), some (.ref d), some (.ref u.1), y2, y3] ∧ Same (upd H7 g0 (.lst [V.str "ff", V.str "fb", V.str "bf", V.str "bb"])) H8 ∧ ∀ m ∈ m1, (!(!decide (adv u.2 m ∈ N.map (·.2)) && alk xs ys (adv u.2 m))) = true)
                  ⟨[], all4, _, _, rfl, all4_mv.symm, rfl, Same.refl _, (fun m h => nomatch h)⟩ (fun r σ H8 ⟨_, _, _, _, _, _, _, s8, _⟩ => SqL.of (s8 _ _ upd_same)) ?_ ?_⟩⟩
                · rintro v rest σ H8 ⟨m1, m2, y2, y3, em, er, rfl, s8, hm1⟩
                  cases m2 with
                  | nil => cases er
                  | cons m m2 =>
                    obtain ⟨rfl, rfl⟩ := List.cons.inj er
                    have em' : all4 = (m1 ++ [m]) ++ m2 := by rw [em, List.append_assoc]; rfl
                    have s8a := s7.trans ((same_upd hg0).trans s8)
                    have s8b := s6.trans s8a
                    refine ⟨_, rfl, _, rfl, _, rfl, _, rfl, a, b, u.1, _, _, u.2, m, rfl, SqL.of (s8b _ _ e1), SqL.of (s8b _ _ e2), s8b _ _ (hN u huN), fun hal t' H9 ht' s9 et' => ?_, fun hal H9 s9 => ?_⟩
                    · refine ⟨_, rfl, rfl, _, rfl, iteTe (by rfl) ?_⟩
                      refine ⟨_, rfl, _, rfl, d, _, rfl, DGet.t (k := pkey (adv u.2 m)) (s9 _ _ (s8a _ _ ed6)) et', _, rfl, ?_⟩
                      rw [hk]
                      by_cases hmem : adv u.2 m ∈ N.map (·.2)
                      · rw [decide_eq_true hmem]
                        refine iteF ?_
                        exact ⟨m1 ++ [m], m2, _, _, em', rfl, rfl, s8.trans s9, fun m' h => by
                          rcases List.mem_append.mp h with h | h
                          · exact hm1 m' h
                          · rw [List.mem_singleton] at h
                            rw [h, decide_eq_true hmem]
                            rfl⟩
                      · rw [decide_eq_false hmem]
                        exact iteT (kF (shut_f4 hup hal hmem) H9 (s8b.trans s9))
                    · refine ⟨_, rfl, rfl, _, rfl, iteFe (by rfl) (iteF ?_)⟩
                      exact ⟨m1 ++ [m], m2, _, _, em', rfl, rfl, s8.trans s9, fun m' h => by
                        rcases List.mem_append.mp h with h | h
                        · exact hm1 m' h
                        · rw [List.mem_singleton] at h
                          rw [h, hal, Bool.and_false]
                          rfl⟩
                · rintro σ H8 ⟨m1, m2, y2, y3, em, er, rfl, s8, hm1⟩
                  cases m2 with
                  | cons m m2 => cases er
                  | nil =>
                    rw [List.append_nil] at em
                    exact ⟨N1 ++ [u], N2, _, _, _, by rw [eN, List.append_assoc]; rfl, rfl, rfl, s7.trans ((same_upd hg0).trans s8), fun t h => by
                      rcases List.mem_append.mp h with h | h
                      · exact hdn t h
                      · rw [List.mem_singleton] at h
                        rw [h]
                        unfold noOut
                        rw [List.all_eq_true]
                        intro m hm
                        exact hm1 m (by rw [← em]; exact hm)⟩
            · rintro σ H7 ⟨N1, N2, y1, y2, y3, eN, er, rfl, s7, hdn⟩
              cases N2 with
              | cons u N2 => cases er
              | nil =>
                rw [List.append_nil] at eN
                have tt : shutB xs ys (N.map (·.2)) g = true := shutB_iff.mpr ⟨fun p hp => by
                  obtain ⟨t, ht, rfl⟩ := List.mem_map.mp hp
                  exact hin t ht, h0, hgm, fun p hp => by
                  obtain ⟨t, ht, rfl⟩ := List.mem_map.mp hp
                  exact hdn t (eN ▸ ht)⟩
                have q := k H7 (s6.trans s7)
                rw [tt] at q
                exact q
        · rw [decide_eq_false h0]
          exact iteT (iteT (kF (shut_f2 h0) H6 s6))
def sp_law_near : Sp := fun vs H Q _ => ∃ R S pl p, vs = [.str (rt R), .str (rt S), .ref pl] ∧ R.length ≤ 16000000 ∧ S.length ≤ 16000000 ∧ H pl = some (.tup (pt2 p)) ∧ ∀ l M H', Same H H' → H' l = some (.lst (refs M)) → (∀ t ∈ M, H' t.1 = some (.tup (pt2 t.2))) → Q (.ref l) H'
theorem ok_law_near (T : Txt P w K mg A) : FnOk P w K mg base CX0 1 A.a_law_near A.d_law_near ["_law_one", "_law_other", "_law_places"] sp_law_near := by
  refine T.F_law_near.ok sc_law_near (fun vs H Q E h => ?_) (fun cdv Ar outer s H vs Q E hr h => ?_)
  · obtain ⟨R, S, pl, p, rfl, _⟩ := h
    rfl
  · obtain ⟨R, S, pl, p, rfl, hR, hS, hp, k⟩ := h
    have hu := hu_of hr
    refine ⟨_, (pss_cons (ps_set (i := 3) sc_law_near.nd rfl (Or.inl rfl) (pe_op op_mod (pe_op op_add (pe_ix ix_tup (pv 2) pe_int (fun _ _ => rfl)) pe_int) (pe_op op_add (pe_callB call_lenV rfl T.b_len boot_len (pa_cons (pv 0) pa_nil)) pe_int)))
    (pss_cons (ps_set (i := 4) sc_law_near.nd rfl (Or.inl rfl) (pe_op op_mod (pe_op op_add (pe_ix ix_tup (pv 2) pe_int (fun _ _ => rfl)) pe_int) (pe_op op_add (pe_callB call_lenV rfl T.b_len boot_len (pa_cons (pv 1) pa_nil)) pe_int)))
    (pss_one (ps_ret (pe_lst (pa_cons (pv 2) (pa_cons (pe_tup (pa_cons (pv 3) (pa_cons (pe_ix ix_tup (pv 2) pe_int (fun _ _ => rfl)) pa_nil))) (pa_cons (pe_tup (pa_cons (pe_ix ix_tup (pv 2) pe_int (fun _ _ => rfl)) (pa_cons (pv 4) pa_nil))) (pa_cons (pe_tup (pa_cons (pe_ix ix_tup (pv 2) pe_int (fun _ _ => rfl)) (pa_cons (pe_callB call_lenV rfl T.b_len boot_len (pa_cons (pv 1) pa_nil)) pa_nil))) (pa_cons (pe_tup (pa_cons (pe_callB call_lenV rfl T.b_len boot_len (pa_cons (pv 0) pa_nil)) (pa_cons (pe_ix ix_tup (pv 2) pe_int (fun _ _ => rfl)) pa_nil))) pa_nil)))))))))), ?_⟩
    have z2 : 2 ≤ sizeLine := by decide
    have z5 : 5 ≤ sizeLine := by decide
    have bR : (rt R).length ≤ sizeLine := by rw [rt_length]; exact bigM hR
    have bS : (rt S).length ≤ sizeLine := by rw [rt_length]; exact bigM hS
    refine ⟨_, rfl, pl, _, _, _, rfl, rfl, SqT.of hp, atI_nat (j := 0) rfl, _, _, rfl, rfl, _, rfl, _, _, rfl, ⟨bR, rfl⟩, _, _, rfl, rfl, _, _, rfl, rfl, (by show (0 : Int) < ((rt R).length : Int) + 1; omega), ?_⟩
    dsimp only [gName, tSeq, tAsg]
    generalize (p.1 + 2) % (((rt R).length : Int) + 1) = f
    refine ⟨_, rfl, pl, _, _, _, rfl, rfl, SqT.of hp, atI_nat (j := 1) rfl, _, _, rfl, rfl, _, rfl, _, _, rfl, ⟨bS, rfl⟩, _, _, rfl, rfl, _, _, rfl, rfl, (by show (0 : Int) < ((rt S).length : Int) + 1; omega), ?_⟩
    dsimp only [gName, tSeq, tAsg]
    generalize (p.2 + 2) % (((rt S).length : Int) + 1) = g
    refine ⟨_, rfl, _, rfl, _, rfl, pl, _, _, _, rfl, rfl, SqT.of hp, atI_nat (j := 1) rfl, z2, fun t1 h1 => ?_⟩
    have S1 := same_upd (o := .tup [V.int f, V.int p.2]) h1
    refine ⟨_, rfl, pl, _, _, _, rfl, rfl, SqT.of (S1 _ _ hp), atI_nat (j := 0) rfl, _, rfl, z2, fun t2 h2 => ?_⟩
    have S2 := same_upd (o := .tup [V.int p.1, V.int g]) h2
    refine ⟨_, rfl, pl, _, _, _, rfl, rfl, SqT.of (S2 _ _ (S1 _ _ hp)), atI_nat (j := 0) rfl, _, rfl, _, _, rfl, ⟨bS, rfl⟩, z2, fun t3 h3 => ?_⟩
    have S3 := same_upd (o := .tup [V.int p.1, V.int ((rt S).length : Int)]) h3
    refine ⟨_, rfl, _, _, rfl, ⟨bR, rfl⟩, _, rfl, pl, _, _, _, rfl, rfl, SqT.of (S3 _ _ (S2 _ _ (S1 _ _ hp))), atI_nat (j := 1) rfl, z2, fun t4 h4 => ?_⟩
    have S4 := same_upd (o := .tup [V.int ((rt R).length : Int), V.int p.2]) h4
    refine ⟨z5, fun l hl => ?_⟩
    have S5 := same_upd (o := .lst [.ref pl, .ref t1, .ref t2, .ref t3, .ref t4]) hl
    refine k l [(pl, p), (t1, (f, p.2)), (t2, (p.1, g)), (t3, (p.1, ((rt S).length : Int))), (t4, (((rt R).length : Int), p.2))] _ ((((S1.trans S2).trans S3).trans S4).trans S5) upd_same fun t ht => ?_
    rcases List.mem_cons.mp ht with rfl | ht
    · exact ((((S1.trans S2).trans S3).trans S4).trans S5) _ _ hp
    rcases List.mem_cons.mp ht with rfl | ht
    · exact (((S2.trans S3).trans S4).trans S5) t1 _ upd_same
    rcases List.mem_cons.mp ht with rfl | ht
    · exact ((S3.trans S4).trans S5) t2 _ upd_same
    rcases List.mem_cons.mp ht with rfl | ht
    · exact (S4.trans S5) t3 _ upd_same
    rcases List.mem_cons.mp ht with rfl | ht
    · exact S5 t4 _ upd_same
    · cases ht
end
end K08
set_option Elab.async false
set_option linter.all false
set_option maxRecDepth 100000
set_option maxHeartbeats 4000000
namespace K08
open PySem PySem.Spec PyProof.Rows L2 UM UT
section
variable {P : Program} {w : World} {K : PySem.W.Frag} {mg : Str → Option Value} {base : Heap} {A : Adr}
def MvL (H : Hp) (l : Addr) (n : Nat) : Prop := ∃ ms : List Mv, H l = some (.lst (ms.map mvV)) ∧ ms.length ≤ n
def PrL (H : Hp) (l : Addr) (n : Nat) : Prop := ∃ N : List (Addr × Pr), H l = some (.lst (refs N)) ∧ (∀ t ∈ N, H t.1 = some (.tup (pt2 t.2))) ∧ N.length ≤ n
theorem MvL.grow {H H' : Hp} {l : Addr} {n : Nat} (h : MvL H l n) (s : Same H H') : MvL H' l n := let ⟨ms, e, q⟩ := h; ⟨ms, s _ _ e, q⟩
theorem PrL.grow {H H' : Hp} {l : Addr} {n : Nat} (h : PrL H l n) (s : Same H H') : PrL H' l n := let ⟨N, e, t, q⟩ := h; ⟨N, s _ _ e, fun u hu => s _ _ (t u hu), q⟩
def sp_law_way_right : Sp := fun vs H Q _ => ∃ R S pl p l, vs = [.str (rt R), .str (rt S), .ref pl, .ref l] ∧ R.length ≤ 16000000 ∧ S.length ≤ 16000000 ∧ H pl = some (.tup (pt2 p)) ∧ MvL H l 16000000 ∧ ∀ H', Same H H' → Q (.bl true) H'
theorem ok_law_way_right (T : Txt P w K mg A) : FnOk P w K mg base CX0 5 A.a_law_way_right A.d_law_way_right ["_law_one", "_law_other", "_law_places", "_law_moves"] sp_law_way_right := by
  have G_Way_init : FnOk P w K mg base CX0 1 A.a_Way_init A.d_Way_init ["self", "moves"] (sp_Way_init A.c_Way) := ok_Way_init T
  have G_Way_shows : FnOk P w K mg base CX0 4 A.a_Way_shows A.d_Way_shows ["self", "one", "other", "first", "second"] (sp_Way_shows A.c_Way) := ok_Way_shows T
  have G_Shut_shows : FnOk P w K mg base CX0 4 A.a_Shut_shows A.d_Shut_shows ["self", "one", "other", "first", "second"] (sp_Shut_shows A.c_Shut) := ok_Shut_shows T
  have G_law_walked : FnOk P w K mg base CX0 2 A.a_law_walked A.d_law_walked ["_law_one", "_law_other", "_law_moves"] (sp_law_walked K) := ok_law_walked T
  have G_law_near : FnOk P w K mg base CX0 1 A.a_law_near A.d_law_near ["_law_one", "_law_other", "_law_places"] sp_law_near := ok_law_near T
  have G_law_says : FnOk P w K mg base CX0 1 A.a_law_says A.d_law_says ["_law_said", "_law_due"] sp_law_says := ok_law_says T
  refine T.F_law_way_right.ok sc_law_way_right (fun vs H Q E h => ?_) (fun cdv Ar outer s H vs Q E hr h => ?_)
  · obtain ⟨R, S, pl, p, l, rfl, _⟩ := h
    rfl
  · obtain ⟨R, S, pl, p, l, rfl, hR, hS, hp, ⟨ms, hl, hm⟩, k⟩ := h
    have hu := hu_of hr
    refine ⟨_, (pss_cons (ps_set (i := 4) sc_law_way_right.nd rfl (Or.inl rfl) (pe_callTy call_list_of rfl T.b_list boot_list (pa_cons (pv 3) pa_nil)))
    (pss_cons (ps_set (i := 5) sc_law_way_right.nd rfl (Or.inl rfl) (pe_make T.M_Way G_Way_init (hr.mono (by decide)) rfl T.m_Way T.B_Way_init .nil pass0 (pa_cons (pv 4) pa_nil)))
    (pss_cons (ps_expr (pe_bm PySem.F.plainAttrs_list PySem.F.slot_list_append PySem.F.type_list_append mt_append (pv 4) (pa_cons pe_str pa_nil)))
    (pss_cons (ps_if (pt_cmpR (op_neF hr.units0) (pe_fld (pv 5) rfl) (pv 3) (nomark _))
      (pss_one (ps_ret pe_bl))
      pss_nil)
    (pss_cons (ps_set (i := 6) sc_law_way_right.nd rfl (Or.inl rfl) (pe_call G_law_walked (hr.mono (by decide)) rfl T.m_law_walked T.k_law_walked T.B_law_walked .nil pass0 (pa_cons (pv 0) (pa_cons (pv 1) (pa_cons (pv 3) pa_nil)))))
    (pss_cons (ps_for PassesOwn.never rfl (pi_list (pe_call G_law_near (hr.mono (by decide)) rfl T.m_law_near T.k_law_near T.B_law_near .nil pass0 (pa_cons (pv 0) (pa_cons (pv 1) (pa_cons (pv 2) pa_nil))))) (pg_tup rfl (pgs_cons (pg_name (i := 7) sc_law_way_right.nd rfl (Or.inl rfl)) (pgs_cons (pg_name (i := 8) sc_law_way_right.nd rfl (Or.inl rfl)) pgs_nil)))
      (pss_one (ps_if (pt_not (pt_val (pe_call G_law_says (hr.mono (by decide)) rfl T.m_law_says T.k_law_says T.B_law_says .nil pass0 (pa_cons (pe_meth2 (pv 5) T.cl_Way T.cl_Shut T.me_Way_shows T.me_Shut_shows G_Way_shows G_Shut_shows (hr.mono (by decide)) T.B_Way_shows T.B_Shut_shows (pa_cons (pv 0) (pa_cons (pv 1) (pa_cons (pv 7) (pa_cons (pv 8) pa_nil))))) (pa_cons (pe_cmpR (op_eqNT hr.units0) (pv 6) (pe_tup (pa_cons (pv 7) (pa_cons (pv 8) pa_nil))) (nomark _)) pa_nil)))))
        (pss_one (ps_ret pe_bl))
        pss_nil)))
    (pss_one (ps_ret pe_bl)))))))), ?_⟩
    have z2 : 2 ≤ sizeLine := by decide
    refine ⟨_, rfl, l, _, rfl, .inl (SqL.of hl), fun hd hhd => ?_⟩
    have s1 := same_upd (o := .lst (ms.map mvV)) hhd
    have e1 : upd H hd (.lst (ms.map mvV)) hd = some (.lst (ms.map mvV)) := upd_same
    generalize upd H hd (.lst (ms.map mvV)) = H1 at s1 e1
    refine ⟨_, rfl, fun x dx hx hdx hne => ?_⟩
    have r2 : Same H1 (upd (upd H1 dx (.own x)) x (.ins A.c_Way dx [])) := ((Same.refl H1).upd hdx rfl).upd hx rfl
    refine ⟨x, dx, hd, _, rfl, upd_same, r2 _ _ e1, fun lf hlf => ⟨rfl, ?_⟩⟩
    have nlx : lf ≠ x := fun z => by rw [z, upd_same] at hlf; cases hlf
    have r3 := (r2.upd (o := .lst (ms.map mvV)) (r2.free hlf) rfl).upd (o := .ins A.c_Way dx [("moves", .ref lf)]) hx rfl
    have ex : upd (upd (upd (upd H1 dx (.own x)) x (.ins A.c_Way dx [])) lf (.lst (ms.map mvV))) x (.ins A.c_Way dx [("moves", .ref lf)]) x = some (.ins A.c_Way dx [("moves", .ref lf)]) := upd_same
    have elf : upd (upd (upd (upd H1 dx (.own x)) x (.ins A.c_Way dx [])) lf (.lst (ms.map mvV))) x (.ins A.c_Way dx [("moves", .ref lf)]) lf = some (.lst (ms.map mvV)) := by rw [upd_ne nlx, upd_same]
    have nh : hd ≠ lf := ne_of_none (r2 _ _ e1) hlf
    generalize upd (upd (upd (upd H1 dx (.own x)) x (.ins A.c_Way dx [])) lf (.lst (ms.map mvV))) x (.ins A.c_Way dx [("moves", .ref lf)]) = H3 at r3 ex elf
    have e3 := r3 _ _ e1
    refine ⟨_, rfl, .inl ⟨rfl, _, SqL.of e3⟩, hd, _, _, rfl, rfl, e3, (by rw [List.length_map]; exact smallM hm), ?_⟩
    have ex4 : upd H3 hd (.lst (ms.map mvV ++ [V.str "ff"])) x = some (.ins A.c_Way dx [("moves", .ref lf)]) := by rw [upd_ne (ne_of ex e3 (fun z => nomatch z))]; exact ex
    have elf4 : upd H3 hd (.lst (ms.map mvV ++ [V.str "ff"])) lf = some (.lst (ms.map mvV)) := by rw [upd_ne nh.symm]; exact elf
    have s4 : Same H (upd H3 hd (.lst (ms.map mvV ++ [V.str "ff"]))) := (s1.trans r3).upd hhd rfl
    generalize upd H3 hd (.lst (ms.map mvV ++ [V.str "ff"])) = H4 at ex4 elf4 s4
    refine ⟨_, rfl, x, _, _, _, _, rfl, ex4, T.cl_Way, T.n_Way_moves, rfl, _, rfl, lf, l, _, _, rfl, rfl, SqL.of elf4, SqL.of (s4 _ _ hl), flat_mv _, flat_mv _, _, rfl, iteFe (by rw [if_pos rfl, eqL_self (flat_mv _)]; rfl) ?_⟩
    refine ⟨_, rfl, _, rfl, _, rfl, R, S, l, ms, rfl, hR, hS, SqL.of (s4 _ _ hl), fun c H5 s5 hcome => ?_⟩
    have s45 := s4.trans s5
    refine ⟨_, rfl, _, rfl, _, rfl, R, S, pl, p, rfl, hR, hS, s45 _ _ hp, fun ln M H6 s6 e6 hM => ?_⟩
    refine ⟨ln, rfl, ⟨_, SqL.of e6⟩, for_each (ItOf.list K ln (refs M)) (fun rest σ H7 => ∃ (M2 : List (Addr × Pr)) (y1 y2 : Option V), rest = refs M2 ∧ (∀ t ∈ M2, t ∈ M) ∧ σ = [some (.str (rt R)), some (.str (rt S)), some (.ref pl), some (.ref l), some (.ref hd), some (.ref x), some c, y1, y2] ∧ Same H6 H7)
      ⟨M, none, none, rfl, fun t h => h, rfl, Same.refl _⟩ (fun r σ H7 ⟨_, _, _, _, _, _, s7⟩ => SqL.of (s7 _ _ e6)) ?_ ?_⟩
    · rintro v rest σ H7 ⟨M2, y1, y2, er, hM2, rfl, s7⟩
      cases M2 with
      | nil => cases er
      | cons u M2 =>
        obtain ⟨rfl, rfl⟩ := List.cons.inj er
        have eu := s7 _ _ (hM u (hM2 u List.mem_cons_self))
        have hM3 : ∀ t ∈ M2, t ∈ M := fun t h => hM2 t (List.mem_cons_of_mem _ h)
        obtain ⟨u, i, j⟩ := u
        have eu : H7 u = some (.tup [V.int i, V.int j]) := eu
        refine ⟨u, _, rfl, SqT.of eu, rfl, _, _, rfl, _, _, rfl, rfl, ?_⟩
        have r7 := (s5.trans s6).trans s7
        refine ⟨_, rfl, .inl ⟨x, dx, _, rfl, r7 _ _ ex4, rfl, _, rfl, _, rfl, _, rfl, _, rfl, x, dx, lf, R, S, i, j, ms, rfl, hR, hS, r7 _ _ ex4, r7 _ _ elf4, fun H8 s8 => ?_⟩⟩
        refine ⟨_, rfl, _, rfl, _, rfl, z2, fun g hg => ?_⟩
        have s9 := s8.trans (same_upd (o := .tup [V.int i, V.int j]) hg)
        rcases hcome.grow (((s6.trans s7).trans s8).trans (same_upd (o := .tup [V.int i, V.int j]) hg)) with ⟨t, r, rfl, et, hw⟩ | ⟨rfl, hw⟩
        · refine .inr ⟨t, g, _, _, rfl, rfl, SqT.of et, SqT.of upd_same, rfl, rfl, _, _, rfl, _, rfl, ?_⟩
          have e : (decide (V.bl (decide (wlk (hts 0 R) (hts 0 S) (0, 0) ms = some (i, j))) = V.bl (eqL (pt2 r) [V.int i, V.int j]))) = true := by
            have e0 : eqL (pt2 r) [V.int i, V.int j] = decide (wlk (hts 0 R) (hts 0 S) (0, 0) ms = some (i, j)) := by
              show eqL (pt2 r) (pt2 (i, j)) = _
              rw [eqL_pt, hw, Bool.eq_iff_iff, decide_eq_true_iff, decide_eq_true_iff]
              exact ⟨fun z => congrArg some z, fun z => Option.some.inj z⟩
            rw [e0, decide_eq_true rfl]
          rw [e]
          refine iteF ?_
          exact ⟨M2, _, _, rfl, hM3, rfl, s7.trans s9⟩
        · refine .inl ⟨rfl, g, _, rfl, SqT.of upd_same, _, _, rfl, _, rfl, ?_⟩
          have e : (decide (V.bl (decide (wlk (hts 0 R) (hts 0 S) (0, 0) ms = some (i, j))) = V.bl false)) = true := by
            rw [hw]
            rfl
          rw [e]
          refine iteF ?_
          exact ⟨M2, _, _, rfl, hM3, rfl, s7.trans s9⟩
    · rintro σ H7 ⟨M2, y1, y2, er, hM2, rfl, s7⟩
      exact k H7 ((s45.trans s6).trans s7)
def sp_law_shut_right : Sp := fun vs H Q _ => ∃ R S pl p l, vs = [.str (rt R), .str (rt S), .ref pl, .ref l] ∧ R.length ≤ 16000000 ∧ S.length ≤ 16000000 ∧ H pl = some (.tup (pt2 p)) ∧ PrL H l 16000000 ∧ ∀ H', Same H H' → Q (.bl true) H'
theorem ok_law_shut_right (T : Txt P w K mg A) : FnOk P w K mg base CX0 5 A.a_law_shut_right A.d_law_shut_right ["_law_one", "_law_other", "_law_places", "_law_pairs"] sp_law_shut_right := by
  have G_law_heights : FnOk P w K mg base CX0 1 A.a_law_heights A.d_law_heights ["_law_ridge"] sp_heights := ok_law_heights T
  have G_Shut_init : FnOk P w K mg base CX0 1 A.a_Shut_init A.d_Shut_init ["self", "pairs"] (sp_Shut_init A.c_Shut) := ok_Shut_init T
  have G_Way_shows : FnOk P w K mg base CX0 4 A.a_Way_shows A.d_Way_shows ["self", "one", "other", "first", "second"] (sp_Way_shows A.c_Way) := ok_Way_shows T
  have G_Shut_shows : FnOk P w K mg base CX0 4 A.a_Shut_shows A.d_Shut_shows ["self", "one", "other", "first", "second"] (sp_Shut_shows A.c_Shut) := ok_Shut_shows T
  have G_law_shut : FnOk P w K mg base CX0 2 A.a_law_shut A.d_law_shut ["_law_mine", "_law_theirs", "_law_places", "_law_pairs"] (sp_law_shut K) := ok_law_shut T
  have G_law_near : FnOk P w K mg base CX0 1 A.a_law_near A.d_law_near ["_law_one", "_law_other", "_law_places"] sp_law_near := ok_law_near T
  have G_law_says : FnOk P w K mg base CX0 1 A.a_law_says A.d_law_says ["_law_said", "_law_due"] sp_law_says := ok_law_says T
  refine T.F_law_shut_right.ok sc_law_shut_right (fun vs H Q E h => ?_) (fun cdv Ar outer s H vs Q E hr h => ?_)
  · obtain ⟨R, S, pl, p, l, rfl, _⟩ := h
    rfl
  · obtain ⟨R, S, pl, p, l, rfl, hR, hS, hp, ⟨N, hl, hN, hn⟩, k⟩ := h
    have hu := hu_of hr
    refine ⟨_, (pss_cons (ps_set (i := 4) sc_law_shut_right.nd rfl (Or.inl rfl) (pe_callTy call_list_of rfl T.b_list boot_list (pa_cons (pv 3) pa_nil)))
    (pss_cons (ps_set (i := 5) sc_law_shut_right.nd rfl (Or.inl rfl) (pe_make T.M_Shut G_Shut_init (hr.mono (by decide)) rfl T.m_Shut T.B_Shut_init .nil pass0 (pa_cons (pv 4) pa_nil)))
    (pss_cons (ps_expr (pe_bm PySem.F.plainAttrs_list PySem.F.slot_list_append PySem.F.type_list_append mt_append (pv 4) (pa_cons (pe_tup (pa_cons pe_int (pa_cons pe_int pa_nil))) pa_nil)))
    (pss_cons (ps_if (pt_cmpR (op_neR hr.units0) (pe_fld (pv 5) rfl) (pv 3) (nomark _))
      (pss_one (ps_ret pe_bl))
      pss_nil)
    (pss_cons (ps_set (i := 6) sc_law_shut_right.nd rfl (Or.inl rfl) (pe_call G_law_heights (hr.mono (by decide)) rfl T.m_law_heights T.k_law_heights T.B_law_heights .nil pass0 (pa_cons (pv 0) pa_nil)))
    (pss_cons (ps_set (i := 7) sc_law_shut_right.nd rfl (Or.inl rfl) (pe_call G_law_heights (hr.mono (by decide)) rfl T.m_law_heights T.k_law_heights T.B_law_heights .nil pass0 (pa_cons (pv 1) pa_nil)))
    (pss_cons (ps_for PassesOwn.never rfl (pi_list (pe_call G_law_near (hr.mono (by decide)) rfl T.m_law_near T.k_law_near T.B_law_near .nil pass0 (pa_cons (pv 0) (pa_cons (pv 1) (pa_cons (pv 2) pa_nil))))) (pg_tup rfl (pgs_cons (pg_name (i := 8) sc_law_shut_right.nd rfl (Or.inl rfl)) (pgs_cons (pg_name (i := 9) sc_law_shut_right.nd rfl (Or.inl rfl)) pgs_nil)))
      (pss_one (ps_if (pt_not (pt_val (pe_call G_law_says (hr.mono (by decide)) rfl T.m_law_says T.k_law_says T.B_law_says .nil pass0 (pa_cons (pe_meth2 (pv 5) T.cl_Way T.cl_Shut T.me_Way_shows T.me_Shut_shows G_Way_shows G_Shut_shows (hr.mono (by decide)) T.B_Way_shows T.B_Shut_shows (pa_cons (pv 0) (pa_cons (pv 1) (pa_cons (pv 8) (pa_cons (pv 9) pa_nil))))) (pa_cons (pe_call G_law_shut (hr.mono (by decide)) rfl T.m_law_shut T.k_law_shut T.B_law_shut .nil pass0 (pa_cons (pv 6) (pa_cons (pv 7) (pa_cons (pe_tup (pa_cons (pv 8) (pa_cons (pv 9) pa_nil))) (pa_cons (pv 3) pa_nil))))) pa_nil)))))
        (pss_one (ps_ret pe_bl))
        pss_nil)))
    (pss_one (ps_ret pe_bl))))))))), ?_⟩
    have z2 : 2 ≤ sizeLine := by decide
    refine ⟨_, rfl, l, _, rfl, .inl (SqL.of hl), fun hd hhd => ?_⟩
    have s1 := same_upd (o := .lst (refs N)) hhd
    have e1 : upd H hd (.lst (refs N)) hd = some (.lst (refs N)) := upd_same
    generalize upd H hd (.lst (refs N)) = H1 at s1 e1
    refine ⟨_, rfl, fun x dx hx hdx hne => ?_⟩
    have r2 : Same H1 (upd (upd H1 dx (.own x)) x (.ins A.c_Shut dx [])) := ((Same.refl H1).upd hdx rfl).upd hx rfl
    refine ⟨x, dx, hd, _, rfl, upd_same, r2 _ _ e1, fun lf hlf => ⟨rfl, ?_⟩⟩
    have nlx : lf ≠ x := fun z => by rw [z, upd_same] at hlf; cases hlf
    have r3 := (r2.upd (o := .lst (refs N)) (r2.free hlf) rfl).upd (o := .ins A.c_Shut dx [("pairs", .ref lf)]) hx rfl
    have ex : upd (upd (upd (upd H1 dx (.own x)) x (.ins A.c_Shut dx [])) lf (.lst (refs N))) x (.ins A.c_Shut dx [("pairs", .ref lf)]) x = some (.ins A.c_Shut dx [("pairs", .ref lf)]) := upd_same
    have elf : upd (upd (upd (upd H1 dx (.own x)) x (.ins A.c_Shut dx [])) lf (.lst (refs N))) x (.ins A.c_Shut dx [("pairs", .ref lf)]) lf = some (.lst (refs N)) := by rw [upd_ne nlx, upd_same]
    have nh : hd ≠ lf := ne_of_none (r2 _ _ e1) hlf
    generalize upd (upd (upd (upd H1 dx (.own x)) x (.ins A.c_Shut dx [])) lf (.lst (refs N))) x (.ins A.c_Shut dx [("pairs", .ref lf)]) = H3 at r3 ex elf
    have e3 := r3 _ _ e1
    refine ⟨_, rfl, .inl ⟨rfl, _, SqL.of e3⟩, z2, fun t0 ht0 => ?_⟩
    have S4 := same_upd (o := .tup [V.int 0, V.int 0]) ht0
    have e3 := S4 _ _ e3
    have ex := S4 _ _ ex
    have elf := S4 _ _ elf
    have r3 := r3.trans S4
    generalize upd H3 t0 (.tup [V.int 0, V.int 0]) = H3' at e3 ex elf r3
    refine ⟨hd, _, _, rfl, rfl, e3, (by unfold refs; rw [List.length_map]; exact smallM hn), ?_⟩
    have ex4 : upd H3' hd (.lst (refs N ++ [V.ref t0])) x = some (.ins A.c_Shut dx [("pairs", .ref lf)]) := by rw [upd_ne (ne_of ex e3 (fun z => nomatch z))]; exact ex
    have elf4 : upd H3' hd (.lst (refs N ++ [V.ref t0])) lf = some (.lst (refs N)) := by rw [upd_ne nh.symm]; exact elf
    have s4 : Same H (upd H3' hd (.lst (refs N ++ [V.ref t0]))) := (s1.trans r3).upd hhd rfl
    generalize upd H3' hd (.lst (refs N ++ [V.ref t0])) = H4 at ex4 elf4 s4
    have er : refs N = (N.map (·.1)).map V.ref := by unfold refs; rw [List.map_map]; rfl
    refine ⟨_, rfl, x, _, _, _, _, rfl, ex4, T.cl_Shut, T.n_Shut_pairs, rfl, _, rfl, lf, l, N.map (·.1), rfl, rfl, SqL.of (er ▸ elf4), SqL.of (er ▸ s4 _ _ hl), _, rfl, iteF ?_⟩
    refine ⟨_, rfl, R, rfl, hR, fun a Ha ha sa ea => ?_⟩
    refine ⟨_, rfl, S, rfl, hS, fun b Hb hb sb eb => ?_⟩
    have ea := sb _ _ ea
    have s5 := sa.trans sb
    have s45 := s4.trans s5
    refine ⟨_, rfl, _, rfl, _, rfl, R, S, pl, p, rfl, hR, hS, s45 _ _ hp, fun ln M H6 s6 e6 hM => ?_⟩
    refine ⟨ln, rfl, ⟨_, SqL.of e6⟩, for_each (ItOf.list K ln (refs M)) (fun rest σ H7 => ∃ (M2 : List (Addr × Pr)) (y1 y2 : Option V), rest = refs M2 ∧ (∀ t ∈ M2, t ∈ M) ∧ σ = [some (.str (rt R)), some (.str (rt S)), some (.ref pl), some (.ref l), some (.ref hd), some (.ref x), some (.ref a), some (.ref b), y1, y2] ∧ Same H6 H7)
      ⟨M, none, none, rfl, fun t h => h, rfl, Same.refl _⟩ (fun r σ H7 ⟨_, _, _, _, _, _, s7⟩ => SqL.of (s7 _ _ e6)) ?_ ?_⟩
    · rintro v rest σ H7 ⟨M2, y1, y2, er, hM2, rfl, s7⟩
      cases M2 with
      | nil => cases er
      | cons u M2 =>
        obtain ⟨rfl, rfl⟩ := List.cons.inj er
        have eu := s7 _ _ (hM u (hM2 u List.mem_cons_self))
        have hM3 : ∀ t ∈ M2, t ∈ M := fun t h => hM2 t (List.mem_cons_of_mem _ h)
        obtain ⟨u, i, j⟩ := u
        have eu : H7 u = some (.tup [V.int i, V.int j]) := eu
        refine ⟨u, _, rfl, SqT.of eu, rfl, _, _, rfl, _, _, rfl, rfl, ?_⟩
        have r7 := (s5.trans s6).trans s7
        have s7a := (s45.trans s6).trans s7
        refine ⟨_, rfl, .inr ⟨x, dx, _, rfl, r7 _ _ ex4, rfl, _, rfl, _, rfl, _, rfl, _, rfl, x, dx, lf, R, S, i, j, N, rfl, hR, hS, r7 _ _ ex4, r7 _ _ elf4, fun t ht => s7a _ _ (hN t ht), by omega, fun H8 s8 => ?_⟩⟩
        refine ⟨_, rfl, _, rfl, _, rfl, _, rfl, z2, fun g hg => ?_⟩
        have s9 := s8.trans (same_upd (o := .tup [V.int i, V.int j]) hg)
        have q9 := (s6.trans s7).trans s9
        have h9 := s7a.trans s9
        refine ⟨_, rfl, a, b, g, l, _, _, (i, j), N, rfl, q9 _ _ ea, q9 _ _ eb, upd_same, h9 _ _ hl, fun t ht => h9 _ _ (hN t ht), hn, fun H10 s10 => ⟨_, _, rfl, _, rfl, ?_⟩⟩
        rw [decide_eq_true rfl]
        refine iteF ?_
        exact ⟨M2, _, _, rfl, hM3, rfl, (s7.trans s9).trans s10⟩
    · rintro σ H7 ⟨M2, y1, y2, er, hM2, rfl, s7⟩
      exact k H7 ((s45.trans s6).trans s7)
end
end K08
set_option Elab.async false
set_option linter.all false
set_option maxRecDepth 100000
set_option maxHeartbeats 4000000
namespace K08
open PySem PySem.Spec PyProof.Rows L2 UM UT
def bit (n : Int) : Bool := decide (n % 2 = 0)
def cellV : V → V
  | .int n => sg (cd (bit n))
  | v => v
def cellW : V → V
  | .int n => sg (cd (bit (n / 2)))
  | v => v
theorem at_ud (n : Int) : atI (Str.ofString "ud").cps.toList (n % 2) = some (cd (bit n)) := by
  unfold bit
  rcases Int.emod_two_eq n with h | h <;> rw [h] <;> decide +kernel
theorem rd_ifP {c : TT} {t u : TS} {D : Ends} {σ : L2.St} {H : Hp} (G : Bool → Hp → Prop) (F : L2.St → Hp → Prop) (hc : ∀ R : Bool → Hp → Prop, (∀ b H', G b H' → R b H') → c σ H R) (ht : ∀ H', G true H' → (∀ σ' H'', F σ' H'' → D.nx σ' H'') → t D σ H') (hu : ∀ H', G false H' → (∀ σ' H'', F σ' H'' → D.nx σ' H'') → u D σ H') (q : ∀ σ' H'', F σ' H'' → D.nx σ' H'') : tIfS c t u D σ H := by
  refine hc _ fun b H' g => ?_
  cases b with
  | true => exact iteT (ht H' g q)
  | false => exact iteF (hu H' g q)
theorem rel_refs2 {Pp : Pr → Prop} (H : Hp) : ∀ (ys : List V), (∀ (i : Nat) y, ys[i]? = some y → ∃ q g, y = .ref q ∧ H q = some (.tup (pt2 g)) ∧ Pp g) → ∃ M : List (Addr × Pr), ys = refs M ∧ ∀ t ∈ M, H t.1 = some (.tup (pt2 t.2)) ∧ Pp t.2 := by
  intro ys
  induction ys with
  | nil => intro _; exact ⟨[], rfl, fun t h => nomatch h⟩
  | cons y ys ih =>
    intro h
    obtain ⟨M, e1, e3⟩ := ih fun i y h2 => h (i + 1) y h2
    obtain ⟨q, g, rfl, eq, pg⟩ := h 0 y rfl
    refine ⟨(q, g) :: M, by rw [e1]; rfl, fun t ht => ?_⟩
    rcases List.mem_cons.mp ht with rfl | ht
    · exact ⟨eq, pg⟩
    · exact e3 t ht
def mvAt (n : Int) : Mv := if n / 4 % 4 = 0 then (true, true) else if n / 4 % 4 = 1 then (true, false) else if n / 4 % 4 = 2 then (false, true) else (false, false)
def moveV : V → V
  | .int n => mvV (mvAt n)
  | v => v
theorem at_mv (n : Int) : atI [V.str (Str.ofString "ff"), V.str (Str.ofString "fb"), V.str (Str.ofString "bf"), V.str (Str.ofString "bb")] (n / 4 % 4) = some (mvV (mvAt n)) := by
  have h : n / 4 % 4 = 0 ∨ n / 4 % 4 = 1 ∨ n / 4 % 4 = 2 ∨ n / 4 % 4 = 3 := by omega
  unfold mvAt
  rcases h with h | h | h | h <;> rw [h] <;> decide +kernel
theorem mv_two : ([(true, true), (false, false)] : List Mv).map mvV = [V.str "ff", V.str "bb"] := by decide +kernel
theorem mv_one : ([(true, false)] : List Mv).map mvV = [V.str "fb"] := by decide +kernel
theorem cons_tup {H : Hp} {u : Addr} {g : Pr} {N : List (Addr × Pr)} (h1 : H u = some (.tup (pt2 g))) (h2 : ∀ t ∈ N, H t.1 = some (.tup (pt2 t.2))) : ∀ t ∈ (u, g) :: N, H t.1 = some (.tup (pt2 t.2)) := by
  intro t h
  rcases List.mem_cons.mp h with rfl | h
  · exact h1
  · exact h2 t h
theorem cut_mv (ms : List Mv) (lo hi : Option Int) : ∃ ms' : List Mv, cutV (ms.map mvV) lo hi = ms'.map mvV ∧ ms'.length ≤ ms.length := by
  refine ⟨(ms.drop (HT.sIx (ms.map mvV).length 0 lo)).take (HT.sIx (ms.map mvV).length (ms.map mvV).length hi - HT.sIx (ms.map mvV).length 0 lo), ?_, ?_⟩
  · unfold cutV
    rw [List.map_take, List.map_drop]
  · rw [List.length_take, List.length_drop]
    omega
theorem cut_refs (N : List (Addr × Pr)) (lo hi : Option Int) : ∃ N' : List (Addr × Pr), cutV (refs N) lo hi = refs N' ∧ N'.length ≤ N.length ∧ ∀ t ∈ N', t ∈ N := by
  refine ⟨(N.drop (HT.sIx (refs N).length 0 lo)).take (HT.sIx (refs N).length (refs N).length hi - HT.sIx (refs N).length 0 lo), ?_, ?_, fun t h => List.mem_of_mem_drop (List.mem_of_mem_take h)⟩
  · unfold cutV refs
    rw [List.map_take, List.map_drop]
  · rw [List.length_take, List.length_drop]
    omega
theorem refs_append (M N : List (Addr × Pr)) : refs M ++ refs N = refs (M ++ N) := by unfold refs; rw [List.map_append]
theorem refs_length (M : List (Addr × Pr)) : (refs M).length = M.length := List.length_map _
def AnsT (CW CS : Addr) (n : Nat) (x : Addr) (H : Hp) : Prop :=
  (∃ dx l ms, H x = some (.ins CW dx [("moves", .ref l)]) ∧ H l = some (.lst (List.map mvV ms)) ∧ ms.length ≤ n) ∨
  (∃ dx l N, H x = some (.ins CS dx [("pairs", .ref l)]) ∧ H l = some (.lst (refs N)) ∧ (∀ t ∈ N, H t.1 = some (.tup (pt2 t.2))) ∧ N.length ≤ n ∧ 0 < N.length)
def sp_reachedA (CW CS : Addr) : Sp := fun vs H Q _ => ∃ R S i j, vs = [.str (rt R), .str (rt S), .int i, .int j] ∧ R.length ≤ 16000000 ∧ S.length ≤ 16000000 ∧ alike (hts 0 R) (hts 0 S) i j = true ∧ cnt (hts 0 R) (hts 0 S) ≤ 1000000 ∧
  ∀ p H', Same H H' → AnsT CW CS 1000000 p H' → Q (.ref p) H'
def MvLs (H : Hp) (l : Addr) (n : Nat) : Prop := ∃ as : List Addr, H l = some (.lst (as.map V.ref)) ∧ as.length ≤ n ∧ ∀ a ∈ as, MvL H a 16000000
def PrLs (H : Hp) (l : Addr) (n : Nat) : Prop := ∃ as : List Addr, H l = some (.lst (as.map V.ref)) ∧ as.length ≤ n ∧ ∀ a ∈ as, PrL H a 16000000
theorem MvLs.grow {H H' : Hp} {l : Addr} {n : Nat} (h : MvLs H l n) (s : Same H H') : MvLs H' l n := let ⟨as, e, q, t⟩ := h; ⟨as, s _ _ e, q, fun a ha => (t a ha).grow s⟩
theorem PrLs.grow {H H' : Hp} {l : Addr} {n : Nat} (h : PrLs H l n) (s : Same H H') : PrLs H' l n := let ⟨as, e, q, t⟩ := h; ⟨as, s _ _ e, q, fun a ha => (t a ha).grow s⟩
section
variable {P : Program} {w : World} {K : PySem.W.Frag} {mg : Str → Option Value} {base : Heap} {A : Adr}
theorem ok_reachedA (T : Txt P w K mg A) : FnOk P w K mg base CX0 5 A.a_reached A.d_reached ["one", "other", "first", "second"] (sp_reachedA A.c_Way A.c_Shut) := (ok_reached T).imp fun vs H Q E h => by
  obtain ⟨R, S, i, j, rfl, hR, hS, hal, hc, k⟩ := h
  refine ⟨R, S, i, j, rfl, hR, hS, hal, by omega, fun p dx l ms H' _ s' ep el _ hm => k p H' s' (.inl ⟨dx, l, ms, ep, el, by omega⟩), fun p dx l N H' _ s' ep el hN hsh hn => k p H' s' (.inr ⟨dx, l, N, ep, el, hN, by omega, ?_⟩)⟩
  have h0 := (shutB_iff.mp hsh).2.1
  cases N with
  | nil => cases h0
  | cons t N => rw [List.length_cons]; omega
def sp_law (K : PySem.W.Frag) : Sp := fun vs H Q _ => ∃ (a : Addr) (ns : List Int), vs = [.ref a] ∧ SqL K H a (ns.map V.int) ∧ ns.length ≤ 63 ∧ ∀ H', Q (.bl true) H'
theorem ok_law (T : Txt P w K mg A) : FnOk P w K mg base CX0 7 A.a_law A.d_law ["_law_script"] (sp_law K) := by
  have G_law_heights : FnOk P w K mg base CX0 1 A.a_law_heights A.d_law_heights ["_law_ridge"] sp_heights := ok_law_heights T
  have G_reached : FnOk P w K mg base CX0 5 A.a_reached A.d_reached ["one", "other", "first", "second"] (sp_reachedA A.c_Way A.c_Shut) := ok_reachedA T
  have G_law_way_right : FnOk P w K mg base CX0 5 A.a_law_way_right A.d_law_way_right ["_law_one", "_law_other", "_law_places", "_law_moves"] sp_law_way_right := ok_law_way_right T
  have G_law_shut_right : FnOk P w K mg base CX0 5 A.a_law_shut_right A.d_law_shut_right ["_law_one", "_law_other", "_law_places", "_law_pairs"] sp_law_shut_right := ok_law_shut_right T
  refine T.F_law.ok sc_law (fun vs H Q E h => ?_) (fun cdv Ar outer s H vs Q E hr h => ?_)
  · obtain ⟨a, ns, rfl, _⟩ := h
    rfl
  · obtain ⟨a, ns, rfl, hx, hl, k⟩ := h
    have hu := hu_of hr
    refine ⟨_, (pss_cons (ps_set (i := 1) sc_law.nd rfl (Or.inl rfl) (pe_op op_fdiv (pe_callB call_lenV rfl T.b_len boot_len (pa_cons (pv 0) pa_nil)) pe_int))
    (pss_cons (ps_set (i := 2) sc_law.nd rfl (Or.inr rfl) (pe_bm PySem.F.plainAttrs_str PySem.F.slot_str_join PySem.F.type_str_join mt_join pe_str (pa_cons (pe_comp (te := (tOp _ (tC _) (tOp _ (tVar 0) (tC _)))) c0_law rfl (pi_list (pe_slice sl_list (pv 0) po_none (po_some (pv 1)))) (fun cl C s' H' fp => pifs_nil) (fun cl C s' H' fp => (pe_ix ix_str pe_str (pe_op op_mod (pv 0) pe_int) (fun _ _ => rfl)))) pa_nil)))
    (pss_cons (ps_set (i := 3) sc_law.nd rfl (Or.inr rfl) (pe_bm PySem.F.plainAttrs_str PySem.F.slot_str_join PySem.F.type_str_join mt_join pe_str (pa_cons (pe_comp (te := (tOp _ (tC _) (tOp _ (tOp _ (tVar 0) (tC _)) (tC _)))) c1_law rfl (pi_list (pe_slice sl_list (pv 0) (po_some (pv 1)) po_none)) (fun cl C s' H' fp => pifs_nil) (fun cl C s' H' fp => (pe_ix ix_str pe_str (pe_op op_mod (pe_op op_fdiv (pv 0) pe_int) pe_int) (fun _ _ => rfl)))) pa_nil)))
    (pss_cons (ps_set (i := 4) sc_law.nd rfl (Or.inl rfl) (pe_callB (call_sum rfl) rfl T.b_sum boot_sum (pa_cons (pv 0) pa_nil)))
    (pss_cons (ps_setC (te := (tOp (rIxT K) (tTup (tCons (tC _) (tCons (tC _) (tCons (tC _) (tCons (tC _) tNil))))) (tOp _ (tOp _ (tVar 0) (tC _)) (tC _)))) (j := 5) c2_law rfl sc_law.nd rfl (Or.inl rfl) (pi_list (pv 0)) (fun cl C s' H' fp => pifs_nil) (fun cl C s' H' fp => (pe_ix ix_tup (pe_tup (pa_cons pe_str (pa_cons pe_str (pa_cons pe_str (pa_cons pe_str pa_nil))))) (pe_op op_mod (pe_op op_fdiv (pv 0) pe_int) pe_int) (fun _ _ => rfl))))
    (pss_cons (ps_setC (te := (tTup (tCons (tOp _ (tVar 0) (tOp _ (tCB (rLen K) (tCons (tVar 1) tNil)) (tC _))) (tCons (tOp _ (tOp _ (tVar 0) (tC _)) (tOp _ (tCB (rLen K) (tCons (tVar 2) tNil)) (tC _))) tNil)))) (j := 6) c3_law rfl sc_law.nd rfl (Or.inl rfl) (pi_list (pe_slice sl_list (pv 0) po_none (po_some pe_int))) (fun cl C s' H' fp => pifs_nil) (fun cl C s' H' fp => (pe_tup (pa_cons (pe_op op_mod (pv 0) (pe_op op_add (pe_callB call_lenV rfl T.b_len boot_len (pa_cons (pv 1) pa_nil)) pe_int)) (pa_cons (pe_op op_mod (pe_op op_fdiv (pv 0) pe_int) (pe_op op_add (pe_callB call_lenV rfl T.b_len boot_len (pa_cons (pv 2) pa_nil)) pe_int)) pa_nil)))))
    (pss_cons (ps_set (i := 7) sc_law.nd rfl (Or.inl rfl) (pe_lst (pa_cons (pv 5) (pa_cons (pe_slice sl_list (pv 5) po_none (po_some pe_int)) (pa_cons (pe_lst pa_nil) (pa_cons (pe_lst (pa_cons pe_str (pa_cons pe_str pa_nil))) pa_nil))))))
    (pss_cons (ps_set (i := 8) sc_law.nd rfl (Or.inl rfl) (pe_lst (pa_cons (pv 6) (pa_cons (pe_op op_catL (pe_lst (pa_cons (pe_tup (pa_cons pe_int (pa_cons pe_int pa_nil))) pa_nil)) (pv 6)) (pa_cons (pe_lst (pa_cons (pe_tup (pa_cons pe_int (pa_cons pe_int pa_nil))) pa_nil)) (pa_cons (pe_lst pa_nil) (pa_cons (pe_lst (pa_cons (pe_tup (pa_cons pe_int (pa_cons pe_int pa_nil))) (pa_cons (pe_tup (pa_cons pe_int (pa_cons pe_int pa_nil))) pa_nil))) pa_nil)))))))
    (pss_cons (ps_set (i := 9) sc_law.nd rfl (Or.inr rfl) (pe_tup (pa_cons pe_int (pa_cons pe_int pa_nil))))
    (pss_cons (ps_set (i := 10) sc_law.nd rfl (Or.inl rfl) (pe_call G_law_heights (hr.mono (by decide)) rfl T.m_law_heights T.k_law_heights T.B_law_heights .nil pass0 (pa_cons (pv 2) pa_nil)))
    (pss_cons (ps_set (i := 11) sc_law.nd rfl (Or.inl rfl) (pe_call G_law_heights (hr.mono (by decide)) rfl T.m_law_heights T.k_law_heights T.B_law_heights .nil pass0 (pa_cons (pv 3) pa_nil)))
    (pss_cons (ps_for PassesOwn.never rfl (pi_range1 rfl T.b_range (pa_cons (pe_callB (call_min2 rfl) rfl T.b_min boot_min (pa_cons (pe_callB call_lenV rfl T.b_len boot_len (pa_cons (pv 10) pa_nil)) (pa_cons (pe_callB call_lenV rfl T.b_len boot_len (pa_cons (pv 11) pa_nil)) pa_nil))) pa_nil)) (pg_name (i := 12) sc_law.nd rfl (Or.inl rfl))
      (pss_one (ps_if (PW.pt (pw_and (pt_cmpR op_eq (pe_ix ix_list (pv 10) (pv 12) (fun _ _ => rfl)) (pe_ix ix_list (pv 11) (pv 12) (fun _ _ => rfl)) (nomark _)) (pw_and1 (pt_cmpR op_eq (pe_op op_mod (pv 12) pe_int) (pe_op op_mod (pv 4) pe_int) (nomark _)))))
        (pss_one (ps_set (i := 9) sc_law.nd rfl (Or.inr rfl) (pe_tup (pa_cons (pv 12) (pa_cons (pv 12) pa_nil)))))
        pss_nil)))
    (pss_cons (ps_set (i := 13) sc_law.nd rfl (Or.inl rfl) (pe_call G_reached (hr.mono (by decide)) rfl T.m_reached T.k_reached T.B_reached .nil pass0 (pa_cons (pv 2) (pa_cons (pv 3) (pa_cons (pe_ix ix_tup (pv 9) pe_int (fun _ _ => rfl)) (pa_cons (pe_ix ix_tup (pv 9) pe_int (fun _ _ => rfl)) pa_nil))))))
    (pss_cons (ps_if (pt_val (pe_callB call_isC rfl T.b_isinstance boot_isinstance (pa_cons (pv 13) (pa_cons (pe_glob (v := .ref A.c_Way) rfl T.m_Way rfl) pa_nil))))
      (pss_cons (ps_set (i := 14) sc_law.nd rfl (Or.inl rfl) (pe_op op_mod (pv 4) (pe_op op_add (pe_callB call_lenV rfl T.b_len boot_len (pa_cons (pe_fld (pv 13) rfl) pa_nil)) pe_int)))
      (pss_cons (ps_set (i := 7) sc_law.nd rfl (Or.inl rfl) (pe_op op_catL (pv 7) (pe_lst (pa_cons (pe_fld (pv 13) rfl) (pa_cons (pe_op op_catL (pe_slice sl_list (pe_fld (pv 13) rfl) po_none (po_some (pv 14))) (pe_slice sl_list (pe_fld (pv 13) rfl) (po_some (pe_op op_add (pv 14) pe_int)) po_none)) pa_nil)))))
      (pss_one (ps_set (i := 7) sc_law.nd rfl (Or.inl rfl) (pe_op op_catL (pv 7) (pe_lst (pa_cons (pe_op op_catL (pe_op op_catL (pe_slice sl_list (pe_fld (pv 13) rfl) po_none (po_some (pv 14))) (pe_lst (pa_cons pe_str (pa_cons pe_str pa_nil)))) (pe_slice sl_list (pe_fld (pv 13) rfl) (po_some (pv 14)) po_none)) (pa_cons (pe_op op_catL (pe_fld (pv 13) rfl) (pe_lst (pa_cons pe_str pa_nil))) pa_nil))))))))
      (pss_cons (ps_set (i := 14) sc_law.nd rfl (Or.inl rfl) (pe_op op_mod (pv 4) (pe_callB call_lenV rfl T.b_len boot_len (pa_cons (pe_fld (pv 13) rfl) pa_nil))))
      (pss_cons (ps_set (i := 8) sc_law.nd rfl (Or.inl rfl) (pe_op op_catL (pv 8) (pe_lst (pa_cons (pe_fld (pv 13) rfl) (pa_cons (pe_op op_catL (pe_slice sl_list (pe_fld (pv 13) rfl) po_none (po_some (pv 14))) (pe_slice sl_list (pe_fld (pv 13) rfl) (po_some (pe_op op_add (pv 14) pe_int)) po_none)) (pa_cons (pe_op op_catL (pe_fld (pv 13) rfl) (pe_lst (pa_cons (pv 9) pa_nil))) pa_nil))))))
      (pss_one (ps_set (i := 8) sc_law.nd rfl (Or.inl rfl) (pe_op op_catL (pv 8) (pe_lst (pa_cons (pe_op op_catL (pe_fld (pv 13) rfl) (pe_lst (pa_cons (pe_tup (pa_cons (pe_op op_add (pe_callB call_lenV rfl T.b_len boot_len (pa_cons (pv 2) pa_nil)) pe_int) (pa_cons pe_int pa_nil))) pa_nil))) (pa_cons (pe_op op_catL (pe_fld (pv 13) rfl) (pe_lst (pa_cons (pe_tup (pa_cons (pe_un un_neg pe_int) (pa_cons pe_int pa_nil))) pa_nil))) pa_nil)))))))))
    (pss_cons (ps_if (pt_not (pt_val (pe_callB (call_all rfl) rfl T.b_all boot_all (pa_cons (pe_comp (te := (tCall _ _ _ (tCons (tVar 1) (tCons (tVar 2) (tCons (tVar 3) (tCons (tVar 0) tNil)))))) c4_law rfl (pi_list (pv 7)) (fun cl C s' H' fp => pifs_nil) (fun cl C s' H' fp => (pe_call G_law_way_right (hr.mono (by decide)) rfl T.m_law_way_right T.k_law_way_right T.B_law_way_right .nil pass0 (pa_cons (pv 1) (pa_cons (pv 2) (pa_cons (pv 3) (pa_cons (pv 0) pa_nil))))))) pa_nil))))
      (pss_one (ps_ret pe_bl))
      pss_nil)
    (pss_one (ps_ret (pe_callB (call_all rfl) rfl T.b_all boot_all (pa_cons (pe_comp (te := (tCall _ _ _ (tCons (tVar 1) (tCons (tVar 2) (tCons (tVar 3) (tCons (tVar 0) tNil)))))) c5_law rfl (pi_list (pv 8)) (fun cl C s' H' fp => pifs_nil) (fun cl C s' H' fp => (pe_call G_law_shut_right (hr.mono (by decide)) rfl T.m_law_shut_right T.k_law_shut_right T.B_law_shut_right .nil pass0 (pa_cons (pv 1) (pa_cons (pv 2) (pa_cons (pv 3) (pa_cons (pv 0) pa_nil))))))) pa_nil))))))))))))))))))), ?_⟩
    have z1 : 1 ≤ sizeLine := by decide
    have z2 : 2 ≤ sizeLine := by decide
    have z3 : 3 ≤ sizeLine := by decide
    have z4 : 4 ≤ sizeLine := by decide
    have z5 : 5 ≤ sizeLine := by decide
    refine ⟨_, rfl, _, _, rfl, .inl ⟨_, hx, rfl⟩, _, _, rfl, rfl, ⟨by show (0 : Int) < 2; decide, by show (2 : Int) < 1073741824; decide⟩, ?_⟩
    rw [List.length_map]
    obtain ⟨m, em⟩ : ∃ m : Nat, (ns.length : Int) / 2 = (m : Int) := ⟨ns.length / 2, by omega⟩
    show gName 1 (.int ((ns.length : Int) / 2)) (L2.start N_law [V.ref a]) H _
    rw [em]
    refine ⟨rfl, _, rfl, _, rfl, _, rfl, a, _, rfl, hx, fun p1 h1 => ?_⟩
    rw [cutV_to]
    have s1 := same_upd (o := .lst ((ns.take m).map V.int)) h1
    have e1 : upd H p1 (.lst ((ns.take m).map V.int)) p1 = some (.lst ((ns.take m).map V.int)) := upd_same
    generalize upd H p1 (.lst ((ns.take m).map V.int)) = H1 at s1 e1
    refine ⟨p1, rfl, ⟨_, SqL.of e1⟩, comp_map (ItOf.list K p1 ((ns.take m).map V.int)) cellV (bigM (by rw [List.length_map, List.length_take]; omega)) (fun _ s4 => SqL.of (s4 _ _ e1)) (fun x hx H2 s2 Rk kk => ?_) (fun D H2 hD s2 e2 => ?_)⟩
    · obtain ⟨n, _, rfl⟩ := List.mem_map.mp hx
      exact ⟨_, rfl, _, _, rfl, rfl, (by show (0 : Int) < 2; decide), _, _, _, rfl, rfl, (by decide +kernel), at_ud n, kk H2 (Same.refl _)⟩
    obtain ⟨R, eR⟩ : ∃ R : List Bool, R = (ns.take m).map bit := ⟨_, rfl⟩
    have lR : R.length ≤ 63 := by rw [eR, List.length_map, List.length_take]; omega
    have ec : ((ns.take m).map V.int).map cellV = (R.map cd).map sg := by
      rw [eR, List.map_map, List.map_map, List.map_map]
      rfl
    rw [ec] at e2
    dsimp only [tNil]
    refine join_sgs e2 (by rw [List.length_map]; omega) ?_
    have s2 := s1.trans s2
    refine ⟨rfl, _, rfl, _, rfl, _, rfl, a, _, rfl, s2.seq hx, fun p3 h3 => ?_⟩
    rw [cutV_from]
    have s3 := s2.trans (same_upd (o := .lst ((ns.drop m).map V.int)) h3)
    have e3 : upd H2 p3 (.lst ((ns.drop m).map V.int)) p3 = some (.lst ((ns.drop m).map V.int)) := upd_same
    generalize upd H2 p3 (.lst ((ns.drop m).map V.int)) = H3 at s3 e3
    refine ⟨p3, rfl, ⟨_, SqL.of e3⟩, comp_map (ItOf.list K p3 ((ns.drop m).map V.int)) cellW (bigM (by rw [List.length_map, List.length_drop]; omega)) (fun _ s4 => SqL.of (s4 _ _ e3)) (fun x hx H4 s4 Rk kk => ?_) (fun D4 H4 hD4 s4 e4 => ?_)⟩
    · obtain ⟨n, _, rfl⟩ := List.mem_map.mp hx
      exact ⟨_, rfl, _, _, rfl, rfl, ⟨by show (0 : Int) < 2; decide, by show (2 : Int) < 1073741824; decide⟩, _, _, rfl, rfl, (by show (0 : Int) < 2; decide), _, _, _, rfl, rfl, (by decide +kernel), at_ud (n / 2), kk H4 (Same.refl _)⟩
    obtain ⟨S0, eS⟩ : ∃ R : List Bool, R = (ns.drop m).map fun n => bit (n / 2) := ⟨_, rfl⟩
    have lS0 : S0.length ≤ 63 := by rw [eS, List.length_map, List.length_drop]; omega
    have ec : ((ns.drop m).map V.int).map cellW = (S0.map cd).map sg := by
      rw [eS, List.map_map, List.map_map, List.map_map]
      rfl
    rw [ec] at e4
    dsimp only [tNil]
    refine join_sgs e4 (by rw [List.length_map]; omega) ?_
    have s4 := s3.trans s4
    refine ⟨_, rfl, a, ns, rfl, s4.seq hx, ?_⟩
    have bR : (rt R).length ≤ sizeLine := by rw [rt_length]; exact bigM (by omega)
    have bS : (rt S0).length ≤ sizeLine := by rw [rt_length]; exact bigM (by omega)
    have lR' : R.length ≤ 16000000 := by omega
    have lS' : S0.length ≤ 16000000 := by omega
    have hc : cnt (hts 0 R) (hts 0 S0) ≤ 1000000 := by
      refine Nat.le_trans (cnt_le _ _) ?_
      rw [hts_length, hts_length]
      exact Nat.le_trans (Nat.mul_le_mul (show R.length + 1 ≤ 64 by omega) (show S0.length + 1 ≤ 64 by omega)) (by decide)
    refine ⟨_, rfl, a, rfl, ⟨_, s4.seq hx⟩, comp_map (ItOf.list K a (ns.map V.int)) moveV (bigM (by rw [List.length_map]; omega)) (fun _ s' => s'.seq (s4.seq hx)) (fun x hx H5 s5 Rk kk => ?_) (fun lm H5 hlm s5 e5 => ?_)⟩
    · obtain ⟨n, _, rfl⟩ := List.mem_map.mp hx
      exact ⟨z4, fun g hg => ⟨_, rfl, _, _, rfl, rfl, ⟨by show (0 : Int) < 4; decide, by show (4 : Int) < 1073741824; decide⟩, _, _, rfl, rfl, (by show (0 : Int) < 4; decide), g, _, _, _, rfl, rfl, SqT.of upd_same, at_mv n, kk _ (same_upd hg)⟩⟩
    have ec : (ns.map V.int).map moveV = (ns.map mvAt).map mvV := by
      rw [List.map_map, List.map_map]
      rfl
    rw [ec] at e5
    have lms : (ns.map mvAt).length ≤ 63 := by rw [List.length_map]; exact hl
    generalize ns.map mvAt = ms at e5 lms
    have s5 := s4.trans s5
    refine ⟨_, rfl, _, rfl, a, _, rfl, s5.seq hx, fun p6 h6 => ?_⟩
    have e12 : cutV (ns.map V.int) none (some 12) = (ns.take 12).map V.int := cutV_to ns 12
    rw [e12]
    have S6 := same_upd (o := .lst ((ns.take 12).map V.int)) h6
    have e6 : upd H5 p6 (.lst ((ns.take 12).map V.int)) p6 = some (.lst ((ns.take 12).map V.int)) := upd_same
    generalize upd H5 p6 (.lst ((ns.take 12).map V.int)) = H6 at S6 e6
    have e5 := S6 _ _ e5
    refine ⟨p6, rfl, ⟨_, SqL.of e6⟩, comp_relH (ItOf.list K p6 ((ns.take 12).map V.int)) (fun v y H => ∃ q g, y = V.ref q ∧ H q = some (.tup (pt2 g)) ∧ True) ?_ ?_ (bigM (by rw [List.length_map, List.length_take]; omega)) (fun H' s' => SqL.of (s' _ _ e6)) (fun v hv H7 s7 Rk kk => ?_) (fun lp H7 ys hlp s7 e7 ly hrel => ?_)⟩
    · rintro x y H H' ⟨q, g, e1, e2, e3⟩ s
      exact ⟨q, g, e1, s _ _ e2, e3⟩
    · rintro x y H D l l' ⟨q, g, e1, e2, e3⟩ h
      exact ⟨q, g, e1, by rw [upd_ne (ne_of e2 h (fun z => nomatch z))]; exact e2, e3⟩
    · obtain ⟨n, _, rfl⟩ := List.mem_map.mp hv
      exact ⟨_, rfl, _, rfl, _, _, rfl, ⟨bR, rfl⟩, _, _, rfl, rfl, _, _, rfl, rfl, (by show (0 : Int) < ((rt R).length : Int) + 2; omega), _, rfl, _, _, rfl, rfl, ⟨by show (0 : Int) < 3; decide, by show (3 : Int) < 1073741824; decide⟩, _, rfl, _, _, rfl, ⟨bS, rfl⟩, _, _, rfl, rfl, _, _, rfl, rfl, (by show (0 : Int) < ((rt S0).length : Int) + 2; omega), z2, fun t ht => kk _ _ ⟨t, (_, _), rfl, upd_same, trivial⟩ (same_upd ht)⟩
    obtain ⟨N, eN, hN⟩ := rel_refs2 (Pp := fun _ => True) H7 ys (fun i y hy => hrel i _ y (List.getElem?_eq_getElem (ly ▸ (List.getElem?_eq_some_iff.mp hy).1)) hy)
    subst eN
    have lN : N.length ≤ 63 := by
      rw [refs_length, List.length_map, List.length_take] at ly
      omega
    have hN : ∀ t ∈ N, H7 t.1 = some (.tup (pt2 t.2)) := fun t h => (hN t h).1
    have e5 := s7 _ _ e5
    obtain ⟨ms1, em1, lm1⟩ := cut_mv ms none (some 1)
    refine ⟨_, rfl, _, rfl, _, rfl, lm, _, rfl, SqL.of e5, fun q1 hq1 => ?_⟩
    rw [em1]
    have S := same_upd (o := .lst (ms1.map mvV)) hq1
    have f1 : upd H7 q1 (.lst (ms1.map mvV)) q1 = some (.lst (ms1.map mvV)) := upd_same
    generalize upd H7 q1 (.lst (ms1.map mvV)) = H8 at S f1
    have e5 := S _ _ e5
    have e7 := S _ _ e7
    have hN := fun t h => S _ _ (hN t h)
    refine ⟨Nat.zero_le _, fun q2 hq2 => ?_⟩
    have S := same_upd (o := .lst []) hq2
    have f2 : upd H8 q2 (.lst []) q2 = some (.lst []) := upd_same
    generalize upd H8 q2 (.lst []) = H9 at S f2
    have e5 := S _ _ e5
    have e7 := S _ _ e7
    have f1 := S _ _ f1
    have hN := fun t h => S _ _ (hN t h)
    refine ⟨z2, fun q3 hq3 => ?_⟩
    have S := same_upd (o := .lst [V.str "ff", V.str "bb"]) hq3
    have f3 : upd H9 q3 (.lst [V.str "ff", V.str "bb"]) q3 = some (.lst [V.str "ff", V.str "bb"]) := upd_same
    generalize upd H9 q3 (.lst [V.str "ff", V.str "bb"]) = H10 at S f3
    have e5 := S _ _ e5
    have e7 := S _ _ e7
    have f1 := S _ _ f1
    have f2 := S _ _ f2
    have hN := fun t h => S _ _ (hN t h)
    refine ⟨z4, fun lt hlt => ?_⟩
    have S := same_upd (o := .lst [V.ref lm, V.ref q1, V.ref q2, V.ref q3]) hlt
    have f4 : upd H10 lt (.lst [V.ref lm, V.ref q1, V.ref q2, V.ref q3]) lt = some (.lst [V.ref lm, V.ref q1, V.ref q2, V.ref q3]) := upd_same
    generalize upd H10 lt (.lst [V.ref lm, V.ref q1, V.ref q2, V.ref q3]) = H11 at S f4
    have e5 := S _ _ e5
    have e7 := S _ _ e7
    have f1 := S _ _ f1
    have f2 := S _ _ f2
    have f3 := S _ _ f3
    have hN := fun t h => S _ _ (hN t h)
    have AT : MvLs H11 lt 4 := ⟨[lm, q1, q2, q3], f4, Nat.le_refl _, fun c hc => by
      rcases List.mem_cons.mp hc with rfl | hc
      · exact ⟨ms, e5, by omega⟩
      rcases List.mem_cons.mp hc with rfl | hc
      · exact ⟨ms1, f1, by omega⟩
      rcases List.mem_cons.mp hc with rfl | hc
      · exact ⟨[], f2, by decide⟩
      rcases List.mem_cons.mp hc with rfl | hc
      · exact ⟨[(true, true), (false, false)], by rw [mv_two]; exact f3, by decide⟩
      · cases hc⟩
    refine ⟨_, rfl, z2, fun t1 ht1 => ?_⟩
    have S := same_upd (o := .tup [V.int 0, V.int 0]) ht1
    have g1 : upd H11 t1 (.tup [V.int 0, V.int 0]) t1 = some (.tup (pt2 (0, 0))) := upd_same
    generalize upd H11 t1 (.tup [V.int 0, V.int 0]) = H12 at S g1
    have e7 := S _ _ e7
    have hN := fun t h => S _ _ (hN t h)
    have AT := AT.grow S
    refine ⟨z1, fun l1 hl1 => ?_⟩
    have S := same_upd (o := .lst [V.ref t1]) hl1
    have g2 : upd H12 l1 (.lst [V.ref t1]) l1 = some (.lst [V.ref t1]) := upd_same
    generalize upd H12 l1 (.lst [V.ref t1]) = H13 at S g2
    have e7 := S _ _ e7
    have g1 := S _ _ g1
    have hN := fun t h => S _ _ (hN t h)
    have AT := AT.grow S
    refine ⟨_, rfl, l1, lp, _, _, rfl, rfl, SqL.of g2, SqL.of e7, (by rw [refs_length]; exact bigM (show 1 + N.length ≤ 16000000 by omega)), fun l2 hl2 => ?_⟩
    have S := same_upd (o := .lst ([V.ref t1] ++ refs N)) hl2
    have g3 : upd H13 l2 (.lst ([V.ref t1] ++ refs N)) l2 = some (.lst (refs ((t1, (0, 0)) :: N))) := upd_same
    generalize upd H13 l2 (.lst ([V.ref t1] ++ refs N)) = H14 at S g3
    have e7 := S _ _ e7
    have g1 := S _ _ g1
    have g2 := S _ _ g2
    have hN := fun t h => S _ _ (hN t h)
    have AT := AT.grow S
    refine ⟨z2, fun t2 ht2 => ?_⟩
    have S := same_upd (o := .tup [V.int 0, V.int 0]) ht2
    have g4 : upd H14 t2 (.tup [V.int 0, V.int 0]) t2 = some (.tup (pt2 (0, 0))) := upd_same
    generalize upd H14 t2 (.tup [V.int 0, V.int 0]) = H15 at S g4
    have e7 := S _ _ e7
    have g1 := S _ _ g1
    have g2 := S _ _ g2
    have g3 := S _ _ g3
    have hN := fun t h => S _ _ (hN t h)
    have AT := AT.grow S
    refine ⟨z1, fun l3 hl3 => ?_⟩
    have S := same_upd (o := .lst [V.ref t2]) hl3
    have g5 : upd H15 l3 (.lst [V.ref t2]) l3 = some (.lst (refs [(t2, (0, 0))])) := upd_same
    generalize upd H15 l3 (.lst [V.ref t2]) = H16 at S g5
    have e7 := S _ _ e7
    have g1 := S _ _ g1
    have g2 := S _ _ g2
    have g3 := S _ _ g3
    have g4 := S _ _ g4
    have hN := fun t h => S _ _ (hN t h)
    have AT := AT.grow S
    refine ⟨Nat.zero_le _, fun l4 hl4 => ?_⟩
    have S := same_upd (o := .lst []) hl4
    have g6 : upd H16 l4 (.lst []) l4 = some (.lst (refs [])) := upd_same
    generalize upd H16 l4 (.lst []) = H17 at S g6
    have e7 := S _ _ e7
    have g1 := S _ _ g1
    have g2 := S _ _ g2
    have g3 := S _ _ g3
    have g4 := S _ _ g4
    have g5 := S _ _ g5
    have hN := fun t h => S _ _ (hN t h)
    have AT := AT.grow S
    refine ⟨z2, fun t3 ht3 => ?_⟩
    have S := same_upd (o := .tup [V.int 0, V.int 0]) ht3
    have g7 : upd H17 t3 (.tup [V.int 0, V.int 0]) t3 = some (.tup (pt2 (0, 0))) := upd_same
    generalize upd H17 t3 (.tup [V.int 0, V.int 0]) = H18 at S g7
    have e7 := S _ _ e7
    have g1 := S _ _ g1
    have g2 := S _ _ g2
    have g3 := S _ _ g3
    have g4 := S _ _ g4
    have g5 := S _ _ g5
    have g6 := S _ _ g6
    have hN := fun t h => S _ _ (hN t h)
    have AT := AT.grow S
    refine ⟨z2, fun t4 ht4 => ?_⟩
    have S := same_upd (o := .tup [V.int 1, V.int 1]) ht4
    have g8 : upd H18 t4 (.tup [V.int 1, V.int 1]) t4 = some (.tup (pt2 (1, 1))) := upd_same
    generalize upd H18 t4 (.tup [V.int 1, V.int 1]) = H19 at S g8
    have e7 := S _ _ e7
    have g1 := S _ _ g1
    have g2 := S _ _ g2
    have g3 := S _ _ g3
    have g4 := S _ _ g4
    have g5 := S _ _ g5
    have g6 := S _ _ g6
    have g7 := S _ _ g7
    have hN := fun t h => S _ _ (hN t h)
    have AT := AT.grow S
    refine ⟨z2, fun l5 hl5 => ?_⟩
    have S := same_upd (o := .lst [V.ref t3, V.ref t4]) hl5
    have g9 : upd H19 l5 (.lst [V.ref t3, V.ref t4]) l5 = some (.lst (refs [(t3, (0, 0)), (t4, (1, 1))])) := upd_same
    generalize upd H19 l5 (.lst [V.ref t3, V.ref t4]) = H20 at S g9
    have e7 := S _ _ e7
    have g1 := S _ _ g1
    have g2 := S _ _ g2
    have g3 := S _ _ g3
    have g4 := S _ _ g4
    have g5 := S _ _ g5
    have g6 := S _ _ g6
    have g7 := S _ _ g7
    have g8 := S _ _ g8
    have hN := fun t h => S _ _ (hN t h)
    have AT := AT.grow S
    refine ⟨z5, fun lq hlq => ?_⟩
    have S := same_upd (o := .lst [V.ref lp, V.ref l2, V.ref l3, V.ref l4, V.ref l5]) hlq
    have g10 : upd H20 lq (.lst [V.ref lp, V.ref l2, V.ref l3, V.ref l4, V.ref l5]) lq = some (.lst [V.ref lp, V.ref l2, V.ref l3, V.ref l4, V.ref l5]) := upd_same
    generalize upd H20 lq (.lst [V.ref lp, V.ref l2, V.ref l3, V.ref l4, V.ref l5]) = H21 at S g10
    have e7 := S _ _ e7
    have g1 := S _ _ g1
    have g2 := S _ _ g2
    have g3 := S _ _ g3
    have g4 := S _ _ g4
    have g5 := S _ _ g5
    have g6 := S _ _ g6
    have g7 := S _ _ g7
    have g8 := S _ _ g8
    have g9 := S _ _ g9
    have hN := fun t h => S _ _ (hN t h)
    have AT := AT.grow S
    have AP : PrLs H21 lq 5 := ⟨[lp, l2, l3, l4, l5], g10, Nat.le_refl _, fun c hc => by
      rcases List.mem_cons.mp hc with rfl | hc
      · exact ⟨N, e7, hN, by omega⟩
      rcases List.mem_cons.mp hc with rfl | hc
      · exact ⟨(t1, (0, 0)) :: N, g3, cons_tup g1 hN, by rw [List.length_cons]; omega⟩
      rcases List.mem_cons.mp hc with rfl | hc
      · exact ⟨[(t2, (0, 0))], g5, cons_tup g4 (fun t h => nomatch h), by show 1 ≤ 16000000; decide⟩
      rcases List.mem_cons.mp hc with rfl | hc
      · exact ⟨[], g6, (fun t h => nomatch h), by decide⟩
      rcases List.mem_cons.mp hc with rfl | hc
      · exact ⟨[(t3, (0, 0)), (t4, (1, 1))], g9, cons_tup g7 (cons_tup g8 (fun t h => nomatch h)), by show 2 ≤ 16000000; decide⟩
      · cases hc⟩
    refine ⟨z2, fun p0 hp0 => ?_⟩
    have S := same_upd (o := .tup [V.int 0, V.int 0]) hp0
    have ep : upd H21 p0 (.tup [V.int 0, V.int 0]) p0 = some (.tup (pt2 (0, 0))) := upd_same
    generalize upd H21 p0 (.tup [V.int 0, V.int 0]) = H22 at S ep
    have AT := AT.grow S
    have AP := AP.grow S
    refine ⟨_, rfl, R, rfl, lR', fun am Ha ham S ea => ?_⟩
    have ep := S _ _ ep
    have AT := AT.grow S
    have AP := AP.grow S
    refine ⟨_, rfl, S0, rfl, lS', fun bm Hb hbm S eb => ?_⟩
    have ep := S _ _ ep
    have AT := AT.grow S
    have AP := AP.grow S
    have ea := S _ _ ea
    have q1 : ((hts 0 R).map V.int).length = R.length + 1 := by rw [List.length_map, hts_length]
    have q2 : ((hts 0 S0).map V.int).length = S0.length + 1 := by rw [List.length_map, hts_length]
    have q3 : (hts 0 R).length = R.length + 1 := hts_length _ _
    have q4 : (hts 0 S0).length = S0.length + 1 := hts_length _ _
    refine ⟨_, rfl, _, _, rfl, .inl ⟨_, SqL.of ea, rfl⟩, _, rfl, _, _, rfl, .inl ⟨_, SqL.of eb, rfl⟩, _, _, rfl, _, rfl, (by split <;> omega), (by split <;> omega), for_each (ItOf.rng 0 _) (fun rest σ Hc => (∀ v ∈ rest, ∃ n : Nat, n < R.length + 1 ∧ n < S0.length + 1 ∧ v = V.int n) ∧ ∃ (pl : Addr) (p : Pr) (y : Option V), σ = [some (.ref a), some (.int m), some (.str (rt R)), some (.str (rt S0)), some (.int ns.sum), some (.ref lm), some (.ref lp), some (.ref lt), some (.ref lq), some (.ref pl), some (.ref am), some (.ref bm), y, none, none] ∧ Same Hb Hc ∧ Hc pl = some (.tup (pt2 p)) ∧ alk (hts 0 R) (hts 0 S0) p = true)
      ⟨fun v hv => ?_, p0, (0, 0), none, rfl, Same.refl _, ep, alk00 R S0⟩ (fun _ _ _ _ => True.intro) ?_ ?_⟩
    · obtain ⟨n, hn, rfl⟩ := List.mem_map.mp hv
      have hn := List.mem_range.mp hn
      refine ⟨n, ?_, ?_, congrArg V.int (Int.zero_add _)⟩ <;> (split at hn <;> omega)
    · rintro v rest σ Hc ⟨hv, pl, p, y, rfl, sc, ep, hal⟩
      obtain ⟨n, n1, n2, rfl⟩ := hv v List.mem_cons_self
      have hv2 := fun v' h => hv v' (List.mem_cons_of_mem _ h)
      obtain ⟨x, ex, _⟩ := plc_some (xs := hts 0 R) (i := (n : Int)) (by omega) (by omega)
      obtain ⟨y2, ey, _⟩ := plc_some (xs := hts 0 S0) (i := (n : Int)) (by omega) (by omega)
      refine ⟨_, rfl, _, rfl, am, _, _, _, rfl, rfl, SqL.of (sc _ _ ea), (plc_at ex).1, _, rfl, _, rfl, bm, _, _, _, rfl, rfl, SqL.of (sc _ _ eb), (plc_at ey).1, rfl, _, rfl, ?_⟩
      rw [dcI]
      by_cases exy : x = y2
      · rw [decide_eq_true exy]
        refine iteT ⟨_, rfl, _, _, rfl, rfl, (by show (0 : Int) < 3; decide), _, rfl, _, _, rfl, rfl, (by show (0 : Int) < 3; decide), rfl, _, rfl, ?_⟩
        rw [dcI]
        by_cases e3 : (n : Int) % 3 = ns.sum % 3
        · rw [decide_eq_true e3]
          refine iteT ⟨_, rfl, _, rfl, z2, fun t ht => ?_⟩
          refine ⟨hv2, t, ((n : Int), (n : Int)), _, rfl, sc.trans (same_upd ht), upd_same, ?_⟩
          show alike (hts 0 R) (hts 0 S0) (n : Int) (n : Int) = true
          unfold alike
          rw [ex, ey, exy]
          exact eqo_pp _
        · rw [decide_eq_false e3]
          exact iteF ⟨hv2, pl, p, _, rfl, sc, ep, hal⟩
      · rw [decide_eq_false exy]
        exact iteF (iteF ⟨hv2, pl, p, _, rfl, sc, ep, hal⟩)
    rintro σ Hc ⟨_, pl, p, y, rfl, sc, ep, hal⟩
    have AT := AT.grow sc
    have AP := AP.grow sc
    refine ⟨_, rfl, _, rfl, _, rfl, pl, _, _, _, rfl, rfl, SqT.of ep, atI_nat (j := 0) rfl, _, rfl, pl, _, _, _, rfl, rfl, SqT.of ep, atI_nat (j := 1) rfl, R, S0, p.1, p.2, rfl, lR', lS', hal, hc, fun x Hd sd hA => ?_⟩
    have AT := AT.grow sd
    have AP := AP.grow sd
    have ep := sd _ _ ep
    dsimp only [gName, tSeq, tAsg]
    refine rd_ifP (fun b H' => H' = Hd ∧ ((b = true ∧ ∃ dx lf ms, Hd x = some (.ins A.c_Way dx [("moves", .ref lf)]) ∧ Hd lf = some (.lst (List.map mvV ms)) ∧ ms.length ≤ 1000000) ∨ (b = false ∧ ∃ dx lf N, Hd x = some (.ins A.c_Shut dx [("pairs", .ref lf)]) ∧ Hd lf = some (.lst (refs N)) ∧ (∀ t ∈ N, Hd t.1 = some (.tup (pt2 t.2))) ∧ N.length ≤ 1000000 ∧ 0 < N.length)))
      (fun σ' H' => ∃ lt' lq' y14, σ' = [some (.ref a), some (.int m), some (.str (rt R)), some (.str (rt S0)), some (.int ns.sum), some (.ref lm), some (.ref lp), some (.ref lt'), some (.ref lq'), some (.ref pl), some (.ref am), some (.ref bm), y, some (.ref x), y14] ∧ MvLs H' lt' 8 ∧ PrLs H' lq' 10 ∧ H' pl = some (.tup (pt2 p))) (fun Rk kk => ?_) (fun H' hG q => ?_) (fun H' hG q => ?_) ?_
    · rcases hA with ⟨dx, lf, ms, ex, el, lms⟩ | ⟨dx, lf, N, ex, el, hN, lN, l0⟩
      · exact ⟨_, rfl, _, _, _, _, rfl, T.y_Way.of T.cl_Way ex, T.j_Way_Way, _, rfl, kk _ _ ⟨rfl, .inl ⟨rfl, dx, lf, ms, ex, el, lms⟩⟩⟩
      · exact ⟨_, rfl, _, _, _, _, rfl, T.y_Shut.of T.cl_Shut ex, T.j_Shut_Way, _, rfl, kk _ _ ⟨rfl, .inr ⟨rfl, dx, lf, N, ex, el, hN, lN, l0⟩⟩⟩
    · obtain ⟨rfl, ⟨_, dx, lf, ms, ex, el, lms⟩ | ⟨z, _⟩⟩ := hG
      case inr => cases z
      obtain ⟨as, fa, la, hM⟩ := AT
      refine ⟨_, rfl, _, rfl, x, _, _, _, _, rfl, ex, T.cl_Way, T.n_Way_moves, rfl, _, _, rfl, .inl ⟨_, SqL.of el, rfl⟩, _, _, rfl, rfl, _, _, rfl, rfl, (by show (0 : Int) < ((List.map mvV ms).length : Int) + 1; omega), ?_⟩
      dsimp only [gName, tSeq, tAsg]
      generalize ns.sum % (((List.map mvV ms).length : Int) + 1) = at1
      obtain ⟨c1, ec1, lc1⟩ := cut_mv ms none (some at1)
      obtain ⟨c2, ec2, lc2⟩ := cut_mv ms (some (at1 + 1)) none
      obtain ⟨c3, ec3, lc3⟩ := cut_mv ms (some at1) none
      have AT : ∀ c ∈ as, MvL H' c 16000000 := hM
      refine ⟨_, rfl, _, rfl, x, _, _, _, _, rfl, ex, T.cl_Way, T.n_Way_moves, rfl, _, rfl, x, _, _, _, _, rfl, ex, T.cl_Way, T.n_Way_moves, rfl, _, rfl, _, rfl, lf, _, rfl, SqL.of el, fun q1 hq1 => ?_⟩
      rw [ec1]
      have S := same_upd (o := .lst (c1.map mvV)) hq1
      have b1 : upd H' q1 (.lst (c1.map mvV)) q1 = some (.lst (c1.map mvV)) := upd_same
      generalize upd H' q1 (.lst (c1.map mvV)) = J23 at S b1
      have ex := S _ _ ex
      have el := S _ _ el
      have fa := S _ _ fa
      have ep := S _ _ ep
      have AP := AP.grow S
      have AT := fun c hc => (AT c hc).grow S
      refine ⟨_, rfl, x, _, _, _, _, rfl, ex, T.cl_Way, T.n_Way_moves, rfl, _, rfl, _, _, rfl, rfl, _, rfl, lf, _, rfl, SqL.of el, fun q2 hq2 => ?_⟩
      rw [ec2]
      have S := same_upd (o := .lst (c2.map mvV)) hq2
      have b2 : upd J23 q2 (.lst (c2.map mvV)) q2 = some (.lst (c2.map mvV)) := upd_same
      generalize upd J23 q2 (.lst (c2.map mvV)) = J24 at S b2
      have ex := S _ _ ex
      have el := S _ _ el
      have fa := S _ _ fa
      have ep := S _ _ ep
      have b1 := S _ _ b1
      have AP := AP.grow S
      have AT := fun c hc => (AT c hc).grow S
      refine ⟨q1, q2, _, _, rfl, rfl, SqL.of b1, SqL.of b2, (by simp only [List.length_map, List.length_append, List.length_cons, List.length_nil]; exact bigM (by omega)), fun q3 hq3 => ?_⟩
      have S := same_upd (o := .lst (c1.map mvV ++ c2.map mvV)) hq3
      have b3 : upd J24 q3 (.lst (c1.map mvV ++ c2.map mvV)) q3 = some (.lst (c1.map mvV ++ c2.map mvV)) := upd_same
      generalize upd J24 q3 (.lst (c1.map mvV ++ c2.map mvV)) = J25 at S b3
      have ex := S _ _ ex
      have el := S _ _ el
      have fa := S _ _ fa
      have ep := S _ _ ep
      have b1 := S _ _ b1
      have b2 := S _ _ b2
      have AP := AP.grow S
      have AT := fun c hc => (AT c hc).grow S
      refine ⟨z2, fun q4 hq4 => ?_⟩
      have S := same_upd (o := .lst [V.ref lf, V.ref q3]) hq4
      have b4 : upd J25 q4 (.lst [V.ref lf, V.ref q3]) q4 = some (.lst [V.ref lf, V.ref q3]) := upd_same
      generalize upd J25 q4 (.lst [V.ref lf, V.ref q3]) = J26 at S b4
      have ex := S _ _ ex
      have el := S _ _ el
      have fa := S _ _ fa
      have ep := S _ _ ep
      have b1 := S _ _ b1
      have b2 := S _ _ b2
      have b3 := S _ _ b3
      have AP := AP.grow S
      have AT := fun c hc => (AT c hc).grow S
      refine ⟨lt, q4, _, _, rfl, rfl, SqL.of fa, SqL.of b4, (by simp only [List.length_map, List.length_append, List.length_cons, List.length_nil]; exact bigM (by omega)), fun q5 hq5 => ?_⟩
      have S := same_upd (o := .lst (as.map V.ref ++ [V.ref lf, V.ref q3])) hq5
      have b5 : upd J26 q5 (.lst (as.map V.ref ++ [V.ref lf, V.ref q3])) q5 = some (.lst (as.map V.ref ++ [V.ref lf, V.ref q3])) := upd_same
      generalize upd J26 q5 (.lst (as.map V.ref ++ [V.ref lf, V.ref q3])) = J27 at S b5
      have ex := S _ _ ex
      have el := S _ _ el
      have fa := S _ _ fa
      have ep := S _ _ ep
      have b1 := S _ _ b1
      have b2 := S _ _ b2
      have b3 := S _ _ b3
      have b4 := S _ _ b4
      have AP := AP.grow S
      have AT := fun c hc => (AT c hc).grow S
      refine ⟨_, rfl, _, rfl, x, _, _, _, _, rfl, ex, T.cl_Way, T.n_Way_moves, rfl, _, rfl, _, rfl, lf, _, rfl, SqL.of el, fun q6 hq6 => ?_⟩
      rw [ec1]
      have S := same_upd (o := .lst (c1.map mvV)) hq6
      have b6 : upd J27 q6 (.lst (c1.map mvV)) q6 = some (.lst (c1.map mvV)) := upd_same
      generalize upd J27 q6 (.lst (c1.map mvV)) = J28 at S b6
      have ex := S _ _ ex
      have el := S _ _ el
      have fa := S _ _ fa
      have ep := S _ _ ep
      have b1 := S _ _ b1
      have b2 := S _ _ b2
      have b3 := S _ _ b3
      have b4 := S _ _ b4
      have b5 := S _ _ b5
      have AP := AP.grow S
      have AT := fun c hc => (AT c hc).grow S
      refine ⟨z2, fun q7 hq7 => ?_⟩
      have S := same_upd (o := .lst [V.str "ff", V.str "bb"]) hq7
      have b7 : upd J28 q7 (.lst [V.str "ff", V.str "bb"]) q7 = some (.lst [V.str "ff", V.str "bb"]) := upd_same
      generalize upd J28 q7 (.lst [V.str "ff", V.str "bb"]) = J29 at S b7
      have ex := S _ _ ex
      have el := S _ _ el
      have fa := S _ _ fa
      have ep := S _ _ ep
      have b1 := S _ _ b1
      have b2 := S _ _ b2
      have b3 := S _ _ b3
      have b4 := S _ _ b4
      have b5 := S _ _ b5
      have b6 := S _ _ b6
      have AP := AP.grow S
      have AT := fun c hc => (AT c hc).grow S
      refine ⟨q6, q7, _, _, rfl, rfl, SqL.of b6, SqL.of b7, (by simp only [List.length_map, List.length_append, List.length_cons, List.length_nil]; exact bigM (by omega)), fun q8 hq8 => ?_⟩
      have S := same_upd (o := .lst (c1.map mvV ++ [V.str "ff", V.str "bb"])) hq8
      have b8 : upd J29 q8 (.lst (c1.map mvV ++ [V.str "ff", V.str "bb"])) q8 = some (.lst (c1.map mvV ++ [V.str "ff", V.str "bb"])) := upd_same
      generalize upd J29 q8 (.lst (c1.map mvV ++ [V.str "ff", V.str "bb"])) = J30 at S b8
      have ex := S _ _ ex
      have el := S _ _ el
      have fa := S _ _ fa
      have ep := S _ _ ep
      have b1 := S _ _ b1
      have b2 := S _ _ b2
      have b3 := S _ _ b3
      have b4 := S _ _ b4
      have b5 := S _ _ b5
      have b6 := S _ _ b6
      have b7 := S _ _ b7
      have AP := AP.grow S
      have AT := fun c hc => (AT c hc).grow S
      refine ⟨_, rfl, x, _, _, _, _, rfl, ex, T.cl_Way, T.n_Way_moves, rfl, _, rfl, _, rfl, lf, _, rfl, SqL.of el, fun q9 hq9 => ?_⟩
      rw [ec3]
      have S := same_upd (o := .lst (c3.map mvV)) hq9
      have b9 : upd J30 q9 (.lst (c3.map mvV)) q9 = some (.lst (c3.map mvV)) := upd_same
      generalize upd J30 q9 (.lst (c3.map mvV)) = J31 at S b9
      have ex := S _ _ ex
      have el := S _ _ el
      have fa := S _ _ fa
      have ep := S _ _ ep
      have b1 := S _ _ b1
      have b2 := S _ _ b2
      have b3 := S _ _ b3
      have b4 := S _ _ b4
      have b5 := S _ _ b5
      have b6 := S _ _ b6
      have b7 := S _ _ b7
      have b8 := S _ _ b8
      have AP := AP.grow S
      have AT := fun c hc => (AT c hc).grow S
      refine ⟨q8, q9, _, _, rfl, rfl, SqL.of b8, SqL.of b9, (by simp only [List.length_map, List.length_append, List.length_cons, List.length_nil]; exact bigM (by omega)), fun q10 hq10 => ?_⟩
      have S := same_upd (o := .lst ((c1.map mvV ++ [V.str "ff", V.str "bb"]) ++ c3.map mvV)) hq10
      have b10 : upd J31 q10 (.lst ((c1.map mvV ++ [V.str "ff", V.str "bb"]) ++ c3.map mvV)) q10 = some (.lst ((c1.map mvV ++ [V.str "ff", V.str "bb"]) ++ c3.map mvV)) := upd_same
      generalize upd J31 q10 (.lst ((c1.map mvV ++ [V.str "ff", V.str "bb"]) ++ c3.map mvV)) = J32 at S b10
      have ex := S _ _ ex
      have el := S _ _ el
      have fa := S _ _ fa
      have ep := S _ _ ep
      have b1 := S _ _ b1
      have b2 := S _ _ b2
      have b3 := S _ _ b3
      have b4 := S _ _ b4
      have b5 := S _ _ b5
      have b6 := S _ _ b6
      have b7 := S _ _ b7
      have b8 := S _ _ b8
      have b9 := S _ _ b9
      have AP := AP.grow S
      have AT := fun c hc => (AT c hc).grow S
      refine ⟨_, rfl, x, _, _, _, _, rfl, ex, T.cl_Way, T.n_Way_moves, rfl, z1, fun q11 hq11 => ?_⟩
      have S := same_upd (o := .lst [V.str "fb"]) hq11
      have b11 : upd J32 q11 (.lst [V.str "fb"]) q11 = some (.lst [V.str "fb"]) := upd_same
      generalize upd J32 q11 (.lst [V.str "fb"]) = J33 at S b11
      have ex := S _ _ ex
      have el := S _ _ el
      have fa := S _ _ fa
      have ep := S _ _ ep
      have b1 := S _ _ b1
      have b2 := S _ _ b2
      have b3 := S _ _ b3
      have b4 := S _ _ b4
      have b5 := S _ _ b5
      have b6 := S _ _ b6
      have b7 := S _ _ b7
      have b8 := S _ _ b8
      have b9 := S _ _ b9
      have b10 := S _ _ b10
      have AP := AP.grow S
      have AT := fun c hc => (AT c hc).grow S
      refine ⟨lf, q11, _, _, rfl, rfl, SqL.of el, SqL.of b11, (by simp only [List.length_map, List.length_append, List.length_cons, List.length_nil]; exact bigM (by omega)), fun q12 hq12 => ?_⟩
      have S := same_upd (o := .lst (ms.map mvV ++ [V.str "fb"])) hq12
      have b12 : upd J33 q12 (.lst (ms.map mvV ++ [V.str "fb"])) q12 = some (.lst (ms.map mvV ++ [V.str "fb"])) := upd_same
      generalize upd J33 q12 (.lst (ms.map mvV ++ [V.str "fb"])) = J34 at S b12
      have ex := S _ _ ex
      have el := S _ _ el
      have fa := S _ _ fa
      have ep := S _ _ ep
      have b1 := S _ _ b1
      have b2 := S _ _ b2
      have b3 := S _ _ b3
      have b4 := S _ _ b4
      have b5 := S _ _ b5
      have b6 := S _ _ b6
      have b7 := S _ _ b7
      have b8 := S _ _ b8
      have b9 := S _ _ b9
      have b10 := S _ _ b10
      have b11 := S _ _ b11
      have AP := AP.grow S
      have AT := fun c hc => (AT c hc).grow S
      refine ⟨z2, fun q13 hq13 => ?_⟩
      have S := same_upd (o := .lst [V.ref q10, V.ref q12]) hq13
      have b13 : upd J34 q13 (.lst [V.ref q10, V.ref q12]) q13 = some (.lst [V.ref q10, V.ref q12]) := upd_same
      generalize upd J34 q13 (.lst [V.ref q10, V.ref q12]) = J35 at S b13
      have ex := S _ _ ex
      have el := S _ _ el
      have fa := S _ _ fa
      have ep := S _ _ ep
      have b1 := S _ _ b1
      have b2 := S _ _ b2
      have b3 := S _ _ b3
      have b4 := S _ _ b4
      have b5 := S _ _ b5
      have b6 := S _ _ b6
      have b7 := S _ _ b7
      have b8 := S _ _ b8
      have b9 := S _ _ b9
      have b10 := S _ _ b10
      have b11 := S _ _ b11
      have b12 := S _ _ b12
      have AP := AP.grow S
      have AT := fun c hc => (AT c hc).grow S
      refine ⟨q5, q13, _, _, rfl, rfl, SqL.of b5, SqL.of b13, (by simp only [List.length_map, List.length_append, List.length_cons, List.length_nil]; exact bigM (by omega)), fun q14 hq14 => ?_⟩
      have S := same_upd (o := .lst ((as.map V.ref ++ [V.ref lf, V.ref q3]) ++ [V.ref q10, V.ref q12])) hq14
      have b14 : upd J35 q14 (.lst ((as.map V.ref ++ [V.ref lf, V.ref q3]) ++ [V.ref q10, V.ref q12])) q14 = some (.lst ((as.map V.ref ++ [V.ref lf, V.ref q3]) ++ [V.ref q10, V.ref q12])) := upd_same
      generalize upd J35 q14 (.lst ((as.map V.ref ++ [V.ref lf, V.ref q3]) ++ [V.ref q10, V.ref q12])) = J36 at S b14
      have ex := S _ _ ex
      have el := S _ _ el
      have fa := S _ _ fa
      have ep := S _ _ ep
      have b1 := S _ _ b1
      have b2 := S _ _ b2
      have b3 := S _ _ b3
      have b4 := S _ _ b4
      have b5 := S _ _ b5
      have b6 := S _ _ b6
      have b7 := S _ _ b7
      have b8 := S _ _ b8
      have b9 := S _ _ b9
      have b10 := S _ _ b10
      have b11 := S _ _ b11
      have b12 := S _ _ b12
      have b13 := S _ _ b13
      have AP := AP.grow S
      have AT := fun c hc => (AT c hc).grow S
      refine q _ _ ⟨q14, lq, _, rfl, ⟨(as ++ [lf, q3]) ++ [q10, q12], by rw [b14, List.map_append, List.map_append]; rfl, by simp only [List.length_append, List.length_cons, List.length_nil]; omega, fun c hc => ?_⟩, ?_, ep⟩
      · rcases List.mem_append.mp hc with hc | hc
        · rcases List.mem_append.mp hc with hc | hc
          · exact AT c hc
          · rcases List.mem_cons.mp hc with rfl | hc
            · exact ⟨ms, el, by omega⟩
            · rw [List.mem_singleton] at hc
              subst hc
              exact ⟨c1 ++ c2, by rw [b3, List.map_append], by rw [List.length_append]; omega⟩
        · rcases List.mem_cons.mp hc with rfl | hc
          · exact ⟨(c1 ++ [(true, true), (false, false)]) ++ c3, by rw [b10, List.map_append, List.map_append, mv_two], by simp only [List.length_append, List.length_cons, List.length_nil]; omega⟩
          · rw [List.mem_singleton] at hc
            subst hc
            exact ⟨ms ++ [(true, false)], by rw [b12, List.map_append, mv_one], by simp only [List.length_append, List.length_cons, List.length_nil]; omega⟩
      · obtain ⟨bs, h1, h2, h3⟩ := AP
        exact ⟨bs, h1, by omega, h3⟩
    · obtain ⟨rfl, ⟨z, _⟩ | ⟨_, dx, lf, N, ex, el, hN, lN, l0⟩⟩ := hG
      case inl => cases z
      obtain ⟨as, fa, la, hP⟩ := AP
      refine ⟨_, rfl, _, rfl, x, _, _, _, _, rfl, ex, T.cl_Shut, T.n_Shut_pairs, rfl, _, _, rfl, .inl ⟨_, SqL.of el, rfl⟩, _, _, rfl, rfl, (by show (0 : Int) < ((refs N).length : Int); rw [refs_length]; omega), ?_⟩
      dsimp only [gName, tSeq, tAsg]
      generalize ns.sum % ((refs N).length : Int) = at1
      obtain ⟨c1, ec1, lc1, mc1⟩ := cut_refs N none (some at1)
      obtain ⟨c2, ec2, lc2, mc2⟩ := cut_refs N (some (at1 + 1)) none
      have PP : ∀ c ∈ as, PrL H' c 16000000 := hP
      refine ⟨_, rfl, _, rfl, x, _, _, _, _, rfl, ex, T.cl_Shut, T.n_Shut_pairs, rfl, _, rfl, x, _, _, _, _, rfl, ex, T.cl_Shut, T.n_Shut_pairs, rfl, _, rfl, _, rfl, lf, _, rfl, SqL.of el, fun q1 hq1 => ?_⟩
      rw [ec1]
      have S := same_upd (o := .lst (refs c1)) hq1
      have b1 : upd H' q1 (.lst (refs c1)) q1 = some (.lst (refs c1)) := upd_same
      generalize upd H' q1 (.lst (refs c1)) = J41 at S b1
      have ex := S _ _ ex
      have el := S _ _ el
      have fa := S _ _ fa
      have ep := S _ _ ep
      have hN := fun t h => S _ _ (hN t h)
      have AT := AT.grow S
      have PP := fun c hc => (PP c hc).grow S
      refine ⟨_, rfl, x, _, _, _, _, rfl, ex, T.cl_Shut, T.n_Shut_pairs, rfl, _, rfl, _, _, rfl, rfl, _, rfl, lf, _, rfl, SqL.of el, fun q2 hq2 => ?_⟩
      rw [ec2]
      have S := same_upd (o := .lst (refs c2)) hq2
      have b2 : upd J41 q2 (.lst (refs c2)) q2 = some (.lst (refs c2)) := upd_same
      generalize upd J41 q2 (.lst (refs c2)) = J42 at S b2
      have ex := S _ _ ex
      have el := S _ _ el
      have fa := S _ _ fa
      have ep := S _ _ ep
      have b1 := S _ _ b1
      have hN := fun t h => S _ _ (hN t h)
      have AT := AT.grow S
      have PP := fun c hc => (PP c hc).grow S
      refine ⟨q1, q2, _, _, rfl, rfl, SqL.of b1, SqL.of b2, (by simp only [refs_length, List.length_map, List.length_append, List.length_cons, List.length_nil]; exact bigM (by omega)), fun q3 hq3 => ?_⟩
      have S := same_upd (o := .lst (refs c1 ++ refs c2)) hq3
      have b3 : upd J42 q3 (.lst (refs c1 ++ refs c2)) q3 = some (.lst (refs c1 ++ refs c2)) := upd_same
      generalize upd J42 q3 (.lst (refs c1 ++ refs c2)) = J43 at S b3
      have ex := S _ _ ex
      have el := S _ _ el
      have fa := S _ _ fa
      have ep := S _ _ ep
      have b1 := S _ _ b1
      have b2 := S _ _ b2
      have hN := fun t h => S _ _ (hN t h)
      have AT := AT.grow S
      have PP := fun c hc => (PP c hc).grow S
      refine ⟨_, rfl, x, _, _, _, _, rfl, ex, T.cl_Shut, T.n_Shut_pairs, rfl, _, rfl, z1, fun q4 hq4 => ?_⟩
      have S := same_upd (o := .lst [V.ref pl]) hq4
      have b4 : upd J43 q4 (.lst [V.ref pl]) q4 = some (.lst [V.ref pl]) := upd_same
      generalize upd J43 q4 (.lst [V.ref pl]) = J44 at S b4
      have ex := S _ _ ex
      have el := S _ _ el
      have fa := S _ _ fa
      have ep := S _ _ ep
      have b1 := S _ _ b1
      have b2 := S _ _ b2
      have b3 := S _ _ b3
      have hN := fun t h => S _ _ (hN t h)
      have AT := AT.grow S
      have PP := fun c hc => (PP c hc).grow S
      refine ⟨lf, q4, _, _, rfl, rfl, SqL.of el, SqL.of b4, (by simp only [refs_length, List.length_map, List.length_append, List.length_cons, List.length_nil]; exact bigM (by omega)), fun q5 hq5 => ?_⟩
      have S := same_upd (o := .lst (refs N ++ [V.ref pl])) hq5
      have b5 : upd J44 q5 (.lst (refs N ++ [V.ref pl])) q5 = some (.lst (refs N ++ [V.ref pl])) := upd_same
      generalize upd J44 q5 (.lst (refs N ++ [V.ref pl])) = J45 at S b5
      have ex := S _ _ ex
      have el := S _ _ el
      have fa := S _ _ fa
      have ep := S _ _ ep
      have b1 := S _ _ b1
      have b2 := S _ _ b2
      have b3 := S _ _ b3
      have b4 := S _ _ b4
      have hN := fun t h => S _ _ (hN t h)
      have AT := AT.grow S
      have PP := fun c hc => (PP c hc).grow S
      refine ⟨z3, fun q6 hq6 => ?_⟩
      have S := same_upd (o := .lst [V.ref lf, V.ref q3, V.ref q5]) hq6
      have b6 : upd J45 q6 (.lst [V.ref lf, V.ref q3, V.ref q5]) q6 = some (.lst [V.ref lf, V.ref q3, V.ref q5]) := upd_same
      generalize upd J45 q6 (.lst [V.ref lf, V.ref q3, V.ref q5]) = J46 at S b6
      have ex := S _ _ ex
      have el := S _ _ el
      have fa := S _ _ fa
      have ep := S _ _ ep
      have b1 := S _ _ b1
      have b2 := S _ _ b2
      have b3 := S _ _ b3
      have b4 := S _ _ b4
      have b5 := S _ _ b5
      have hN := fun t h => S _ _ (hN t h)
      have AT := AT.grow S
      have PP := fun c hc => (PP c hc).grow S
      refine ⟨lq, q6, _, _, rfl, rfl, SqL.of fa, SqL.of b6, (by simp only [refs_length, List.length_map, List.length_append, List.length_cons, List.length_nil]; exact bigM (by omega)), fun q7 hq7 => ?_⟩
      have S := same_upd (o := .lst (as.map V.ref ++ [V.ref lf, V.ref q3, V.ref q5])) hq7
      have b7 : upd J46 q7 (.lst (as.map V.ref ++ [V.ref lf, V.ref q3, V.ref q5])) q7 = some (.lst (as.map V.ref ++ [V.ref lf, V.ref q3, V.ref q5])) := upd_same
      generalize upd J46 q7 (.lst (as.map V.ref ++ [V.ref lf, V.ref q3, V.ref q5])) = J47 at S b7
      have ex := S _ _ ex
      have el := S _ _ el
      have fa := S _ _ fa
      have ep := S _ _ ep
      have b1 := S _ _ b1
      have b2 := S _ _ b2
      have b3 := S _ _ b3
      have b4 := S _ _ b4
      have b5 := S _ _ b5
      have b6 := S _ _ b6
      have hN := fun t h => S _ _ (hN t h)
      have AT := AT.grow S
      have PP := fun c hc => (PP c hc).grow S
      refine ⟨_, rfl, _, rfl, x, _, _, _, _, rfl, ex, T.cl_Shut, T.n_Shut_pairs, rfl, _, rfl, _, _, rfl, ⟨bR, rfl⟩, _, _, rfl, rfl, z2, fun q8 hq8 => ?_⟩
      have S := same_upd (o := .tup [V.int (((rt R).length : Int) + 1), V.int 0]) hq8
      have b8 : upd J47 q8 (.tup [V.int (((rt R).length : Int) + 1), V.int 0]) q8 = some (.tup (pt2 (((rt R).length : Int) + 1, 0))) := upd_same
      generalize upd J47 q8 (.tup [V.int (((rt R).length : Int) + 1), V.int 0]) = J48 at S b8
      have ex := S _ _ ex
      have el := S _ _ el
      have fa := S _ _ fa
      have ep := S _ _ ep
      have b1 := S _ _ b1
      have b2 := S _ _ b2
      have b3 := S _ _ b3
      have b4 := S _ _ b4
      have b5 := S _ _ b5
      have b6 := S _ _ b6
      have b7 := S _ _ b7
      have hN := fun t h => S _ _ (hN t h)
      have AT := AT.grow S
      have PP := fun c hc => (PP c hc).grow S
      refine ⟨z1, fun q9 hq9 => ?_⟩
      have S := same_upd (o := .lst [V.ref q8]) hq9
      have b9 : upd J48 q9 (.lst [V.ref q8]) q9 = some (.lst [V.ref q8]) := upd_same
      generalize upd J48 q9 (.lst [V.ref q8]) = J49 at S b9
      have ex := S _ _ ex
      have el := S _ _ el
      have fa := S _ _ fa
      have ep := S _ _ ep
      have b1 := S _ _ b1
      have b2 := S _ _ b2
      have b3 := S _ _ b3
      have b4 := S _ _ b4
      have b5 := S _ _ b5
      have b6 := S _ _ b6
      have b7 := S _ _ b7
      have b8 := S _ _ b8
      have hN := fun t h => S _ _ (hN t h)
      have AT := AT.grow S
      have PP := fun c hc => (PP c hc).grow S
      refine ⟨lf, q9, _, _, rfl, rfl, SqL.of el, SqL.of b9, (by simp only [refs_length, List.length_map, List.length_append, List.length_cons, List.length_nil]; exact bigM (by omega)), fun q10 hq10 => ?_⟩
      have S := same_upd (o := .lst (refs N ++ [V.ref q8])) hq10
      have b10 : upd J49 q10 (.lst (refs N ++ [V.ref q8])) q10 = some (.lst (refs N ++ [V.ref q8])) := upd_same
      generalize upd J49 q10 (.lst (refs N ++ [V.ref q8])) = J50 at S b10
      have ex := S _ _ ex
      have el := S _ _ el
      have fa := S _ _ fa
      have ep := S _ _ ep
      have b1 := S _ _ b1
      have b2 := S _ _ b2
      have b3 := S _ _ b3
      have b4 := S _ _ b4
      have b5 := S _ _ b5
      have b6 := S _ _ b6
      have b7 := S _ _ b7
      have b8 := S _ _ b8
      have b9 := S _ _ b9
      have hN := fun t h => S _ _ (hN t h)
      have AT := AT.grow S
      have PP := fun c hc => (PP c hc).grow S
      refine ⟨_, rfl, x, _, _, _, _, rfl, ex, T.cl_Shut, T.n_Shut_pairs, rfl, _, rfl, z2, fun q11 hq11 => ?_⟩
      have S := same_upd (o := .tup [V.int (-1), V.int 0]) hq11
      have b11 : upd J50 q11 (.tup [V.int (-1), V.int 0]) q11 = some (.tup (pt2 (-1, 0))) := upd_same
      generalize upd J50 q11 (.tup [V.int (-1), V.int 0]) = J51 at S b11
      have ex := S _ _ ex
      have el := S _ _ el
      have fa := S _ _ fa
      have ep := S _ _ ep
      have b1 := S _ _ b1
      have b2 := S _ _ b2
      have b3 := S _ _ b3
      have b4 := S _ _ b4
      have b5 := S _ _ b5
      have b6 := S _ _ b6
      have b7 := S _ _ b7
      have b8 := S _ _ b8
      have b9 := S _ _ b9
      have b10 := S _ _ b10
      have hN := fun t h => S _ _ (hN t h)
      have AT := AT.grow S
      have PP := fun c hc => (PP c hc).grow S
      refine ⟨z1, fun q12 hq12 => ?_⟩
      have S := same_upd (o := .lst [V.ref q11]) hq12
      have b12 : upd J51 q12 (.lst [V.ref q11]) q12 = some (.lst [V.ref q11]) := upd_same
      generalize upd J51 q12 (.lst [V.ref q11]) = J52 at S b12
      have ex := S _ _ ex
      have el := S _ _ el
      have fa := S _ _ fa
      have ep := S _ _ ep
      have b1 := S _ _ b1
      have b2 := S _ _ b2
      have b3 := S _ _ b3
      have b4 := S _ _ b4
      have b5 := S _ _ b5
      have b6 := S _ _ b6
      have b7 := S _ _ b7
      have b8 := S _ _ b8
      have b9 := S _ _ b9
      have b10 := S _ _ b10
      have b11 := S _ _ b11
      have hN := fun t h => S _ _ (hN t h)
      have AT := AT.grow S
      have PP := fun c hc => (PP c hc).grow S
      refine ⟨lf, q12, _, _, rfl, rfl, SqL.of el, SqL.of b12, (by simp only [refs_length, List.length_map, List.length_append, List.length_cons, List.length_nil]; exact bigM (by omega)), fun q13 hq13 => ?_⟩
      have S := same_upd (o := .lst (refs N ++ [V.ref q11])) hq13
      have b13 : upd J52 q13 (.lst (refs N ++ [V.ref q11])) q13 = some (.lst (refs N ++ [V.ref q11])) := upd_same
      generalize upd J52 q13 (.lst (refs N ++ [V.ref q11])) = J53 at S b13
      have ex := S _ _ ex
      have el := S _ _ el
      have fa := S _ _ fa
      have ep := S _ _ ep
      have b1 := S _ _ b1
      have b2 := S _ _ b2
      have b3 := S _ _ b3
      have b4 := S _ _ b4
      have b5 := S _ _ b5
      have b6 := S _ _ b6
      have b7 := S _ _ b7
      have b8 := S _ _ b8
      have b9 := S _ _ b9
      have b10 := S _ _ b10
      have b11 := S _ _ b11
      have b12 := S _ _ b12
      have hN := fun t h => S _ _ (hN t h)
      have AT := AT.grow S
      have PP := fun c hc => (PP c hc).grow S
      refine ⟨z2, fun q14 hq14 => ?_⟩
      have S := same_upd (o := .lst [V.ref q10, V.ref q13]) hq14
      have b14 : upd J53 q14 (.lst [V.ref q10, V.ref q13]) q14 = some (.lst [V.ref q10, V.ref q13]) := upd_same
      generalize upd J53 q14 (.lst [V.ref q10, V.ref q13]) = J54 at S b14
      have ex := S _ _ ex
      have el := S _ _ el
      have fa := S _ _ fa
      have ep := S _ _ ep
      have b1 := S _ _ b1
      have b2 := S _ _ b2
      have b3 := S _ _ b3
      have b4 := S _ _ b4
      have b5 := S _ _ b5
      have b6 := S _ _ b6
      have b7 := S _ _ b7
      have b8 := S _ _ b8
      have b9 := S _ _ b9
      have b10 := S _ _ b10
      have b11 := S _ _ b11
      have b12 := S _ _ b12
      have b13 := S _ _ b13
      have hN := fun t h => S _ _ (hN t h)
      have AT := AT.grow S
      have PP := fun c hc => (PP c hc).grow S
      refine ⟨q7, q14, _, _, rfl, rfl, SqL.of b7, SqL.of b14, (by simp only [refs_length, List.length_map, List.length_append, List.length_cons, List.length_nil]; exact bigM (by omega)), fun q15 hq15 => ?_⟩
      have S := same_upd (o := .lst ((as.map V.ref ++ [V.ref lf, V.ref q3, V.ref q5]) ++ [V.ref q10, V.ref q13])) hq15
      have b15 : upd J54 q15 (.lst ((as.map V.ref ++ [V.ref lf, V.ref q3, V.ref q5]) ++ [V.ref q10, V.ref q13])) q15 = some (.lst ((as.map V.ref ++ [V.ref lf, V.ref q3, V.ref q5]) ++ [V.ref q10, V.ref q13])) := upd_same
      generalize upd J54 q15 (.lst ((as.map V.ref ++ [V.ref lf, V.ref q3, V.ref q5]) ++ [V.ref q10, V.ref q13])) = J55 at S b15
      have ex := S _ _ ex
      have el := S _ _ el
      have fa := S _ _ fa
      have ep := S _ _ ep
      have b1 := S _ _ b1
      have b2 := S _ _ b2
      have b3 := S _ _ b3
      have b4 := S _ _ b4
      have b5 := S _ _ b5
      have b6 := S _ _ b6
      have b7 := S _ _ b7
      have b8 := S _ _ b8
      have b9 := S _ _ b9
      have b10 := S _ _ b10
      have b11 := S _ _ b11
      have b12 := S _ _ b12
      have b13 := S _ _ b13
      have b14 := S _ _ b14
      have hN := fun t h => S _ _ (hN t h)
      have AT := AT.grow S
      have PP := fun c hc => (PP c hc).grow S
      have more : ∀ t g, J55 t = some (.tup (pt2 g)) → ∀ u ∈ N ++ [(t, g)], J55 u.1 = some (.tup (pt2 u.2)) := fun t g et u hu2 => by
        rcases List.mem_append.mp hu2 with h | h
        · exact hN u h
        · rw [List.mem_singleton] at h
          subst h
          exact et
      refine q _ _ ⟨lt, q15, _, rfl, ?_, ⟨(as ++ [lf, q3, q5]) ++ [q10, q13], by rw [b15, List.map_append, List.map_append]; rfl, by simp only [List.length_append, List.length_cons, List.length_nil]; omega, fun c hc => ?_⟩, ep⟩
      · obtain ⟨bs, h1, h2, h3⟩ := AT
        exact ⟨bs, h1, by omega, h3⟩
      · rcases List.mem_append.mp hc with hc | hc
        · rcases List.mem_append.mp hc with hc | hc
          · exact PP c hc
          · rcases List.mem_cons.mp hc with rfl | hc
            · exact ⟨N, el, hN, by omega⟩
            rcases List.mem_cons.mp hc with rfl | hc
            · refine ⟨c1 ++ c2, by rw [b3, refs_append], fun t ht => ?_, by rw [List.length_append]; omega⟩
              rcases List.mem_append.mp ht with ht | ht
              · exact hN t (mc1 t ht)
              · exact hN t (mc2 t ht)
            · rw [List.mem_singleton] at hc
              subst hc
              exact ⟨N ++ [(pl, p)], by rw [b5, ← refs_append]; rfl, more _ _ ep, by rw [List.length_append, List.length_singleton]; omega⟩
        · rcases List.mem_cons.mp hc with rfl | hc
          · exact ⟨N ++ [(q8, (((rt R).length : Int) + 1, 0))], by rw [b10, ← refs_append]; rfl, more _ _ b8, by rw [List.length_append, List.length_singleton]; omega⟩
          · rw [List.mem_singleton] at hc
            subst hc
            exact ⟨N ++ [(q11, (-1, 0))], by rw [b13, ← refs_append]; rfl, more _ _ b11, by rw [List.length_append, List.length_singleton]; omega⟩
    rintro σ He ⟨lt', lq', y14, rfl, ⟨as, fa, la, hM⟩, AP, ep⟩
    refine ⟨_, rfl, lt', rfl, ⟨_, SqL.of fa⟩, comp_map (ItOf.list K lt' (as.map V.ref)) (fun _ => .bl true) (bigM (by rw [List.length_map]; omega)) (fun _ s' => SqL.of (s' _ _ fa)) (fun v hv Hf sf Rk kk => ?_) (fun D Hf hD sf ef => ?_)⟩
    · obtain ⟨c, hc, rfl⟩ := List.mem_map.mp hv
      exact ⟨_, rfl, _, rfl, _, rfl, _, rfl, R, S0, pl, p, c, rfl, lR', lS', sf _ _ ep, (hM c hc).grow sf, fun H' s' => kk H' s'⟩
    refine ⟨D, as.map fun _ => true, rfl, SqL.of (by rw [ef, List.map_map, List.map_map]; rfl), _, rfl, ?_⟩
    have tt : ∀ l : List Addr, (l.map fun _ => true).all id = true := fun l => by
      rw [List.all_eq_true]
      intro b hb
      obtain ⟨_, _, rfl⟩ := List.mem_map.mp hb
      rfl
    rw [tt]
    refine iteF ?_
    obtain ⟨bs, fb, lb, hP⟩ := AP.grow sf
    have ep := sf _ _ ep
    refine ⟨_, rfl, lq', rfl, ⟨_, SqL.of fb⟩, comp_map (ItOf.list K lq' (bs.map V.ref)) (fun _ => .bl true) (bigM (by rw [List.length_map]; omega)) (fun _ s' => SqL.of (s' _ _ fb)) (fun v hv Hg sg Rk kk => ?_) (fun D2 Hg hD2 sg eg => ?_)⟩
    · obtain ⟨c, hc, rfl⟩ := List.mem_map.mp hv
      exact ⟨_, rfl, _, rfl, _, rfl, _, rfl, R, S0, pl, p, c, rfl, lR', lS', sg _ _ ep, (hP c hc).grow sg, fun H' s' => kk H' s'⟩
    refine ⟨D2, bs.map fun _ => true, rfl, SqL.of (by rw [eg, List.map_map, List.map_map]; rfl), ?_⟩
    rw [tt]
    exact k Hg
end
end K08
set_option Elab.async false
set_option linter.all false
open PySem PySem.W PyProof.Rows
set_option maxRecDepth 100000 in
set_option maxHeartbeats 0 in
theorem PySem.Challenge.cw_unison_k08_answers_by_hand_holds : PySem.Challenge.rw_unison_k08_answers_by_hand.Holds := by
  w_on; o_law; k_head; (case hw => w_witness2)
  k_fill
  refine L2.walk_ofK (l := PySem.Challenge.rw_unison_k08_answers_by_hand) (n := 63) (k := 7) (x := "_law_script") (CX := L2.CX0) (sp := K08.sp_law) rfl (by decide) rfl ⟨rfl, by decide, by decide⟩ (fun w h Y => PySem.W.kIn_of Y) ?F ?S ?C
  case F =>
    intro w mg fa h KX G hmg
    have T : ∃ A, K08.Txt PySem.Challenge.rw_unison_k08_answers_by_hand.prog w (L2.KOf KX) mg A := by
      dsimp only [L2.KOf]
      refine' K08.txt_mk KX G ?a0 ?l0 ?c0 ?k0 ?a1 ?l1 ?c1 ?k1 ?a2 ?l2 ?c2 ?k2 ?a3 ?l3 ?c3 ?k3 ?a4 ?l4 ?c4 ?k4 ?a5 ?l5 ?c5 ?k5 ?a6 ?l6 ?c6 ?k6 ?a7 ?l7 ?c7 ?k7 ?a8 ?l8 ?c8 ?k8 ?a9 ?l9 ?c9 ?k9 ?a10 ?l10 ?c10 ?k10 ?a11 ?l11 ?c11 ?k11 ?a12 ?l12 ?c12 ?k12 ?a13 ?l13 ?c13 ?k13 ?a14 ?l14 ?c14 ?k14 ?a15 ?l15 ?c15 ?k15 ?a16 ?l16 ?c16 ?k16 ?a17 ?l17 ?c17 ?k17 ?a18 ?l18 ?c18 ?k18 ?a19 ?l19 ?c19 ?k19 ?a20 ?l20 ?c20 ?k20 ?a21 ?l21 ?c21 ?k21 ?a22 ?l22 ?c22 ?k22 ?a23 ?l23 ?c23 ?k23 ?aMOVES ?lMOVES ?vMOVES ?zMOVES ?aTAKEN_BACK ?tTAKEN_BACK ?hTAKEN_BACK ?aSTEPS ?tSTEPS ?hSTEPS ?aBadRidge ?aBadPlaces ?xBadRidge ?yBadRidge ?xBadPlaces ?yBadPlaces ?z_all ?z_bool ?z_dict ?z_int ?z_isinstance ?z_len ?z_list ?z_min ?z_range ?z_str ?z_sum ?z_tuple ?aAnswer ?aWay ?aWay_init ?iWay_init ?lWay_init ?cWay_init ?kWay_init ?aWay_shows ?iWay_shows ?lWay_shows ?cWay_shows ?kWay_shows ?pgWay ?hdWay ?poWay ?saWay ?mkWay ?kcWay ?nWay_moves ?haWay ?hnWay ?htWay ?hmWay ?aShut ?aShut_init ?iShut_init ?lShut_init ?cShut_init ?kShut_init ?aShut_shows ?iShut_shows ?lShut_shows ?cShut_shows ?kShut_shows ?pgShut ?hdShut ?poShut ?saShut ?mkShut ?kcShut ?nShut_pairs ?haShut ?hnShut ?htShut ?hmShut ?jWay_Way ?jShut_Way
      (case a0 => k_is); (case l0 => k_is); (case c0 => k_is); (case k0 => k_is); (case a1 => k_is); (case l1 => k_is); (case c1 => k_is); (case k1 => k_is); (case a2 => k_is); (case l2 => k_is); (case c2 => k_is); (case k2 => k_is); (case a3 => k_is); (case l3 => k_is); (case c3 => k_is); (case k3 => k_is); (case a4 => k_is); (case l4 => k_is); (case c4 => k_is); (case k4 => k_is); (case a5 => k_is); (case l5 => k_is); (case c5 => k_is); (case k5 => k_is); (case a6 => k_is); (case l6 => k_is); (case c6 => k_is); (case k6 => k_is); (case a7 => k_is); (case l7 => k_is); (case c7 => k_is); (case k7 => k_is); (case a8 => k_is); (case l8 => k_is); (case c8 => k_is); (case k8 => k_is); (case a9 => k_is); (case l9 => k_is); (case c9 => k_is); (case k9 => k_is); (case a10 => k_is); (case l10 => k_is); (case c10 => k_is); (case k10 => k_is); (case a11 => k_is); (case l11 => k_is); (case c11 => k_is); (case k11 => k_is); (case a12 => k_is); (case l12 => k_is); (case c12 => k_is); (case k12 => k_is); (case a13 => k_is); (case l13 => k_is); (case c13 => k_is); (case k13 => k_is); (case a14 => k_is); (case l14 => k_is); (case c14 => k_is); (case k14 => k_is); (case a15 => k_is); (case l15 => k_is); (case c15 => k_is); (case k15 => k_is); (case a16 => k_is); (case l16 => k_is); (case c16 => k_is); (case k16 => k_is); (case a17 => k_is); (case l17 => k_is); (case c17 => k_is); (case k17 => k_is); (case a18 => k_is); (case l18 => k_is); (case c18 => k_is); (case k18 => k_is); (case a19 => k_is); (case l19 => k_is); (case c19 => k_is); (case k19 => k_is); (case a20 => k_is); (case l20 => k_is); (case c20 => k_is); (case k20 => k_is); (case a21 => k_is); (case l21 => k_is); (case c21 => k_is); (case k21 => k_is); (case a22 => k_is); (case l22 => k_is); (case c22 => k_is); (case k22 => k_is); (case a23 => k_is); (case l23 => k_is); (case c23 => k_is); (case k23 => k_is); (case aMOVES => k_is); (case lMOVES => k_is); (case vMOVES => repeat' first | exact .nil | refine .cons ⟨_, rfl⟩ ?_); (case zMOVES => decide); (case aTAKEN_BACK => k_is); (case tTAKEN_BACK => rfl); (case hTAKEN_BACK => rfl); (case aSTEPS => k_is); (case tSTEPS => rfl); (case hSTEPS => rfl); (case aBadRidge => k_is); (case aBadPlaces => k_is); (case xBadRidge => kernel_rfl); (case yBadRidge => kernel_rfl); (case xBadPlaces => kernel_rfl); (case yBadPlaces => kernel_rfl); (case z_all => k_is); (case z_bool => k_is); (case z_dict => k_is); (case z_int => k_is); (case z_isinstance => k_is); (case z_len => k_is); (case z_list => k_is); (case z_min => k_is); (case z_range => k_is); (case z_str => k_is); (case z_sum => k_is); (case z_tuple => k_is); (case aAnswer => k_is); (case aWay => k_is); (case aWay_init => k_is); (case iWay_init => k_is); (case lWay_init => k_is); (case cWay_init => k_is); (case kWay_init => k_is); (case aWay_shows => k_is); (case iWay_shows => k_is); (case lWay_shows => k_is); (case cWay_shows => k_is); (case kWay_shows => k_is); (case pgWay => k_is); (case hdWay => k_is); (case poWay => k_is); (case saWay => k_is); (case mkWay => k_is); (case kcWay => k_is); (case nWay_moves => k_is); (case haWay => kernel_rfl); (case hnWay => kernel_rfl); (case htWay => kernel_rfl); (case hmWay => kernel_rfl); (case aShut => k_is); (case aShut_init => k_is); (case iShut_init => k_is); (case lShut_init => k_is); (case cShut_init => k_is); (case kShut_init => k_is); (case aShut_shows => k_is); (case iShut_shows => k_is); (case lShut_shows => k_is); (case cShut_shows => k_is); (case kShut_shows => k_is); (case pgShut => k_is); (case hdShut => k_is); (case poShut => k_is); (case saShut => k_is); (case mkShut => k_is); (case kcShut => k_is); (case nShut_pairs => k_is); (case haShut => kernel_rfl); (case hnShut => kernel_rfl); (case htShut => kernel_rfl); (case hmShut => kernel_rfl); (case jWay_Way => kernel_rfl); (case jShut_Way => kernel_rfl)
    obtain ⟨A, T⟩ := T
    have e0 := hmg.symm.trans T.m_law
    cases e0
    obtain ⟨oc, od, kV, doc, pm, an, cdv, ct, osl, efd, lk, hcd⟩ := T.F_law.ex
    exact ⟨A.d_law, fun s u => efd ▸ .of_eq rfl, fun base kb nb => K08.ok_law T⟩
  case S => exact fun K H a ns hl hO hS => ⟨a, ns, rfl, hS, hl, fun _ => rfl⟩
  case C => exact fun _ _ _ _ z => z
#print axioms PySem.Challenge.cw_unison_k08_answers_by_hand_holds
