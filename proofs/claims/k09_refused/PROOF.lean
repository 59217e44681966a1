import PyProof.Rows.All
import Wide.All
import OpenK.AllK
import Wide.FinOn
import Lean
import PyProof.EqAt
import PyProof.EqKinds
import PyProof.TupleCall
import PySem.Challenge.RW_unison_k09_refused
set_option Elab.async false
set_option linter.all false
set_option maxRecDepth 100000
namespace L2
open PySem PySem.Spec PyProof.Rows
abbrev Key := Sum Int Str
def keyIs : Key → Value → Bool
  | .inl k, v => Value.isInt k v
  | .inr x, v => Value.isStrOf x v
def keyH (w : World) : Key → Int
  | .inl k => hashInt k
  | .inr x => hashStr w x
theorem keyIs_shape : ∀ {k : Key} {v : Value}, keyIs k v = true → (∃ i t, k = Sum.inl i ∧ v = Value.int i t) ∨ (∃ x t, k = Sum.inr x ∧ v = Value.str x t)
  | .inl i, v, h => by
    obtain ⟨t, e⟩ := Value.isInt_shape (k := i) (v := v) h
    exact .inl ⟨i, t, rfl, e⟩
  | .inr x, v, h => by
    obtain ⟨t, e⟩ := Value.isStrOf_shape (x := x) (v := v) h
    exact .inr ⟨x, t, rfl, e⟩
theorem keyIs_int (i : Int) (t : Tok) : keyIs (.inl i) (.int i t) = true := by simp [keyIs, Value.isInt]
theorem keyIs_str (x : Str) (t : Tok) : keyIs (.inr x) (.str x t) = true := by simp [keyIs, Value.isStrOf]
theorem key_ll (a b : Int) : decide ((Sum.inl a : Key) = Sum.inl b) = (a == b) := by
  by_cases e : a = b
  · subst e; simp
  · have h : ¬ (Sum.inl a : Key) = Sum.inl b := fun q => e (Sum.inl.inj q)
    rw [decide_eq_false h]
    exact (beq_eq_false_iff_ne.mpr e).symm
theorem key_rr (a b : Str) : decide ((Sum.inr a : Key) = Sum.inr b) = decide (a = b) := by
  by_cases e : a = b
  · subst e; simp
  · have h : ¬ (Sum.inr a : Key) = Sum.inr b := fun q => e (Sum.inr.inj q)
    rw [decide_eq_false h, decide_eq_false e]
theorem key_lr (a : Int) (b : Str) : decide ((Sum.inl a : Key) = Sum.inr b) = false := decide_eq_false (fun q => nomatch q)
theorem key_rl (a : Str) (b : Int) : decide ((Sum.inr a : Key) = Sum.inl b) = false := decide_eq_false (fun q => nomatch q)
def mixKind (prog : Program) (w : World) : PySem.KeyKind prog w Key where
  is := keyIs
  hash := keyH w
  inj := fun v a b ha hb => by
    rcases keyIs_shape ha with ⟨i, t, rfl, rfl⟩ | ⟨x, t, rfl, rfl⟩
    · rcases keyIs_shape hb with ⟨j, u, rfl, e⟩ | ⟨y, u, rfl, e⟩
      · injection e with e1 _; rw [e1]
      · exact nomatch e
    · rcases keyIs_shape hb with ⟨j, u, rfl, e⟩ | ⟨y, u, rfl, e⟩
      · exact nomatch e
      · injection e with e1 _; rw [e1]
  byValue := fun k v h => by
    rcases keyIs_shape h with ⟨i, t, rfl, rfl⟩ | ⟨x, t, rfl, rfl⟩ <;> rfl
  pyHash := fun hv h => by
    rcases keyIs_shape hv with ⟨i, t, rfl, rfl⟩ | ⟨x, t, rfl, rfl⟩
    · exact wpAny_pyHash_int h
    · exact wpAny_pyHash_str h
  eqBool := fun hu hv h => by
    rcases keyIs_shape hu with ⟨i, t, rfl, rfl⟩ | ⟨x, t, rfl, rfl⟩
    · rcases keyIs_shape hv with ⟨j, u, rfl, rfl⟩ | ⟨y, u, rfl, rfl⟩
      · rw [key_ll] at h; exact wpAny_eqBool_int h
      · rw [key_lr] at h; exact SeqAt.EqAt.int_str i t y u _ _ _ _ h
    · rcases keyIs_shape hv with ⟨j, u, rfl, rfl⟩ | ⟨y, u, rfl, rfl⟩
      · rw [key_rl] at h; exact SeqAt.EqAt.str_int x t j u _ _ _ _ h
      · rw [key_rr] at h; exact wpAny_eqBool_str h
  «strs» := fun k x t v h => by
    rcases keyIs_shape h with ⟨i, u, rfl, e⟩ | ⟨y, u, rfl, e⟩
    · exact nomatch e
    · injection e with e1 _
      subst e1
      cases v <;> rfl
theorem mixKind_int (prog : Program) (w : World) (i : Int) (t : Tok) : (mixKind prog w).is (.inl i) (.int i t) = true := keyIs_int i t
theorem mixKind_str (prog : Program) (w : World) (x : Str) (t : Tok) : (mixKind prog w).is (.inr x) (.str x t) = true := keyIs_str x t
end L2
namespace L2
open PySem PySem.Spec PyProof.Rows
inductive V where
  | non | bl (b : Bool) | int (i : Int) | str (x : Str) | byt (b : Array UInt8) | flt (b : UInt64) | ref (a : Addr) | ty (n : String)
  deriving DecidableEq
def RelV : V → Value → Prop
  | .non, u => u = Value.none
  | .bl b, u => u = Value.bool b
  | .int i, u => ∃ t, u = Value.int i t
  | .str x, u => ∃ t, u = Value.str x t
  | .byt b, u => ∃ t, u = Value.bytes b t
  | .flt b, u => ∃ t, u = Value.float b t
  | .ref a, u => u = Value.ref a
  | .ty n, u => u = Value.type n
abbrev Vals : List V → List Value → Prop := Paired RelV
theorem Vals.length {xs : List V} {us : List Value} (r : Vals xs us) : xs.length = us.length := Paired.length r
theorem Vals.get : ∀ {xs : List V} {us : List Value} {i : Nat} {x : V}, Vals xs us → xs[i]? = some x → ∃ u, us[i]? = some u ∧ RelV x u
  | _, _, _, _, .nil, e => by simp at e
  | _, _, 0, _, .cons r _, e => by simp at e; subst e; exact ⟨_, rfl, r⟩
  | _, _, i + 1, x, .cons _ t, e => by
    obtain ⟨u, h1, h2⟩ := Vals.get (i := i) (x := x) t (by simpa using e)
    exact ⟨u, by simpa using h1, h2⟩
theorem Vals.append : ∀ {xs ys : List V} {us ws : List Value}, Vals xs us → Vals ys ws → Vals (xs ++ ys) (us ++ ws)
  | _, _, _, _, .nil, s => s
  | _, _, _, _, .cons r t, s => .cons r (Vals.append t s)
theorem Vals.take : ∀ {xs : List V} {us : List Value} (n : Nat), Vals xs us → Vals (xs.take n) (us.take n)
  | _, _, 0, _ => .nil
  | _, _, _ + 1, .nil => .nil
  | _, _, n + 1, .cons r t => .cons r (Vals.take n t)
theorem Vals.drop : ∀ {xs : List V} {us : List Value} (n : Nat), Vals xs us → Vals (xs.drop n) (us.drop n)
  | _, _, 0, r => r
  | _, _, _ + 1, .nil => .nil
  | _, _, n + 1, .cons _ t => Vals.drop n t
def RelO : Option V → Option Value → Prop
  | some v, some u => RelV v u
  | none, none => True
  | _, _ => False
def KV {κ : Type} : List (κ × V) → List (κ × Value) → Prop := Paired fun (p : κ × V) (q : κ × Value) => p.1 = q.1 ∧ RelV p.2 q.2
def kV : Key → V
  | .inl i => .int i
  | .inr x => .str x
inductive HO where
  | lst (xs : List V)
  | tup (xs : List V)
  | dK (kvs : List (Key × V)) | dT (kvs : List (List Key × V))
  | set (S : Int → Bool) (n : Nat)
  | ins (C dx : Addr) (fs : List (Str × V))
  | own (x : Addr)
  | xd (fs : List (Str × V))
  | met (f x : Addr)
  | rng (lo hi : Int)
  | frz (o : Obj) (u : HO)
  | tbl (ps : Array Value)
  | ext (φ : Heap → Prop)
abbrev Hp := Addr → Option HO
def upd (H : Hp) (a : Addr) (o : HO) : Hp := fun b => if b = a then some o else H b
theorem upd_same {H : Hp} {a : Addr} {o : HO} : upd H a o a = some o := by unfold upd; rw [if_pos rfl]
theorem upd_ne {H : Hp} {a b : Addr} {o : HO} (h : b ≠ a) : upd H a o b = H b := by unfold upd; rw [if_neg h]
theorem ne_of {H : Hp} {a b : Addr} {o u : HO} (h : H a = some o) (h' : H b = some u) (d : o ≠ u) : a ≠ b := by
  intro e; subst e; rw [h] at h'; exact d (Option.some.inj h')
theorem ne_of_none {H : Hp} {a b : Addr} {o : HO} (h : H a = some o) (h' : H b = none) : a ≠ b := by
  intro e; subst e; rw [h] at h'; cases h'
section
variable (P : Program) (w : World)
def ObjOk (H : Hp) (h : Heap) (a : Addr) : HO → Prop
  | .lst xs => xs.length ≤ sizeLine ∧ ∃ (its : List Value) (n : Nat), Vals xs its ∧ h.get? a = some { cls := .type "list", data := .seq its.toArray n }
  | .tup xs => xs.length ≤ sizeLine ∧ ∃ its : List Value, Vals xs its ∧ IsTup h a its.toArray
  | .dK kvs => kvs.length ≤ sizeLine ∧ (a == sysModules) = false ∧ ∃ vs, KV kvs vs ∧ h.DictOf (mixKind P w) a vs
  | .dT kvs => kvs.length ≤ sizeLine ∧ (a == sysModules) = false ∧ ∃ xs : List (List Key × Addr × Value),
      Paired (fun (p : List Key × V) (q : List Key × Addr × Value) => p.1 = q.1 ∧ H q.2.1 = some (.tup (p.1.map kV)) ∧ RelV p.2 q.2.2) kvs xs ∧
      ∃ o es ep, h.get? a = some o ∧ o.ExactDict ∧ o.data = .dict es ep ∧ es.toList = xs.map (entryOfKey (tupleKind (mixKind P w))) ∧ (xs.map (·.1)).Nodup
  | .set S n => h.SetOf (intKind P w) a S n
  | .ins C dx fs => H dx = some (.own a) ∧ fs.length ≤ 1000 ∧ dx ≠ a ∧ h.get? a = some (PySem.W.instObj C dx) ∧
      ∃ mA, h.Ns1 dx mA ∧ (∀ f, RelO (fs.lookup f) (mA f)) ∧ PySem.Within mA (fs.map (·.1))
  | .own _ => ∃ o, h.get? a = some o
  | .xd fs => ∃ mA, h.Ns1 a mA ∧ ∀ f, RelO (fs.lookup f) (mA f)
  | .rng lo hi => ∃ t u v, h.get? a = some { cls := .type "range", data := .fields #[.int lo t, .int hi u, .int 1 v] }
  | .frz o u => h.get? a = some o ∧ ObjOk H h a u
  | .tbl ps => h.get? a = some { cls := .none, data := .fields ps }
  | .met f x => h.get? a = some (PySem.W.methodObj (.ref f) (.ref x))
  | .ext φ => φ h ∧ (∃ o, h.get? a = some o) ∧ ∀ h1 h2 : Heap, φ h1 → (∀ o, h1.get? a = some o → h2.get? a = some o) → φ h2
def HOk (H : Hp) (h : Heap) : Prop := ∀ a o, H a = some o → ObjOk P w H h a o
end
section
variable {P : Program} {w : World} {H H' : Hp} {h h' : Heap} {a : Addr} {o : HO}
theorem ObjOk.lt (x : ObjOk P w H h a o) : a < h.objs.size := by
  cases o with
  | lst xs => obtain ⟨_, _, _, _, e⟩ := x; exact Heap.lt_size e
  | tup xs => obtain ⟨_, _, _, p⟩ := x; exact p.lt
  | dK kvs => obtain ⟨_, _, _, _, o, _, _, e, _⟩ := x; exact Heap.lt_size e
  | dT kvs => obtain ⟨_, _, _, _, o, _, _, e, _⟩ := x; exact Heap.lt_size e
  | set S n => obtain ⟨o, _, _, _, e, _⟩ := x; exact Heap.lt_size e
  | ins C dx fs => obtain ⟨_, _, _, e, _⟩ := x; exact Heap.lt_size e
  | own y => obtain ⟨_, e⟩ := x; exact Heap.lt_size e
  | xd fs => obtain ⟨_, ⟨_, _, _, e, _⟩, _⟩ := x; exact Heap.lt_size e
  | rng lo hi => obtain ⟨_, _, _, e⟩ := x; exact Heap.lt_size e
  | frz ob u => obtain ⟨e, _⟩ := x; exact Heap.lt_size e
  | tbl ps => exact Heap.lt_size (show h.get? a = some _ from x)
  | met f y => exact Heap.lt_size (show h.get? a = some _ from x)
  | ext φ => obtain ⟨_, ⟨_, e⟩, _⟩ := x; exact Heap.lt_size e
theorem Paired.mapP {α β : Type} {F G : α → β → Prop} : ∀ {l₁ : List α} {l₂ : List β}, Paired F l₁ l₂ → (∀ a b, F a b → G a b) → Paired G l₁ l₂
  | _, _, .nil, _ => .nil
  | _, _, .cons r t, f => .cons (f _ _ r) (Paired.mapP t f)
theorem ObjOk.stay (x : ObjOk P w H h a o) (k : ∀ b u, (b = a ∨ H b = some (.own a)) → h.get? b = some u → h'.get? b = some u)
    (ho : ∀ b, H b = some (.own a) → H' b = some (.own a)) (ht : ∀ b xs, H b = some (.tup xs) → H' b = some (.tup xs)) : ObjOk P w H' h' a o := by
  induction o with
  | lst xs => obtain ⟨z, its, n, r, e⟩ := x; exact ⟨z, its, n, r, k _ _ (.inl rfl) e⟩
  | tup xs => obtain ⟨z, its, r, ob, e, c⟩ := x; exact ⟨z, its, r, ob, k _ _ (.inl rfl) e, c⟩
  | dK kvs => obtain ⟨z, y, vs, r, ob, es, ep, e, c⟩ := x; exact ⟨z, y, vs, r, ob, es, ep, k _ _ (.inl rfl) e, c⟩
  | dT kvs =>
    obtain ⟨z, y, xs, r, ob, es, ep, e, c⟩ := x
    exact ⟨z, y, xs, Paired.mapP r fun p q z => ⟨z.1, ht _ _ z.2.1, z.2.2⟩, ob, es, ep, k _ _ (.inl rfl) e, c⟩
  | set S n => obtain ⟨ob, es, ep, t, e, c⟩ := x; exact ⟨ob, es, ep, t, k _ _ (.inl rfl) e, c⟩
  | ins C dx fs =>
    obtain ⟨d, z, ne, e, mA, ⟨od, es, ep, e2, c⟩, r⟩ := x
    exact ⟨ho _ d, z, ne, k _ _ (.inl rfl) e, mA, ⟨od, es, ep, k _ _ (.inr d) e2, c⟩, r⟩
  | own y => obtain ⟨ob, e⟩ := x; exact ⟨ob, k _ _ (.inl rfl) e⟩
  | xd fs => obtain ⟨mA, ⟨od, es, ep, e, c⟩, r⟩ := x; exact ⟨mA, ⟨od, es, ep, k _ _ (.inl rfl) e, c⟩, r⟩
  | rng lo hi => obtain ⟨t, u, v, e⟩ := x; exact ⟨t, u, v, k _ _ (.inl rfl) e⟩
  | frz ob u ih => obtain ⟨e, q⟩ := x; exact ⟨k _ _ (.inl rfl) e, ih q⟩
  | tbl ps =>
    have e : h.get? a = some { cls := .none, data := .fields ps } := x
    show h'.get? a = some { cls := .none, data := .fields ps }
    exact k a _ (.inl rfl) e
  | met f y =>
    have e : h.get? a = some (PySem.W.methodObj (.ref f) (.ref y)) := x
    show h'.get? a = some (PySem.W.methodObj (.ref f) (.ref y))
    exact k a _ (.inl rfl) e
  | ext φ => obtain ⟨p, ⟨o, e⟩, st⟩ := x; exact ⟨st _ _ p fun o q => k _ _ (.inl rfl) q, ⟨o, k _ _ (.inl rfl) e⟩, st⟩
theorem HOk.lt (x : HOk P w H h) (e : H a = some o) : a < h.objs.size := (x a o e).lt
theorem HOk.fresh (x : HOk P w H h) (e : h.objs.size ≤ a) : H a = none := by
  cases q : H a with
  | none => rfl
  | some u => exact absurd (Nat.lt_of_lt_of_le (x.lt q) e) (Nat.lt_irrefl _)
theorem HOk.kept (x : HOk P w H h) (k : ∀ b u, h.get? b = some u → h'.get? b = some u) : HOk P w H h' := fun a o e =>
  (x a o e).stay (fun b u _ q => k b u q) (fun _ q => q) fun _ _ q => q
theorem HOk.laid (x : HOk P w H h) (k : ∀ b u, h.get? b = some u → h'.get? b = some u) (hp : h.objs.size ≤ a) (new : ObjOk P w (upd H a o) h' a o) : HOk P w (upd H a o) h' := fun b u e => by
  have hn := x.fresh hp
  by_cases hb : b = a
  · subst hb; rw [upd_same] at e; cases e; exact new
  · rw [upd_ne hb] at e
    exact (x b u e).stay (fun c v _ q => k c v q) (fun c q => by rw [upd_ne (ne_of_none q hn)]; exact q) fun c xs q => by rw [upd_ne (ne_of_none q hn)]; exact q
end
def Rd (H : Hp) (a : Addr) (u : HO) : Prop := H a = some u ∨ ∃ o, H a = some (.frz o u)
theorem Rd.ok {P : Program} {w : World} {H : Hp} {h : Heap} {a : Addr} {u : HO} (r : Rd H a u) (x : HOk P w H h) : ObjOk P w H h a u := by
  rcases r with r | ⟨o, r⟩
  · exact x a u r
  · obtain ⟨_, q⟩ := x a _ r
    exact q
def Mut : Option HO → Prop
  | some (.lst _) => True
  | some (.dK _) => True
  | some (.dT _) => True
  | some (.set _ _) => True
  | some (.ins _ _ _) => True
  | some (.ext _) => True
  | _ => False
section
variable {P : Program} {w : World} {H : Hp} {h h' : Heap} {x e : Addr} {o' : HO}
theorem HOk.write (ok : HOk P w H h) (mu : Mut (H x)) (he : e = x ∨ H e = some (.own x)) (k : ∀ b u, b ≠ e → h.get? b = some u → h'.get? b = some u) (heo : ∃ u, h'.get? e = some u)
    (new : ObjOk P w (upd H x o') h' x o') : HOk P w (upd H x o') h' := fun b u q => by
  have nown : ∀ c y, H c = some (.own y) → c ≠ x := fun c y r z => by subst z; rw [r] at mu; exact mu
  have ntup : ∀ c xs, H c = some (.tup xs) → c ≠ x := fun c xs r z => by subst z; rw [r] at mu; exact mu
  by_cases hb : b = x
  · subst hb; rw [upd_same] at q; cases q; exact new
  · rw [upd_ne hb] at q
    by_cases hbe : b = e
    · have q' : H b = some (.own x) := by
        rcases he with z | z
        · exact absurd (hbe.trans z) hb
        · rw [hbe]; exact z
      rw [q] at q'; cases q'
      obtain ⟨v, hv⟩ := heo
      exact ⟨v, by rw [hbe]; exact hv⟩
    · refine (ok b u q).stay (fun c v hc r => k c v ?_ r) (fun c r => by rw [upd_ne (nown c b r)]; exact r) fun c xs r => by rw [upd_ne (ntup c xs r)]; exact r
      rcases hc with rfl | hc
      · exact hbe
      · rintro rfl
        rcases he with z | z
        · exact nown c b hc z
        · rw [hc] at z; cases z; exact hb rfl
end
structure Un (fs ex : List Addr) (H H' : Hp) (h h' : Heap) : Prop where
  keep : ∀ b o, h.get? b = some o → H b = none → b ∉ fs → b ∉ ex → h'.get? b = some o
  slot : ∀ b o, h.get? b = some o → H b = none → b ∈ fs → b ∉ ex → ∃ sl, h'.get? b = some { o with slots := sl }
  free : ∀ b o, h.get? b = some o → H b = none → b ∉ ex → H' b = none
  there : ∀ b o, h.get? b = some o → b ∉ ex → ∃ o', h'.get? b = some o'
  tups : ∀ b xs, H b = some (.tup xs) → H' b = some (.tup xs)
  frzs : ∀ b o u, H b = some (.frz o u) → H' b = some (.frz o u)
  tbls : ∀ b ps, H b = some (.tbl ps) → ∃ more, H' b = some (.tbl (ps ++ more))
section
variable {fs fs' ex ex' : List Addr} {H H1 H2 : Hp} {h h1 h2 h' : Heap} {a x e : Addr} {o : HO}
theorem Un.any (u : Un fs ex H H1 h h1) {b : Addr} {ob : Obj} (q : h.get? b = some ob) (n : H b = none) (hx : b ∉ ex) : ∃ sl, h1.get? b = some { ob with slots := sl } := by
  by_cases hb : b ∈ fs
  · exact u.slot b ob q n hb hx
  · exact ⟨ob.slots, u.keep b ob q n hb hx⟩
theorem Un.kept (k : ∀ b u, h.get? b = some u → h'.get? b = some u) : Un fs ex H H h h' :=
  ⟨fun b ob q _ _ _ => k b ob q, fun b ob q _ _ _ => ⟨ob.slots, k b ob q⟩, fun _ _ _ n _ => n, fun b ob q _ => ⟨ob, k b ob q⟩, fun _ _ q => q, fun _ _ _ q => q, fun _ ps q => ⟨#[], by rw [q]; simp⟩⟩
theorem Un.refl : Un fs ex H H h h := Un.kept fun _ _ q => q
theorem Un.laid (k : ∀ b u, h.get? b = some u → h'.get? b = some u) (hp : h.objs.size ≤ a) (hn : H a = none) : Un fs ex H (upd H a o) h h' where
  keep := fun b u q _ _ _ => k b u q
  slot := fun b u q _ _ _ => ⟨u.slots, k b u q⟩
  free := fun b u q n _ => by rw [upd_ne (Nat.ne_of_lt (Nat.lt_of_lt_of_le (Heap.lt_size q) hp))]; exact n
  there := fun b u q _ => ⟨u, k b u q⟩
  tups := fun b xs q => by rw [upd_ne (ne_of_none q hn)]; exact q
  frzs := fun b u xs q => by rw [upd_ne (ne_of_none q hn)]; exact q
  tbls := fun b ps q => ⟨#[], by rw [upd_ne (ne_of_none q hn), q]; simp⟩
theorem Un.write (mu : Mut (H x)) (he : e = x ∨ H e = some (.own x)) (k : ∀ b u, b ≠ e → h.get? b = some u → h'.get? b = some u) (heo : ∃ u, h'.get? e = some u) : Un fs ex H (upd H x o) h h' := by
  have hx : ∀ b, H b = none → b ≠ x := fun b n z => by subst z; rw [n] at mu; exact mu
  have hb : ∀ b, H b = none → b ≠ e := fun b n z => by
    subst z
    rcases he with r | r
    · exact hx b n r
    · rw [n] at r; cases r
  have hm : ∀ b u, H b = some u → ¬ Mut (some u) → b ≠ x := fun b u q nm z => by subst z; rw [q] at mu; exact nm mu
  refine ⟨fun b u q n _ _ => k b u (hb b n) q, fun b u q n _ _ => ⟨u.slots, k b u (hb b n) q⟩, fun b u q n _ => by rw [upd_ne (hx b n)]; exact n, fun b u q _ => ?_,
    fun b xs q => by rw [upd_ne (hm b _ q fun z => z)]; exact q, fun b u xs q => by rw [upd_ne (hm b _ q fun z => z)]; exact q, fun b ps q => ⟨#[], by rw [upd_ne (hm b _ q fun z => z), q]; simp⟩⟩
  by_cases hbe : b = e
  · subst hbe; exact heo
  · exact ⟨u, k b u hbe q⟩
end
def trk (h : Heap) (H : Hp) : List Addr := (List.range h.objs.size).filter fun a => (H a).isSome
def hidT (h : Heap) (H : Hp) : Heap := PySem.W.hideAll h (trk h H)
theorem hidT_size (h : Heap) (H : Hp) : (hidT h H).objs.size = h.objs.size := PySem.W.hideAll_size _ _
theorem hidT_get {h : Heap} {H : Hp} {b : Addr} {o : Obj} (e : h.get? b = some o) (n : H b = none) : (hidT h H).get? b = some o :=
  PySem.W.hideAll_get _ e fun hm => by
    have q : (H b).isSome = true := (List.mem_filter.mp hm).2
    rw [n] at q; simp at q
theorem of_hidT {h : Heap} {H : Hp} {b : Addr} {o : Obj} (e : (hidT h H).get? b = some o) : h.get? b = some o ∧ H b = none := by
  have e' : h.get? b = some o := PySem.W.of_hideAll (trk h H) e
  refine ⟨e', ?_⟩
  cases q : H b with
  | none => rfl
  | some x =>
    have hm : b ∈ trk h H := List.mem_filter.mpr ⟨List.mem_range.mpr (Heap.lt_size e'), by simp [q]⟩
    have z : (hidT h H).get? b = none := PySem.W.hideAll_none (trk h H) hm
    rw [z] at e; cases e
def allNews (g h : Heap) (L : Addr) : List (Addr × Obj) := (List.range h.objs.size).filterMap fun a => if a = L ∨ (g.get? a).isSome = true then none else (h.get? a).map fun o => (a, o)
def rest (g h : Heap) (L d : Addr) : List (Addr × Obj) := (allNews g h L).filter fun p => decide (p.1 ≠ d)
end L2
namespace L2
open PySem PySem.Spec PyProof.Rows
structure Mod (K : PySem.W.Frag) (mg : Str → Option Value) (base : Heap) : Prop where
  kin : K.In base
  glob : base.Ns mainGlobals mg
  blt : ∃ mb, base.Ns builtinsNs mb ∧ ∀ x : Str, x ≠ "__name__" → mb x = bootBuiltins x
  nolimit : base.NoLimit
structure Cx where
  prog : Program
  w : World
  K : PySem.W.Frag
  mg : Str → Option Value
  base : Heap
  A : Around
  N : List Str
  s₀ : Shared
  H₀ : Hp
  env : Env
  outer : List Env
  stack : List Env
  ex : List Addr
  fn : Str → Bool
  calm : Bool
  pn : List (Addr × Obj)
  xe : Value → Shared → Prop
def frs (l : List Env) : List Addr := l.filterMap (·.frame)
abbrev Cx.fs (X : Cx) : List Addr := frs X.outer
def Vis (sc : Scope) (x : Str) : Prop := sc.names.lookup x = some .local ∨ sc.names.lookup x = some .cell ∨ sc.names.lookup x = some .free
def Loc (sc : Scope) (x : Str) : Prop := sc.names.lookup x = some .local ∨ sc.names.lookup x = some .cell
def Look (env : Env) (h : Heap) (m : Str → Option Value) (x : Str) (u : Value) : Prop :=
  (env.kindOf x = some .local ∧ m x = some u) ∨ ((env.kindOf x = some .cell ∨ env.kindOf x = some .free) ∧ ∃ c, env.cells.lookup x = some c ∧ h.IsCell c (some u))
structure Cx.Ok (X : Cx) : Prop where
  mod : Mod X.K X.mg X.base
  kind : X.env.scope.kind = .function
  glob : X.env.globals = mainGlobals
  blt : X.env.builtins = builtinsNs
  above : X.s₀.heap.objs.size ≤ X.env.locals
  inj : ∀ x y c, X.env.cells.lookup x = some c → X.env.cells.lookup y = some c → x = y
  has : ∀ x, (X.env.kindOf x = some .cell ∨ X.env.kindOf x = some .free) → ∃ c, X.env.cells.lookup x = some c
  cab : ∀ x c, X.fn x = true → X.env.cells.lookup x = some c → X.s₀.heap.objs.size ≤ c
  hd : X.calm = true → X.A.handled = none
  frames : X.A.frames = some X.stack
  stk : X.stack = X.outer ∨ (X.stack = X.env :: X.outer ∧ X.env.frame = some X.env.locals)
  exf : ∀ b ∈ X.ex, b ≠ X.env.locals ∧ ∀ x c, X.env.cells.lookup x = some c → c ≠ b
  bs : ∀ b o, X.base.get? b = some o → X.s₀.heap.get? b = some o ∧ X.H₀ b = none
  bsz : X.base.objs.size ≤ X.s₀.heap.objs.size
  noex : ∀ b o, X.base.get? b = some o → b ∉ X.ex
  exfs : ∀ b ∈ X.ex, b ∉ X.fs
  funs : X.s₀.heap.FunFrames X.base X.outer
  frf : ∀ b ∈ X.fs, X.H₀ b = none
structure Inv (X : Cx) (pins : List (Addr × Obj)) (σ : List (Option V)) (H : Hp) (s : Shared) : Prop where
  ok : X.Ok
  os : s.os = X.s₀.os
  bare : AllBare s.gens
  base : Un X.fs X.ex X.H₀ H X.s₀.heap s.heap
  loc : ∃ m, s.heap.Ns X.env.locals m ∧ ∀ (i : Nat) (x : Str) (v : V), X.N[i]? = some x → σ[i]? = some (some v) → Vis X.env.scope x → ∃ u, RelV v u ∧ Look X.env s.heap m x u
  cell : ∀ x c, X.env.cells.lookup x = some c → ∃ v, s.heap.IsCell c v
  free : H X.env.locals = none
  freeC : ∀ x c, X.env.cells.lookup x = some c → H c = none
  pin : ∀ p ∈ X.pn ++ pins, s.heap.get? p.1 = some p.2 ∧ H p.1 = none ∧ p.1 ≠ X.env.locals ∧ p.1 ∉ X.fs ∧ ∀ v, p.2.data ≠ .cell v
  hok : HOk X.prog X.w H s.heap
  len : σ.length = X.N.length
section
variable {X : Cx} {pins : List (Addr × Obj)} {σ : List (Option V)} {H H' : Hp} {s : Shared} {h' : Heap}
theorem Cx.Ok.nofr (ok : X.Ok) {b : Addr} {o : Obj} (e : X.base.get? b = some o) : b ∉ X.fs := fun hb => by
  have := (ok.funs.mem hb).1
  rw [e] at this; cases this
theorem Inv.bs (I : Inv X pins σ H s) : ∀ b o, X.base.get? b = some o → s.heap.get? b = some o ∧ H b = none := fun b o e =>
  ⟨I.base.keep b o (I.ok.bs b o e).1 (I.ok.bs b o e).2 (I.ok.nofr e) (I.ok.noex b o e), I.base.free b o (I.ok.bs b o e).1 (I.ok.bs b o e).2 (I.ok.noex b o e)⟩
theorem Inv.bk (I : Inv X pins σ H s) : ∀ b o, X.base.get? b = some o → s.heap.get? b = some o := fun b o e => (I.bs b o e).1
theorem Inv.mod (I : Inv X pins σ H s) : Mod X.K X.mg X.base := I.ok.mod
theorem Inv.kIn (I : Inv X pins σ H s) : X.K.In s.heap := I.ok.mod.kin.keeps I.bk
theorem Inv.lt (I : Inv X pins σ H s) : X.env.locals < s.heap.objs.size := let ⟨_, hn, _⟩ := I.loc; hn.lt
theorem Inv.sz (I : Inv X pins σ H s) : X.s₀.heap.objs.size ≤ s.heap.objs.size := Nat.le_trans I.ok.above (Nat.le_of_lt I.lt)
theorem Inv.nofs (I : Inv X pins σ H s) {a : Addr} (h : s.heap.objs.size ≤ a) : a ∉ X.fs := fun hb => by
  obtain ⟨_, o, ho, _⟩ := I.ok.funs.mem hb
  exact absurd (Nat.lt_of_lt_of_le (Heap.lt_size ho) (Nat.le_trans I.sz h)) (Nat.lt_irrefl _)
theorem Inv.cne (I : Inv X pins σ H s) : ∀ x c, X.env.cells.lookup x = some c → c ≠ X.env.locals := fun x c e z => by
  obtain ⟨v, o, ho, hd⟩ := I.cell x c e
  obtain ⟨m, ⟨o', es, ep, ho', hd', _⟩, _⟩ := I.loc
  rw [z, ho'] at ho; cases ho; rw [hd'] at hd; cases hd
theorem Inv.funs (I : Inv X pins σ H s) : s.heap.FunFrames X.base X.outer := by
  have all : ∀ (l : List Env), (∀ b ∈ frs l, b ∈ X.fs) → X.s₀.heap.FunFrames X.base l → s.heap.FunFrames X.base l := by
    intro l
    induction l with
    | nil => intro _ _; trivial
    | cons env r ih =>
      intro hs hl
      obtain ⟨hk, ⟨L, o, hf, hn, ho, hd⟩, hr⟩ := hl
      have hL : L ∈ X.fs := hs L (by unfold frs; rw [List.filterMap_cons, hf]; exact List.mem_cons_self)
      obtain ⟨sl, e⟩ := I.base.slot L o ho (I.ok.frf L hL) hL fun z => I.ok.exfs L z hL
      exact ⟨hk, ⟨L, _, hf, hn, e, hd⟩, ih (fun b hb => hs b (by unfold frs; rw [List.filterMap_cons, hf]; exact List.mem_cons_of_mem _ hb)) hr⟩
  exact all X.outer (fun _ hb => hb) I.ok.funs
theorem Inv.stack (I : Inv X pins σ H s) : s.heap.FunFrames X.base X.stack := by
  rcases I.ok.stk with e | ⟨e, hf⟩
  · rw [e]; exact I.funs
  · rw [e]
    obtain ⟨m, hn, _⟩ := I.loc
    refine .cons (by rw [I.ok.kind]; decide) hf hn ?_ I.funs
    exact Heap.get?_none_of_le (Nat.le_trans I.ok.bsz I.ok.above)
theorem Inv.stkSub (I : Inv X pins σ H s) : ∀ b ∈ frs X.stack, b ∈ X.env.locals :: X.fs := fun b hb => by
  rcases I.ok.stk with e | ⟨e, hf⟩
  · rw [e] at hb; exact List.mem_cons_of_mem _ hb
  · rw [e] at hb
    unfold frs at hb
    rw [List.filterMap_cons, hf] at hb
    exact hb
theorem Inv.stkFree (I : Inv X pins σ H s) : ∀ b ∈ frs X.stack, H b = none := fun b hb => by
  rcases List.mem_cons.mp (I.stkSub b hb) with e | hb
  · rw [e]; exact I.free
  · obtain ⟨_, o, ho, _⟩ := I.ok.funs.mem hb
    exact I.base.free b o ho (I.ok.frf b hb) fun z => I.ok.exfs b z hb
theorem Inv.step {g' : Array GenState} {t' : Nat} {d' : Drawn} {ch : List Addr} (I : Inv X pins σ H s)
    (hch : ∀ b ∈ ch, (b ∈ X.ex ∨ X.s₀.heap.objs.size ≤ b) ∧ b ≠ X.env.locals ∧ (∀ x c, X.env.cells.lookup x = some c → c ≠ b) ∧ ∀ p ∈ X.pn ++ pins, p.1 ≠ b)
    (keep : ∀ b o, b ≠ X.env.locals → b ∉ X.fs → b ∉ ch → s.heap.get? b = some o → H b = none → h'.get? b = some o)
    (slot : ∀ b o, b ≠ X.env.locals → b ∈ X.fs → b ∉ ch → s.heap.get? b = some o → H b = none → ∃ sl, h'.get? b = some { o with slots := sl }) (free : ∀ b o, b ∉ ch → s.heap.get? b = some o → H b = none → H' b = none)
    (there : ∀ b o, b ∉ ch → s.heap.get? b = some o → ∃ o', h'.get? b = some o')
    (tups : ∀ b xs, H b = some (.tup xs) → H' b = some (.tup xs)) (frzs : ∀ b o u, H b = some (.frz o u) → H' b = some (.frz o u)) (tbls : ∀ b ps, H b = some (.tbl ps) → ∃ more, H' b = some (.tbl (ps ++ more)))
    (ns : ∀ m, s.heap.Ns X.env.locals m → h'.Ns X.env.locals m) (hok : HOk X.prog X.w H' h') (hg : AllBare g') :
    Inv X pins σ H' { s with heap := h', gens := g', drawn := d', toks := t' } := by
  have neL : ∀ b o, X.s₀.heap.get? b = some o → b ≠ X.env.locals := fun b o e => Nat.ne_of_lt (Nat.lt_of_lt_of_le (Heap.lt_size e) I.ok.above)
  have neC : ∀ b o, X.s₀.heap.get? b = some o → b ∉ X.ex → b ∉ ch := fun b o e hx hb => by
    rcases (hch b hb).1 with z | z
    · exact hx z
    · exact absurd (Nat.lt_of_lt_of_le (Heap.lt_size e) z) (Nat.lt_irrefl _)
  have cellK : ∀ x c, X.env.cells.lookup x = some c → ∀ v, s.heap.IsCell c v → h'.IsCell c v := fun x c e v ⟨o, ho, hd⟩ => by
    have nch : c ∉ ch := fun z => (hch c z).2.2.1 x c e rfl
    by_cases hc : c ∈ X.fs
    · obtain ⟨sl, q⟩ := slot c o (I.cne x c e) hc nch ho (I.freeC x c e)
      exact ⟨_, q, hd⟩
    · exact ⟨o, keep c o (I.cne x c e) hc nch ho (I.freeC x c e), hd⟩
  refine ⟨I.ok, I.os, hg, ⟨fun b o e n hb hx => ?_, fun b o e n hb hx => ?_, fun b o e n hx => ?_, fun b o e hx => ?_, fun b xs e => tups b xs (I.base.tups b xs e), fun b o xs e => frzs b o xs (I.base.frzs b o xs e), fun b ps e => ?_⟩, ?_, fun x c e => ?_, ?_, fun x c e => ?_, fun p hp => ?_, hok, I.len⟩
  · exact keep b o (neL b o e) hb (neC b o e hx) (I.base.keep b o e n hb hx) (I.base.free b o e n hx)
  · obtain ⟨sl, e1⟩ := I.base.slot b o e n hb hx
    obtain ⟨sl', e2⟩ := slot b _ (neL b o e) hb (neC b o e hx) e1 (I.base.free b o e n hx)
    exact ⟨sl', e2⟩
  · obtain ⟨o', e1⟩ := I.base.there b o e hx
    exact free b o' (neC b o e hx) e1 (I.base.free b o e n hx)
  · obtain ⟨o', e1⟩ := I.base.there b o e hx
    exact there b o' (neC b o e hx) e1
  · obtain ⟨m1, e1⟩ := I.base.tbls b ps e
    obtain ⟨m2, e2⟩ := tbls b _ e1
    exact ⟨m1 ++ m2, by rw [e2, Array.append_assoc]⟩
  · obtain ⟨m, hn, hl⟩ := I.loc
    refine ⟨m, ns m hn, fun i x v e1 e2 e3 => ?_⟩
    obtain ⟨u, r, l⟩ := hl i x v e1 e2 e3
    refine ⟨u, r, ?_⟩
    rcases l with l | ⟨k, c, e, z⟩
    · exact .inl l
    · exact .inr ⟨k, c, e, cellK x c e _ z⟩
  · obtain ⟨v, z⟩ := I.cell x c e
    exact ⟨v, cellK x c e v z⟩
  · obtain ⟨m, ⟨o, _, _, ho, _⟩, _⟩ := I.loc
    exact free _ o (fun z => (hch _ z).2.1 rfl) ho I.free
  · obtain ⟨v, o, ho, hd⟩ := I.cell x c e
    exact free c o (fun z => (hch c z).2.2.1 x c e rfl) ho (I.freeC x c e)
  · obtain ⟨e, n, ne, nf, d⟩ := I.pin p hp
    have nch : p.1 ∉ ch := fun z => (hch p.1 z).2.2.2 p hp rfl
    exact ⟨keep p.1 p.2 ne nf nch e n, free p.1 p.2 nch e n, ne, nf, d⟩
theorem Inv.un {t' : Nat} (I : Inv X pins σ H s) (u : Un X.fs [] H H' s.heap h') (hok : HOk X.prog X.w H' h') : Inv X pins σ H' { s with heap := h', toks := t' } := by
  obtain ⟨m, ⟨o, es, ep, ho, r⟩, _⟩ := id I.loc
  obtain ⟨sl, hL⟩ := u.any ho I.free (by simp)
  exact I.step (g' := s.gens) (d' := s.drawn) (ch := []) (fun _ z => nomatch z) (fun b o _ hb _ e n => u.keep b o e n hb (by simp)) (fun b o _ hb _ e n => u.slot b o e n hb (by simp)) (fun b o _ e n => u.free b o e n (by simp)) (fun b o _ e => u.there b o e (by simp)) u.tups u.frzs u.tbls (fun m' hm => by
    obtain ⟨o', es', ep', ho', r'⟩ := hm
    rw [ho] at ho'; cases ho'
    exact ⟨_, es', ep', hL, r'⟩) hok I.bare
theorem Inv.call {g' : Array GenState} {t' : Nat} {d' : Drawn} {ch : List Addr} (I : Inv X pins σ H s) (u : Un (frs X.stack) ch H H' s.heap h') (hok : HOk X.prog X.w H' h') (hg : AllBare g')
    (hch : ∀ b ∈ ch, (b ∈ X.ex ∨ X.s₀.heap.objs.size ≤ b) ∧ b ≠ X.env.locals ∧ (∀ x c, X.env.cells.lookup x = some c → c ≠ b) ∧ ∀ p ∈ X.pn ++ pins, p.1 ≠ b) :
    Inv X pins σ H' { s with heap := h', gens := g', drawn := d', toks := t' } := by
  obtain ⟨m, ⟨o, es, ep, ho, r⟩, _⟩ := id I.loc
  obtain ⟨sl, hL⟩ := u.any ho I.free fun z => (hch _ z).2.1 rfl
  exact I.step (ch := ch) hch (fun b o hL hb hc e n => u.keep b o e n (fun z => (List.mem_cons.mp (I.stkSub b z)).elim hL hb) hc) (fun b o _ _ hc e n => u.any e n hc) (fun b o hc e n => u.free b o e n hc) (fun b o hc e => u.there b o e hc) u.tups u.frzs u.tbls (fun m' hm => by
    obtain ⟨o', es', ep', ho', r'⟩ := hm
    rw [ho] at ho'; cases ho'
    exact ⟨_, es', ep', hL, r'⟩) hok hg
theorem Inv.turned {t' : Nat} {it : Addr} (I : Inv X pins σ H s) (k : ∀ b o, b ≠ it → s.heap.get? b = some o → h'.get? b = some o) (hn : H it = none) (hL : it ≠ X.env.locals)
    (h1 : it ∈ X.ex ∨ X.s₀.heap.objs.size ≤ it) (h2 : ∀ x c, X.env.cells.lookup x = some c → c ≠ it) (h3 : ∀ p ∈ X.pn ++ pins, p.1 ≠ it) : Inv X pins σ H { s with heap := h', toks := t' } := by
  have nit : ∀ b u, H b = some u → b ≠ it := fun b u e z => by rw [z, hn] at e; cases e
  refine I.step (g' := s.gens) (d' := s.drawn) (ch := [it]) (fun b hb => ?_) (fun b o _ _ hc e _ => k b o (fun z => hc (by simp [z])) e) (fun b o _ _ hc e _ => ⟨o.slots, k b o (fun z => hc (by simp [z])) e⟩) (fun _ _ _ _ n => n)
    (fun b o hc e => ⟨o, k b o (fun z => hc (by simp [z])) e⟩) (fun _ _ e => e) (fun _ _ _ e => e) (fun b ps e => ⟨#[], by rw [e]; simp⟩) (fun m hm => ?_) (fun b u e => ?_) I.bare
  · have e : b = it := by simpa using hb
    subst e
    exact ⟨h1, hL, h2, h3⟩
  · obtain ⟨o, es, ep, ho, r⟩ := hm
    exact ⟨o, es, ep, k _ o (Ne.symm hL) ho, r⟩
  · refine (I.hok b u e).stay (fun c v hc q => k c v ?_ q) (fun _ q => q) fun _ _ q => q
    rcases hc with z | z
    · rw [z]; exact nit b u e
    · exact nit c _ z
theorem Inv.tok (I : Inv X pins σ H s) (t : Nat) : Inv X pins σ H { s with toks := t } := I.un (h' := s.heap) (t' := t) Un.refl I.hok
theorem Inv.kept {t' : Nat} (I : Inv X pins σ H s) (k : ∀ b u, s.heap.get? b = some u → h'.get? b = some u) : Inv X pins σ H { s with heap := h', toks := t' } := I.un (Un.kept k) (I.hok.kept k)
theorem Inv.laid {a : Addr} {o : HO} {t' : Nat} (I : Inv X pins σ H s) (k : ∀ b u, s.heap.get? b = some u → h'.get? b = some u) (hp : s.heap.objs.size ≤ a) (new : ObjOk X.prog X.w (upd H a o) h' a o) :
    Inv X pins σ (upd H a o) { s with heap := h', toks := t' } := I.un (Un.laid k hp (I.hok.fresh hp)) (I.hok.laid k hp new)
theorem Inv.write {x e : Addr} {o : HO} {t' : Nat} (I : Inv X pins σ H s) (mu : Mut (H x)) (he : e = x ∨ H e = some (.own x)) (k : ∀ b u, b ≠ e → s.heap.get? b = some u → h'.get? b = some u) (heo : ∃ u, h'.get? e = some u)
    (new : ObjOk X.prog X.w (upd H x o) h' x o) : Inv X pins σ (upd H x o) { s with heap := h', toks := t' } := I.un (Un.write mu he k heo) (I.hok.write mu he k heo new)
theorem Inv.weak {σ' : List (Option V)} (I : Inv X pins σ H s) (hl : σ'.length = σ.length) (w : ∀ (i : Nat) v, σ'[i]? = some (some v) → σ[i]? = some (some v)) : Inv X pins σ' H s :=
  ⟨I.ok, I.os, I.bare, I.base, let ⟨m, hn, hl'⟩ := I.loc; ⟨m, hn, fun i x v e1 e2 e3 => hl' i x v e1 (w i v e2) e3⟩, I.cell, I.free, I.freeC, I.pin, I.hok, hl.trans I.len⟩
theorem Inv.pins_of {pins' : List (Addr × Obj)} (I : Inv X pins σ H s) (h : ∀ p ∈ pins', s.heap.get? p.1 = some p.2 ∧ H p.1 = none ∧ p.1 ≠ X.env.locals ∧ p.1 ∉ X.fs ∧ ∀ v, p.2.data ≠ .cell v) : Inv X pins' σ H s :=
  ⟨I.ok, I.os, I.bare, I.base, I.loc, I.cell, I.free, I.freeC, fun p hp => (List.mem_append.mp hp).elim (fun z => I.pin p (List.mem_append_left _ z)) (h p), I.hok, I.len⟩
theorem nodup_ix {N : List Str} (hN : N.Nodup) {i j : Nat} {x : Str} (a : N[i]? = some x) (b : N[j]? = some x) : i = j := by
  obtain ⟨h1, e1⟩ := List.getElem?_eq_some_iff.mp a
  obtain ⟨h2, e2⟩ := List.getElem?_eq_some_iff.mp b
  exact (List.getElem_inj hN).mp (e1.trans e2.symm)
theorem store_ok2 {M : Model} {A : Around} {E : Value → Shared → Prop} {i : Nat} {x : Str} {v : V} {u : Value} {Q : Unit → Shared → Prop} (I : Inv X pins σ H s) (hN : X.N.Nodup) (hi : X.N[i]? = some x) (hx : Loc X.env.scope x) (r : RelV v u)
    (h : ∀ s', Inv X pins (σ.set i (some v)) H s' → (∃ a, Heap.SameBut a s.heap s'.heap ∧ (a = X.env.locals ∨ X.env.cells.lookup x = some a)) → Q () s') (hf : X.fn x = true ∨ X.env.scope.names.lookup x = some .local := by first | exact .inl rfl | exact .inr rfl | assumption) : wpAny M A (storeName X.env x u) Q E s := by
  obtain ⟨m, hn, hl⟩ := id I.loc
  have hcls : (X.env.scope.kind == .class || (X.env.scope.kind == .module && X.env.locals != X.env.globals)) = false := by rw [I.ok.kind]; rfl
  have hiσ : i < σ.length := by rw [I.len]; exact (List.getElem?_eq_some_iff.mp hi).1
  have cne := I.cne
  have tracked : ∀ {a : Addr} {h' : Heap}, (∃ o, s.heap.get? a = some o ∧ H a = none) → Heap.SameBut a s.heap h' → HOk X.prog X.w H h' := fun {a h'} ha hs b ob e => by
    obtain ⟨_, _, hfree⟩ := ha
    refine (I.hok b ob e).stay (fun c w' hc q => (hs.2 c ?_).trans q) (fun _ q => q) fun _ _ q => q
    rintro rfl
    rcases hc with rfl | hc
    · rw [hfree] at e; cases e
    · rw [hfree] at hc; cases hc
  rcases hx with hk | hk
  · refine wpAny_storeName_local hk hn (fun h' hn' hs => ?_) hcls
    obtain ⟨oL, _, _, hoL, _⟩ := id hn
    refine h _ ⟨I.ok, I.os, I.bare, ⟨fun b o e n hb hx => ?_, fun b o e n hb hx => ?_, I.base.free, fun b o e hx => ?_, I.base.tups, I.base.frzs, I.base.tbls⟩, ⟨_, hn', fun j y v' e1 e2 e3 => ?_⟩, fun y c e => ?_, I.free, I.freeC, fun p hp => ?_, tracked ⟨oL, hoL, I.free⟩ hs, by simpa using I.len⟩ ⟨_, hs, .inl rfl⟩
    · exact (hs.2 b (Nat.ne_of_lt (Nat.lt_of_lt_of_le (Heap.lt_size e) I.ok.above))).trans (I.base.keep b o e n hb hx)
    · obtain ⟨sl, e1⟩ := I.base.slot b o e n hb hx
      exact ⟨sl, (hs.2 b (Nat.ne_of_lt (Nat.lt_of_lt_of_le (Heap.lt_size e) I.ok.above))).trans e1⟩
    · obtain ⟨o', e1⟩ := I.base.there b o e hx
      exact ⟨o', (hs.2 b (Nat.ne_of_lt (Nat.lt_of_lt_of_le (Heap.lt_size e) I.ok.above))).trans e1⟩
    · by_cases hj : j = i
      · subst hj
        rw [hi] at e1; cases e1
        rw [List.getElem?_set_self hiσ] at e2
        cases e2
        exact ⟨u, r, .inl ⟨hk, by simp⟩⟩
      · rw [List.getElem?_set_ne (Ne.symm hj)] at e2
        obtain ⟨u', r', q⟩ := hl j y v' e1 e2 e3
        refine ⟨u', r', ?_⟩
        rcases q with ⟨k, e⟩ | ⟨k, c, e, z⟩
        · refine .inl ⟨k, ?_⟩
          have : y ≠ x := fun e => hj (nodup_ix hN e1 (e ▸ hi))
          simp [this, e]
        · exact .inr ⟨k, c, e, z.sameBut hs (cne y c e)⟩
    · obtain ⟨w', z⟩ := I.cell y c e
      exact ⟨w', z.sameBut hs (cne y c e)⟩
    · obtain ⟨e, n, ne, nf, d⟩ := I.pin p hp
      exact ⟨(hs.2 p.1 ne).trans e, n, ne, nf, d⟩
  · have hfn : X.fn x = true := by
      rcases hf with z | z
      · exact z
      · rw [z] at hk; cases hk
    obtain ⟨c, hc⟩ := I.ok.has x (.inl hk)
    obtain ⟨w', z⟩ := I.cell x c hc
    refine wpAny_storeName_cell I.ok.kind hk hc z (fun h' hc' hs => ?_)
    obtain ⟨oc, hoc, hocd⟩ := id z
    refine h { s with heap := h' } ⟨I.ok, I.os, I.bare, ⟨fun b o e n hb hx => ?_, fun b o e n hb hx => ?_, I.base.free, fun b o e hx => ?_, I.base.tups, I.base.frzs, I.base.tbls⟩, ⟨m, hn.sameBut hs (Ne.symm (cne x c hc)), fun j y v' e1 e2 e3 => ?_⟩, fun y c' e => ?_, I.free, I.freeC, fun p hp => ?_, tracked ⟨oc, hoc, I.freeC x c hc⟩ hs, by simpa using I.len⟩ ⟨c, hs, .inr hc⟩
    · exact (hs.2 b (Nat.ne_of_lt (Nat.lt_of_lt_of_le (Heap.lt_size e) (I.ok.cab x c hfn hc)))).trans (I.base.keep b o e n hb hx)
    · obtain ⟨sl, e1⟩ := I.base.slot b o e n hb hx
      exact ⟨sl, (hs.2 b (Nat.ne_of_lt (Nat.lt_of_lt_of_le (Heap.lt_size e) (I.ok.cab x c hfn hc)))).trans e1⟩
    · obtain ⟨o', e1⟩ := I.base.there b o e hx
      exact ⟨o', (hs.2 b (Nat.ne_of_lt (Nat.lt_of_lt_of_le (Heap.lt_size e) (I.ok.cab x c hfn hc)))).trans e1⟩
    · by_cases hj : j = i
      · subst hj
        rw [hi] at e1; cases e1
        rw [List.getElem?_set_self hiσ] at e2
        cases e2
        exact ⟨u, r, .inr ⟨.inl hk, c, hc, hc'⟩⟩
      · rw [List.getElem?_set_ne (Ne.symm hj)] at e2
        obtain ⟨u', r', q⟩ := hl j y v' e1 e2 e3
        refine ⟨u', r', ?_⟩
        rcases q with q | ⟨k, c', e, z'⟩
        · exact .inl q
        · refine .inr ⟨k, c', e, z'.sameBut hs ?_⟩
          rintro rfl
          exact hj (nodup_ix hN e1 (I.ok.inj _ _ _ e hc ▸ hi))
    · by_cases hcc : c' = c
      · subst hcc; exact ⟨_, hc'⟩
      · obtain ⟨w2, z2⟩ := I.cell y c' e
        exact ⟨w2, z2.sameBut hs hcc⟩
    · obtain ⟨e, n, ne, nf, d⟩ := I.pin p hp
      refine ⟨(hs.2 p.1 ?_).trans e, n, ne, nf, d⟩
      intro q
      rw [q, hoc] at e
      have q' : oc = p.2 := Option.some.inj e
      exact d w' (by rw [← q']; exact hocd)
theorem store_ok {M : Model} {A : Around} {E : Value → Shared → Prop} {i : Nat} {x : Str} {v : V} {u : Value} {Q : Unit → Shared → Prop} (I : Inv X pins σ H s) (hN : X.N.Nodup) (hi : X.N[i]? = some x) (hx : Loc X.env.scope x) (r : RelV v u)
    (h : ∀ s', Inv X pins (σ.set i (some v)) H s' → Q () s') (hf : X.fn x = true ∨ X.env.scope.names.lookup x = some .local := by first | exact .inl rfl | exact .inr rfl | assumption) : wpAny M A (storeName X.env x u) Q E s :=
  store_ok2 I hN hi hx r (fun s' I' _ => h s' I') hf
theorem Inv.call' {s' : Shared} {ch : List Addr} (I : Inv X pins σ H s) (ho : s'.os = s.os) (u : Un (frs X.stack) ch H H' s.heap s'.heap) (hok : HOk X.prog X.w H' s'.heap) (hg : AllBare s'.gens)
    (hch : ∀ b ∈ ch, (b ∈ X.ex ∨ X.s₀.heap.objs.size ≤ b) ∧ b ≠ X.env.locals ∧ (∀ x c, X.env.cells.lookup x = some c → c ≠ b) ∧ ∀ p ∈ X.pn ++ pins, p.1 ≠ b) : Inv X pins σ H' s' := by
  obtain ⟨h', g', d', t', o'⟩ := s'
  have e : o' = s.os := ho
  subst e
  exact I.call (g' := g') (t' := t') (d' := d') u hok hg hch
end
abbrev XK := Value → Option Addr → Hp → Prop
abbrev St := List (Option V)
abbrev VK := V → Hp → Prop
abbrev TE := St → Hp → VK → Prop
abbrev TT := St → Hp → (Bool → Hp → Prop) → Prop
abbrev TA := St → Hp → (List V → Hp → Prop) → Prop
structure Ends where
  nx : St → Hp → Prop
  rt : VK
  bk : St → Hp → Prop := fun _ _ => False
  ct : St → Hp → Prop := fun _ _ => False
abbrev TS := Ends → St → Hp → Prop
def EP (X : Cx) (pins : List (Addr × Obj)) (σ : St) (Q : VK) (u : Value) (s' : Shared) : Prop := ∃ v H', Inv X pins σ H' s' ∧ RelV v u ∧ Q v H'
def TP (X : Cx) (pins : List (Addr × Obj)) (σ : St) (Q : Bool → Hp → Prop) (b : Bool) (s' : Shared) : Prop := ∃ H', Inv X pins σ H' s' ∧ Q b H'
def AP (X : Cx) (pins : List (Addr × Obj)) (σ : St) (Q : List V → Hp → Prop) (us : List Value) (s' : Shared) : Prop := ∃ vs H', Inv X pins σ H' s' ∧ Vals vs us ∧ Q vs H'
def SP (X : Cx) (pins : List (Addr × Obj)) (D : Ends) (f : Flow) (s' : Shared) : Prop :=
  match f with
  | .next => ∃ σ' H', Inv X pins σ' H' s' ∧ D.nx σ' H'
  | .brk => ∃ σ' H', Inv X pins σ' H' s' ∧ D.bk σ' H'
  | .cont => ∃ σ' H', Inv X pins σ' H' s' ∧ D.ct σ' H'
  | .ret u => ∃ v σ' H', Inv X pins σ' H' s' ∧ RelV v u ∧ D.rt v H'
def PE (X : Cx) (e : Expr) (t : TE) : Prop :=
  ∀ (pins : List (Addr × Obj)) (s : Shared) (σ : St) (H : Hp) (Q : VK), Inv X pins σ H s → t σ H Q → wpAny (model X.prog X.w) X.A (eval e X.env) (EP X pins σ Q) X.xe s
def PT (X : Cx) (e : Expr) (t : TT) : Prop :=
  ∀ (pins : List (Addr × Obj)) (s : Shared) (σ : St) (H : Hp) (Q : Bool → Hp → Prop), Inv X pins σ H s → t σ H Q → wpAny (model X.prog X.w) X.A (isTrue e X.env (eval e X.env)) (TP X pins σ Q) X.xe s
def PW (X : Cx) (e : Expr) (t : TT) : Prop :=
  ∀ (whole : Sem Value) (pins : List (Addr × Obj)) (s : Shared) (σ : St) (H : Hp) (Q : Bool → Hp → Prop), Inv X pins σ H s → t σ H Q → wpAny (model X.prog X.w) X.A (isTrue e X.env whole) (TP X pins σ Q) X.xe s
theorem PW.pt {X : Cx} {e : Expr} {t : TT} (h : PW X e t) : PT X e t := h _
def PA (X : Cx) (es : List Expr) (t : TA) : Prop :=
  ∀ (pos : Pos) (pins : List (Addr × Obj)) (s : Shared) (σ : St) (H : Hp) (Q : List V → Hp → Prop), Inv X pins σ H s → t σ H Q → wpAny (model X.prog X.w) X.A (spliced (backTo pos (starEach es X.env))) (AP X pins σ Q) X.xe s
def PS (X : Cx) (st : Stmt) (t : TS) : Prop :=
  ∀ (pins : List (Addr × Obj)) (s : Shared) (σ : St) (H : Hp) (D : Ends), Inv X pins σ H s → t D σ H → wpAny (model X.prog X.w) X.A (exec st X.env) (SP X pins D) X.xe s
def PSs (X : Cx) (st : List Stmt) (t : TS) : Prop :=
  ∀ (pins : List (Addr × Obj)) (s : Shared) (σ : St) (H : Hp) (D : Ends), Inv X pins σ H s → t D σ H → wpAny (model X.prog X.w) X.A (execs st X.env) (SP X pins D) X.xe s
theorem thn {α : Type} {t : Sem α} {Q Q' : α → Shared → Prop} {M : Model} {A : Around} {E : Value → Shared → Prop} {s : Shared} (h : wpAny M A t Q E s) (hQ : ∀ a s, Q a s → Q' a s) : wpAny M A t Q' E s := wpAny_mono h hQ fun _ _ x => x
end L2
namespace L2
open PySem PySem.Spec PyProof.Rows
section
variable {X : Cx}
def tVar (i : Nat) : TE := fun σ H Q => ∃ v, σ[i]? = some (some v) ∧ Q v H
def tC (v : V) : TE := fun _ H Q => Q v H
theorem pe_var {i : Nat} {x : Str} {pos : Pos} (hN : X.N[i]? = some x) (hv : Vis X.env.scope x) (hd : (x == ("__debug__" : Str)) = false := by decide) (hcd : (x == ("__classdict__" : Str)) = false := by decide) : PE X (.Name x pos) (tVar i) := by
  intro pins s σ H Q I h
  obtain ⟨v, e, h⟩ := h
  obtain ⟨m, hn, hl⟩ := I.loc
  obtain ⟨u, r, l⟩ := hl i x v hN e hv
  have fin : EP X pins σ Q u s := ⟨v, H, I, r, h⟩
  rcases l with ⟨hk, hm⟩ | ⟨hk, c, hc, hcell⟩
  · exact wpAny_Name (wpAny_loadName_local I.ok.kind hk hn hm fin) hd
  · rcases hk with hk | hk
    · exact wpAny_Name (wpAny_loadName_cell I.ok.kind hk hc hcell fin) hd
    · exact wpAny_Name (wpAny_loadName_free I.ok.kind hk hc hcell fin hcd) hd
theorem pe_int {i j pos} : PE X (.Constant (.int i) j pos) (tC (.int i)) := fun _ _ _ H _ I h => wpAny_Constant_int ⟨.int i, H, I.tok _, ⟨_, rfl⟩, h⟩
theorem pe_bl {b j pos} : PE X (.Constant (.bool b) j pos) (tC (.bl b)) := fun _ _ _ H _ I h => Constant_bool ⟨.bl b, H, I, rfl, h⟩
theorem pe_non {j pos} : PE X (.Constant .none j pos) (tC .non) := fun _ _ _ H _ I h => Constant_none ⟨.non, H, I, rfl, h⟩
theorem pe_str {x j pos} : PE X (.Constant (.str x) j pos) (tC (.str x)) := fun _ _ _ H _ I h => Calls.Constant_str ⟨.str x, H, I.tok _, ⟨_, rfl⟩, h⟩
def Gl (X : Cx) (x : Str) : Prop := X.env.kindOf x = some .globalImplicit
theorem ld_glob {E : Value → Shared → Prop} {pins : List (Addr × Obj)} {s : Shared} {σ : St} {H : Hp} {x : Str} {u : Value} {pos : Pos} {Q : Value → Shared → Prop} (I : Inv X pins σ H s) (hg : Gl X x) (hm : X.mg x = some u) (h : Q u s)
    (hd : (x == ("__debug__" : Str)) = false := by decide) : wpAny (model X.prog X.w) X.A (eval (.Name x pos) X.env) Q E s :=
  Calls.Name_function_global I.ok.kind hg (Calls.loadGlobal_global (by rw [I.ok.glob]; exact I.mod.glob.keeps I.bk) hm h) hd
theorem ld_blt {E : Value → Shared → Prop} {pins : List (Addr × Obj)} {s : Shared} {σ : St} {H : Hp} {x : Str} {u : Value} {pos : Pos} {Q : Value → Shared → Prop} (I : Inv X pins σ H s) (hg : Gl X x) (hm : X.mg x = none) (hv : bootBuiltins x = some u) (h : Q u s)
    (hn : x ≠ "__name__" := by decide) (hd : (x == ("__debug__" : Str)) = false := by decide) : wpAny (model X.prog X.w) X.A (eval (.Name x pos) X.env) Q E s := by
  obtain ⟨mb, h1, h2⟩ := I.mod.blt
  exact Calls.Name_function_global I.ok.kind hg (Calls.loadGlobal_builtin (by rw [I.ok.glob]; exact I.mod.glob.keeps I.bk) hm (by rw [I.ok.blt]; exact h1.keeps I.bk) ((h2 x hn).trans hv) h) hd
theorem pe_glob {x : Str} {v : V} {u : Value} {pos : Pos} (hg : Gl X x) (hm : X.mg x = some u) (r : RelV v u) (hd : (x == ("__debug__" : Str)) = false := by decide) : PE X (.Name x pos) (tC v) :=
  fun _ _ _ H _ I h => ld_glob I hg hm ⟨v, H, I, r, h⟩ hd
theorem pe_bltn {x : Str} {v : V} {u : Value} {pos : Pos} (hg : Gl X x) (hm : X.mg x = none) (hv : bootBuiltins x = some u) (r : RelV v u) (hn : x ≠ "__name__" := by decide) (hd : (x == ("__debug__" : Str)) = false := by decide) : PE X (.Name x pos) (tC v) :=
  fun _ _ _ H _ I h => ld_blt I hg hm hv ⟨v, H, I, r, h⟩ hn hd
def t2I (ta tb : TE) (k : Int → Int → Hp → Prop) : St → Hp → Prop := fun σ H => ta σ H fun x H1 => tb σ H1 fun y H2 => ∃ i j, x = .int i ∧ y = .int j ∧ k i j H2
def tAdd (ta tb : TE) : TE := fun σ H Q => t2I ta tb (fun i j H2 => Q (.int (i + j)) H2) σ H
def tSub (ta tb : TE) : TE := fun σ H Q => t2I ta tb (fun i j H2 => Q (.int (i - j)) H2) σ H
def tMul (ta tb : TE) : TE := fun σ H Q => t2I ta tb (fun i j H2 => (-(2 ^ 64) < i ∧ i < 2 ^ 64) ∧ Q (.int (i * j)) H2) σ H
variable {a b : Expr} {ta tb : TE} {pos : Pos}
def PC (X : Cx) (op : CmpOp) (a b : Expr) (t : TE) : Prop :=
  ∀ (pins : List (Addr × Obj)) (s : Shared) (σ : St) (H : Hp) (Q : VK), Inv X pins σ H s → t σ H Q →
    wpAny (model X.prog X.w) X.A (eval a X.env) (fun v s₁ => wpAny (model X.prog X.w) X.A (eval b X.env) (fun u s₂ => wpAny (model X.prog X.w) X.A (compareOp op v u) (EP X pins σ Q) X.xe s₂) X.xe s₁) X.xe s
def tCmp (p : Int → Int → Bool) (ta tb : TE) : TE := fun σ H Q => t2I ta tb (fun i j H2 => Q (.bl (p i j)) H2) σ H
abbrev tLt : TE → TE → TE := tCmp fun i j => decide (i < j)
abbrev tLe : TE → TE → TE := tCmp fun i j => decide (i ≤ j)
abbrev tGt : TE → TE → TE := tCmp fun i j => decide (j < i)
abbrev tGe : TE → TE → TE := tCmp fun i j => decide (j ≤ i)
abbrev tEqI : TE → TE → TE := tCmp fun i j => decide (i = j)
abbrev tNeI : TE → TE → TE := tCmp fun i j => !decide (i = j)
def tIsN (ta : TE) : TE := fun σ H Q => ta σ H fun x H1 => Q (.bl (decide (x = .non))) H1
def tNotN (ta : TE) : TE := fun σ H Q => ta σ H fun x H1 => Q (.bl (!decide (x = .non))) H1
def tB (t : TE) : TT := fun σ H Q => t σ H fun x H1 => ∃ c, x = .bl c ∧ Q c H1
theorem pt_cmp {op : CmpOp} {t : TE} (h : PC X op a b t) (h1 : behindInMarks op b = false := by first | exact nobehind _ (by decide) (by decide) | rfl) : PT X (.Compare a [op] [b] pos) (tB t) := by
  intro pins s σ H Q I hw
  refine wpAny_isTrue_Compare1 (thn (h pins s σ H _ I hw) fun v s1 h1 => thn h1 fun u s2 h2 => thn h2 fun c s3 ⟨x, H1, I1, r1, q1⟩ => ?_) h1
  obtain ⟨d, rfl, q⟩ := q1
  cases r1
  exact wpAny_truthy_bool ⟨H1, I1, q⟩
theorem pt_val {e : Expr} {t : TE} (h : PE X e t) (he : ∀ whole, isTrue e X.env whole = (do let v ← whole; standAt e.pos; holding [v] (truthy v)) := by intro _; rfl) : PT X e (tB t) := by
  intro pins s σ H Q I hw
  refine isTrue_plain (thn (h pins s σ H _ I hw) fun v s1 ⟨x, H1, I1, r1, q1⟩ => ?_) (he _)
  obtain ⟨d, rfl, q⟩ := q1
  cases r1
  exact wpAny_truthy_bool ⟨H1, I1, q⟩
variable {tA tB' : TT} {rest : List Expr}
def tAnd (t u : TT) : TT := fun σ H Q => t σ H fun c H1 => if c = true then u σ H1 Q else Q false H1
def tOr (t u : TT) : TT := fun σ H Q => t σ H fun c H1 => if c = true then Q true H1 else u σ H1 Q
def tNot (t : TT) : TT := fun σ H Q => t σ H fun c H1 => Q (!c) H1
theorem pw_and1 (ha : PT X a tA) : PW X (.BoolOp .And [a] pos) tA := by
  intro wh pins s σ H Q I h
  refine isTrue_and (thn (ha pins s σ H Q I h) fun c s1 e => ?_)
  cases c with
  | true => exact isTrue_and_nil e
  | false => exact e
theorem pw_or1 (ha : PT X a tA) : PW X (.BoolOp .Or [a] pos) tA := by
  intro wh pins s σ H Q I h
  refine isTrue_or (thn (ha pins s σ H Q I h) fun c s1 e => ?_)
  cases c with
  | false => exact isTrue_or_nil e
  | true => exact e
theorem pw_and (ha : PT X a tA) (hb : PW X (.BoolOp .And (b :: rest) pos) tB') : PW X (.BoolOp .And (a :: b :: rest) pos) (tAnd tA tB') := by
  intro wh pins s σ H Q I h
  refine isTrue_and (thn (ha pins s σ H _ I h) fun c s1 ⟨H1, I1, q1⟩ => ?_)
  cases c with
  | true => exact hb wh pins s1 σ H1 Q I1 q1
  | false => exact ⟨H1, I1, q1⟩
theorem pw_or (ha : PT X a tA) (hb : PW X (.BoolOp .Or (b :: rest) pos) tB') : PW X (.BoolOp .Or (a :: b :: rest) pos) (tOr tA tB') := by
  intro wh pins s σ H Q I h
  refine isTrue_or (thn (ha pins s σ H _ I h) fun c s1 ⟨H1, I1, q1⟩ => ?_)
  cases c with
  | true => exact ⟨H1, I1, q1⟩
  | false => exact hb wh pins s1 σ H1 Q I1 q1
theorem pt_not (ha : PT X a tA) : PT X (.UnaryOp .Not a pos) (tNot tA) := by
  intro pins s σ H Q I h
  exact isTrue_not (ha pins s σ H (fun c H1 => Q (!c) H1) I h)
def tAndV (ta tb : TE) : TE := fun σ H Q => ta σ H fun x H1 => ∃ c, x = .bl c ∧ if c = true then tb σ H1 Q else Q (.bl false) H1
def tOrV (ta tb : TE) : TE := fun σ H Q => ta σ H fun x H1 => ∃ c, x = .bl c ∧ if c = true then Q (.bl true) H1 else tb σ H1 Q
def tNotV (ta : TE) : TE := fun σ H Q => ta σ H fun x H1 => ∃ c, x = .bl c ∧ Q (.bl (!c)) H1
theorem pe_one {op} {t : TE} (h : PE X a t) : PE X (.BoolOp op [a] pos) t := fun pins s σ H Q I hw => BoolOp_one (h pins s σ H Q I hw)
theorem pe_and (ha : PE X a ta) (hb : PE X (.BoolOp .And (b :: rest) pos) tb) : PE X (.BoolOp .And (a :: b :: rest) pos) (tAndV ta tb) := by
  intro pins s σ H Q I h
  refine BoolOp_and (thn (ha pins s σ H _ I h) fun v s1 ⟨x, H1, I1, r1, q1⟩ => ?_)
  obtain ⟨c, rfl, q1⟩ := q1
  cases r1
  refine wpAny_truthy_bool ?_
  cases c with
  | true => exact hb pins s1 σ H1 Q I1 q1
  | false => exact ⟨.bl false, H1, I1, rfl, q1⟩
theorem pe_not (ha : PE X a ta) : PE X (.UnaryOp .Not a pos) (tNotV ta) := by
  intro pins s σ H Q I h
  refine UnaryOp_ (thn (ha pins s σ H _ I h) fun v s1 ⟨x, H1, I1, r1, q1⟩ => ?_)
  obtain ⟨c, rfl, q1⟩ := q1
  cases r1
  exact not_of (wpAny_truthy_bool ⟨.bl (!c), H1, I1, rfl, q1⟩)
def tIf (t : TT) (ta tb : TE) : TE := fun σ H Q => t σ H fun c H1 => if c = true then ta σ H1 Q else tb σ H1 Q
theorem pe_ifExp {c : Expr} (hc : PT X c tA) (ha : PE X a ta) (hb : PE X b tb) : PE X (.IfExp c a b pos) (tIf tA ta tb) := by
  intro pins s σ H Q I h
  refine wpAny_IfExp (thn (hc pins s σ H _ I h) fun d s1 ⟨H1, I1, q1⟩ => ?_)
  cases d with
  | true => exact ha pins s1 σ H1 Q I1 q1
  | false => exact hb pins s1 σ H1 Q I1 q1
end
end L2
namespace L2
open PySem PySem.Spec PyProof.Rows
def SqL (K : PySem.W.Frag) (H : Hp) (a : Addr) (xs : List V) : Prop :=
  Rd H a (.lst xs) ∨
    ∃ (o : Obj) (its : Array Value) (n : Nat), K.lookup a = some o ∧ o.cls = .type "list" ∧ o.dict = none ∧ o.data = .seq its n ∧ its.size ≤ sizeLine ∧ Vals xs its.toList
def SqT (K : PySem.W.Frag) (H : Hp) (a : Addr) (xs : List V) : Prop :=
  Rd H a (.tup xs) ∨
    ∃ (o : Obj) (its : Array Value) (n : Nat), K.lookup a = some o ∧ o.cls = .type "tuple" ∧ o.data = .seq its n ∧ its.size ≤ sizeLine ∧ Vals xs its.toList
def absV : Value → Option V
  | .none => some .non
  | .bool b => some (.bl b)
  | .int i _ => some (.int i)
  | .str x _ => some (.str x)
  | .bytes b _ => some (.byt b)
  | .float b _ => some (.flt b)
  | .ref a => some (.ref a)
  | .type n => some (.ty n)
  | _ => none
theorem RelV.abs {x : V} {u : Value} (r : RelV x u) : absV u = some x := by
  cases x with
  | non => cases r; rfl
  | bl _ => cases r; rfl
  | int _ => obtain ⟨t, rfl⟩ := r; rfl
  | str _ => obtain ⟨t, rfl⟩ := r; rfl
  | byt _ => obtain ⟨t, rfl⟩ := r; rfl
  | flt _ => obtain ⟨t, rfl⟩ := r; rfl
  | ref _ => cases r; rfl
  | ty _ => cases r; rfl
theorem RelV.inj {x y : V} {u : Value} (r : RelV x u) (q : RelV y u) : x = y := Option.some.inj (r.abs.symm.trans q.abs)
theorem Vals.inj : ∀ {xs ys : List V} {us : List Value}, Vals xs us → Vals ys us → xs = ys
  | _, _, _, .nil, .nil => rfl
  | _, _, _, .cons r t, .cons r' t' => by rw [r.inj r', Vals.inj t t']
section
variable {X : Cx} {pins : List (Addr × Obj)} {σ : St} {H : Hp} {s : Shared} {a : Addr} {xs ys : List V}
theorem SqL.of {K : PySem.W.Frag} (h : H a = some (.lst xs)) : SqL K H a xs := .inl (.inl h)
theorem SqT.of {K : PySem.W.Frag} (h : H a = some (.tup xs)) : SqT K H a xs := .inl (.inl h)
theorem Inv.list (I : Inv X pins σ H s) (h : SqL X.K H a xs) : ∃ its : List Value, Vals xs its ∧ PlainL s.heap a its.toArray ∧ xs.length ≤ sizeLine := by
  rcases h with h | ⟨o, its, n, hk, hc, hd, hs, hz, r⟩
  · obtain ⟨z, its, n, r, e⟩ := h.ok I.hok
    exact ⟨its, r, ⟨_, n, e, rfl, rfl, rfl⟩, z⟩
  · refine ⟨its.toList, r, ⟨o, n, I.kIn a o hk, hc, hd, by simpa using hs⟩, ?_⟩
    have e := r.length
    simp only [Array.length_toList] at e
    omega
theorem Inv.tuple (I : Inv X pins σ H s) (h : SqT X.K H a xs) : ∃ its : List Value, Vals xs its ∧ IsTup s.heap a its.toArray ∧ xs.length ≤ sizeLine := by
  rcases h with h | ⟨o, its, n, hk, hc, hs, hz, r⟩
  · obtain ⟨z, its, r, p⟩ := h.ok I.hok
    exact ⟨its, r, p, z⟩
  · refine ⟨its.toList, r, ⟨o, I.kIn a o hk, hc, n, by simpa using hs⟩, ?_⟩
    have e := r.length
    simp only [Array.length_toList] at e
    omega
theorem Inv.list_inj (I : Inv X pins σ H s) (h : SqL X.K H a xs) (h' : SqL X.K H a ys) : xs = ys := by
  obtain ⟨its, r, ⟨o, n, e, _, _, d⟩, _⟩ := I.list h
  obtain ⟨its', r', ⟨o', n', e', _, _, d'⟩, _⟩ := I.list h'
  rw [e] at e'; cases e'
  rw [d] at d'
  injection d' with d1 _
  have : its = its' := by simpa using congrArg Array.toList d1
  subst this
  exact r.inj r'
theorem Inv.tuple_inj (I : Inv X pins σ H s) (h : SqT X.K H a xs) (h' : SqT X.K H a ys) : xs = ys := by
  obtain ⟨its, r, ⟨o, e, _, n, d⟩, _⟩ := I.tuple h
  obtain ⟨its', r', ⟨o', e', _, n', d'⟩, _⟩ := I.tuple h'
  rw [e] at e'; cases e'
  rw [d] at d'
  injection d' with d1 _
  have : its = its' := by simpa using congrArg Array.toList d1
  subst this
  exact r.inj r'
end
abbrev Cx.wish (X : Cx) (E : Value → Shared → Prop) : Cx := { X with xe := E }
abbrev Cx.nox (X : Cx) : Cx := X.wish fun _ _ => False
theorem Cx.Ok.wish {X : Cx} (ok : X.Ok) (E : Value → Shared → Prop) : (X.wish E).Ok :=
  ⟨ok.mod, ok.kind, ok.glob, ok.blt, ok.above, ok.inj, ok.has, ok.cab, ok.hd, ok.frames, ok.stk, ok.exf, ok.bs, ok.bsz, ok.noex, ok.exfs, ok.funs, ok.frf⟩
theorem Cx.Ok.unwish {X : Cx} {E : Value → Shared → Prop} (ok : (X.wish E).Ok) : X.Ok :=
  ⟨ok.mod, ok.kind, ok.glob, ok.blt, ok.above, ok.inj, ok.has, ok.cab, ok.hd, ok.frames, ok.stk, ok.exf, ok.bs, ok.bsz, ok.noex, ok.exfs, ok.funs, ok.frf⟩
section
variable {X : Cx} {pins : List (Addr × Obj)} {σ : St} {H : Hp} {s : Shared} {E : Value → Shared → Prop}
theorem Inv.wish (I : Inv X pins σ H s) (E : Value → Shared → Prop) : Inv (X.wish E) pins σ H s := ⟨I.ok.wish E, I.os, I.bare, I.base, I.loc, I.cell, I.free, I.freeC, I.pin, I.hok, I.len⟩
theorem Inv.unwish (I : Inv (X.wish E) pins σ H s) : Inv X pins σ H s := ⟨I.ok.unwish, I.os, I.bare, I.base, I.loc, I.cell, I.free, I.freeC, I.pin, I.hok, I.len⟩
theorem SP.unwish {D : Ends} {f : Flow} {s' : Shared} (h : SP (X.wish E) pins D f s') : SP X pins D f s' := by
  cases f with
  | next => obtain ⟨σ', H', I, q⟩ := h; exact ⟨σ', H', I.unwish, q⟩
  | brk => obtain ⟨σ', H', I, q⟩ := h; exact ⟨σ', H', I.unwish, q⟩
  | cont => obtain ⟨σ', H', I, q⟩ := h; exact ⟨σ', H', I.unwish, q⟩
  | ret u => obtain ⟨v, σ', H', I, r, q⟩ := h; exact ⟨v, σ', H', I.unwish, r, q⟩
theorem PSs.nox {st : List Stmt} {t : TS} (h : PSs X.nox st t) : PSs X st t := fun pins s σ H D I hw =>
  wpAny_mono (h pins s σ H D (I.wish _) hw) (fun _ _ q => q.unwish) fun _ _ z => False.elim z
end
section
variable {X : Cx} {st : Stmt} {rest : List Stmt} {t u : TS} {e : Expr} {te : TE} {pos : Pos}
def tNext : TS := fun D σ H => D.nx σ H
def tSeq (t u : TS) : TS := fun D σ H => t { D with nx := u D } σ H
theorem pss_nil : PSs X [] tNext := fun _ _ σ H _ I h => wpAny_execs_nil ⟨σ, H, I, h⟩
theorem pss_cons (h1 : PS X st t) (h2 : PSs X rest u) : PSs X (st :: rest) (tSeq t u) := by
  intro pins s σ H D I h
  refine wpAny_execs_cons (thn (h1 pins s σ H { D with nx := u D } I h) fun f s1 q => ?_)
  cases f with
  | next =>
    obtain ⟨σ', H', I', q⟩ := q
    exact h2 pins s1 σ' H' D I' q
  | ret v => exact q
  | brk => exact q
  | cont => exact q
theorem pss_one (h1 : PS X st t) : PSs X [st] t := by
  intro pins s σ H D I h
  refine wpAny_execs_cons (thn (h1 pins s σ H D I h) fun f s1 q => ?_)
  cases f with
  | next => exact wpAny_execs_nil q
  | ret v => exact q
  | brk => exact q
  | cont => exact q
def tBreak : TS := fun D σ H => D.bk σ H
def tCont : TS := fun D σ H => D.ct σ H
theorem Inv.quiet {pins : List (Addr × Obj)} {σ : St} {H : Hp} {s : Shared} (I : Inv X pins σ H s) : interactive X.env = false := by simp [interactive, I.ok.kind]
def tDrop (te : TE) : TS := fun D σ H => te σ H fun _ H1 => D.nx σ H1
theorem ps_expr (he : PE X e te) (hs : swapsWith e none pos.line X.env = pure false := by rfl) : PS X (.Expr e pos) (tDrop te) := by
  intro pins s σ H D I h
  exact wpAny_Expr_any (thn (he pins s σ H _ I h) fun v s1 ⟨x, H1, I1, r1, q1⟩ => ⟨σ, H1, I1, q1⟩) I.quiet hs
def tRet (te : TE) : TS := fun D σ H => te σ H D.rt
theorem ps_ret (he : PE X e te) : PS X (.Return (some e) pos) (tRet te) := by
  intro pins s σ H D I h
  exact wpAny_Return_some (thn (he pins s σ H _ I h) fun v s1 ⟨x, H1, I1, r1, q1⟩ => ⟨x, σ, H1, I1, r1, q1⟩)
def tRetN : TS := fun D _ H => D.rt .non H
def tIfS (c : TT) (t u : TS) : TS := fun D σ H => c σ H fun b H1 => if b = true then t D σ H1 else u D σ H1
theorem ps_if {c : Expr} {a b : List Stmt} {tc : TT} (hc : PT X c tc) (ha : PSs X a t) (hb : PSs X b u) : PS X (.If c a b pos) (tIfS tc t u) := by
  intro pins s σ H D I h
  refine wpAny_If (thn (hc pins s σ H _ I h) fun d s1 ⟨H1, I1, q1⟩ => ?_)
  cases d with
  | true => exact ha pins s1 σ H1 D I1 q1
  | false => exact hb pins s1 σ H1 D I1 q1
def tNever : TS := fun _ _ _ => False
theorem ps_never : PS X st tNever := fun _ _ _ _ _ _ h => h.elim
end
abbrev TG := V → St → Hp → (St → Hp → Prop) → Prop
abbrev TGs := List V → St → Hp → (St → Hp → Prop) → Prop
def PG (X : Cx) (target : Expr) (t : TG) : Prop :=
  ∀ (pins : List (Addr × Obj)) (s : Shared) (σ : St) (H : Hp) (v : V) (u : Value) (Q : St → Hp → Prop), Inv X pins σ H s → RelV v u → t v σ H Q →
    wpAny (model X.prog X.w) X.A (assign target X.env u) (fun _ s' => ∃ σ' H', Inv X pins σ' H' s' ∧ Q σ' H') X.xe s
def PGs (X : Cx) (ts : List Expr) (t : TGs) : Prop :=
  ∀ (pins : List (Addr × Obj)) (s : Shared) (σ : St) (H : Hp) (vs : List V) (us : List Value) (Q : St → Hp → Prop), Inv X pins σ H s → Vals vs us → t vs σ H Q →
    wpAny (model X.prog X.w) X.A (assignInOrder ((assignEach ts X.env).map (·.2)) us) (fun _ s' => ∃ σ' H', Inv X pins σ' H' s' ∧ Q σ' H') X.xe s
abbrev TSet := V → V → V → Hp → (Hp → Prop) → Prop
def PSet (X : Cx) (t : TSet) : Prop :=
  ∀ (pins : List (Addr × Obj)) (s : Shared) (σ : St) (H : Hp) (o i v : V) (ov iv u : Value) (Q : Hp → Prop), Inv X pins σ H s → RelV o ov → RelV i iv → RelV v u → t o i v H Q →
    wpAny (model X.prog X.w) X.A (setItem ov iv u) (fun _ s' => ∃ H', Inv X pins σ H' s' ∧ Q H') X.xe s
abbrev TIp := V → V → Hp → VK → Prop
def PIp (X : Cx) (op : Operator) (t : TIp) : Prop :=
  ∀ (pins : List (Addr × Obj)) (s : Shared) (σ : St) (H : Hp) (x y : V) (v u : Value) (Q : VK), Inv X pins σ H s → RelV x v → RelV y u → t x y H Q →
    wpAny (model X.prog X.w) X.A (inplaceOp op v u) (EP X pins σ Q) X.xe s
section
variable {X : Cx} {pos : Pos}
def gName (i : Nat) : TG := fun v σ H Q => Q (σ.set i (some v)) H
theorem pg_name {i : Nat} {x : Str} (hN : X.N.Nodup) (hi : X.N[i]? = some x) (hx : Loc X.env.scope x) (hf : X.fn x = true ∨ X.env.scope.names.lookup x = some .local := by first | exact .inl rfl | exact .inr rfl | assumption) : PG X (.Name x pos) (gName i) := by
  intro pins s σ H v u Q I r h
  exact wpAny_assign_Name (store_ok I hN hi hx r (fun s' I' => ⟨_, H, I', h⟩) hf)
def gNil : TGs := fun vs σ H Q => vs = [] ∧ Q σ H
def gCons (t : TG) (u : TGs) : TGs := fun vs σ H Q => ∃ v r, vs = v :: r ∧ t v σ H fun σ' H' => u r σ' H' Q
theorem pgs_nil : PGs X [] gNil := by
  intro pins s σ H vs us Q I r h
  obtain ⟨e, h⟩ := h
  subst e
  cases r
  exact assignInOrder_nil ⟨σ, H, I, h⟩
theorem pgs_cons {e : Expr} {es : List Expr} {t : TG} {u : TGs} (h1 : PG X e t) (h2 : PGs X es u)
    (hs : (assignEach (e :: es) X.env).map (·.2) = assign e X.env :: (assignEach es X.env).map (·.2) := by rfl) : PGs X (e :: es) (gCons t u) := by
  intro pins s σ H vs us Q I r h
  obtain ⟨v, vr, e1, h⟩ := h
  subst e1
  cases r with
  | cons r rr =>
    rw [hs]
    refine assignInOrder_cons (thn (h1 pins s σ H _ _ _ I r h) fun _ s1 ⟨σ1, H1, I1, q1⟩ => ?_)
    exact h2 pins s1 σ1 H1 _ _ Q I1 rr q1
def gTup (K : PySem.W.Frag) (n : Nat) (t : TGs) : TG := fun v σ H Q => ∃ a xs, v = .ref a ∧ SqT K H a xs ∧ xs.length = n ∧ t xs σ H Q
theorem pg_tup {es : List Expr} {k : Nat} {t : TGs} {n : Nat} (hc : X.calm = true) (h : PGs X es t)
    (hn : (assignEach es X.env).length = n := by rfl) (hst : (assignEach es X.env).findIdx? (·.1) = none := by rfl) : PG X (.Tuple es k pos) (gTup X.K n t) := by
  intro pins s σ H v u Q I r hw
  obtain ⟨a, xs, e1, hq, hl, hw⟩ := hw
  subst e1
  cases r
  obtain ⟨its, rv, ht, hz⟩ := I.tuple hq
  refine assign_Tuple_tuple (I.ok.hd hc) ht (by simp [hn, ← hl, rv.length]) hst fun h' hx => ?_
  have I1 : Inv X pins σ H { s with heap := h' } := I.kept (t' := s.toks) fun b o e => hx b o (Nat.ne_of_lt (Heap.lt_size e)) e
  exact h pins _ σ H xs _ Q I1 (by simpa using rv) hw
def gSub (to ti : TE) (t : TSet) : TG := fun v σ H Q => to σ H fun o H1 => ti σ H1 fun i H2 => t o i v H2 fun H3 => Q σ H3
def tAsg (te : TE) (g : TG) : TS := fun D σ H => te σ H fun x H1 => g x σ H1 D.nx
theorem ps_asg {tg e : Expr} {te : TE} {g : TG} (he : PE X e te) (hg : PG X tg g) (hs : swapsWithSole [tg] e pos.line X.env = pure false := by rfl) (hw : swappedStores [tg] e X.env = pure none := by rfl)
    (h1 : (assignEach [tg] X.env).map (·.2) = [assign tg X.env] := by rfl) : PS X (.Assign [tg] e pos) (tAsg te g) := by
  intro pins s σ H D I h
  refine wpAny_Assign_stores (thn (he pins s σ H _ I h) fun v s1 ⟨x, H1, I1, r1, q1⟩ => ?_) hs hw
  rw [h1]
  exact thn (hg pins s1 σ H1 x v _ I1 r1 q1) fun _ s2 q => q
theorem ps_set {i : Nat} {x : Str} {e : Expr} {te : TE} {pos' : Pos} (hN : X.N.Nodup) (hi : X.N[i]? = some x) (hx : Loc X.env.scope x) (he : PE X e te) (hs : swapsWith e (some (.Name x pos')) pos.line X.env = pure false := by rfl) (hf : X.fn x = true ∨ X.env.scope.names.lookup x = some .local := by first | exact .inl rfl | exact .inr rfl | assumption) :
    PS X (.Assign [.Name x pos'] e pos) (tAsg te (gName i)) := by
  intro pins s σ H D I h
  refine wpAny_Assign_Name (thn (he pins s σ H _ I h) fun v s1 ⟨y, H1, I1, r1, q1⟩ => ?_) hs
  exact store_ok I1 hN hi hx r1 (fun s2 I2 => ⟨_, H1, I2, q1⟩) hf
def tPar (i j : Nat) (ta : TA) : TS := fun D σ H => ta σ H fun vs H1 => ∃ v w, vs = [v, w] ∧ D.nx ((σ.set i (some v)).set j (some w)) H1
def tAug (i : Nat) (te : TE) (ti : TIp) : TS := fun D σ H => ∃ x, σ[i]? = some (some x) ∧ te σ H fun y H1 => ti x y H1 fun z H2 => D.nx (σ.set i (some z)) H2
def tAugS (to ti te : TE) (tget : V → V → Hp → VK → Prop) (tip : TIp) (tset : TSet) : TS := fun D σ H => to σ H fun o H1 => ti σ H1 fun i H2 => tget o i H2 fun x H3 => te σ H3 fun y H4 => tip x y H4 fun z H5 => tset o i z H5 fun H6 => D.nx σ H6
def PGet (X : Cx) (t : V → V → Hp → VK → Prop) : Prop :=
  ∀ (pins : List (Addr × Obj)) (s : Shared) (σ : St) (H : Hp) (o i : V) (ov iv : Value) (Q : VK), Inv X pins σ H s → RelV o ov → RelV i iv → t o i H Q →
    wpAny (model X.prog X.w) X.A (getItem ov iv) (EP X pins σ Q) X.xe s
def ipI (f : Int → Int → Int) : TIp := fun x y H Q => ∃ i j, x = .int i ∧ y = .int j ∧ Q (.int (f i j)) H
end
section
variable {X : Cx} {pos : Pos}
def tWhile (c : TT) (tb : TS) : TS := fun D σ H => ∃ W : Nat → St → Hp → Prop, (∃ m, W m σ H) ∧ ∀ m σ H, W m σ H →
  c σ H fun b H1 => if b = true then ∃ N : St → Hp → Prop, (∀ σ' H', N σ' H' → ∃ m', m' < m ∧ W m' σ' H') ∧ tb { D with nx := N, ct := N, bk := D.nx } σ H1 else D.nx σ H1
theorem ps_while {c : Expr} {body : List Stmt} {tc : TT} {tb : TS} (hp : PassesOwn (model X.prog X.w) X.A X.env X.xe) (hc : PT X c tc) (hb : PSs X body tb) : PS X (.While c body [] pos) (tWhile tc tb) := by
  intro pins s σ H D I h
  obtain ⟨W, ⟨m0, w0⟩, turn⟩ := h
  refine wpAny_While (codeAny_whileLoop (fun n s' => ∃ σ' H', Inv X pins σ' H' s' ∧ W n σ' H') ?_ m0 ⟨σ, H, I, w0⟩)
  rintro n s1 ⟨σ1, H1, I1, w1⟩
  refine wpAny_passesOwn hp (thn (hc pins s1 σ1 H1 _ I1 (turn n σ1 H1 w1)) fun b s2 ⟨H2, I2, q2⟩ => ?_)
  cases b with
  | true =>
    obtain ⟨N, hN, q2⟩ := q2
    rw [if_pos rfl]
    refine wpAny_passesOwn hp (thn (hb pins s2 σ1 H2 _ I2 q2) fun f s3 q3 => ?_)
    cases f with
    | next =>
      obtain ⟨σ3, H3, I3, n3⟩ := q3
      obtain ⟨m', hm, w3⟩ := hN σ3 H3 n3
      exact ⟨m', hm, σ3, H3, I3, w3⟩
    | cont =>
      obtain ⟨σ3, H3, I3, n3⟩ := q3
      obtain ⟨m', hm, w3⟩ := hN σ3 H3 n3
      exact ⟨m', hm, σ3, H3, I3, w3⟩
    | brk => exact q3
    | ret v => exact q3
  | false =>
    rw [if_neg Bool.false_ne_true]
    exact wpAny_execs_nil ⟨σ1, H2, I2, q2⟩
end
structure It where
  go : Nat → Hp → Prop
  yld : Nat → Hp → V → Hp → Prop
  stop : Nat → Hp → Prop
def FpOk (X : Cx) (pins : List (Addr × Obj)) (H : Hp) (b : Addr) : Prop :=
  H b = none ∧ b ≠ X.env.locals ∧ b ∉ X.fs ∧ (b ∈ X.ex ∨ X.s₀.heap.objs.size ≤ b) ∧ (∀ x c, X.env.cells.lookup x = some c → c ≠ b) ∧ ∀ p ∈ X.pn ++ pins, p.1 ≠ b
theorem Inv.fpOk {X : Cx} {pins : List (Addr × Obj)} {σ : St} {H H' : Hp} {s : Shared} {b : Addr} (I : Inv X pins σ H s) (hb : s.heap.objs.size ≤ b) (hn : H' b = none) : FpOk X pins H' b := by
  refine ⟨hn, Nat.ne_of_gt (Nat.lt_of_lt_of_le I.lt hb), I.nofs hb, .inr (Nat.le_trans I.sz hb), fun x c e z => ?_, fun p hp z => ?_⟩
  · obtain ⟨v, q⟩ := I.cell x c e
    exact absurd (Nat.lt_of_lt_of_le q.lt (by rw [z]; exact hb)) (Nat.lt_irrefl _)
  · exact absurd (Nat.lt_of_lt_of_le (Heap.lt_size (I.pin p hp).1) (by rw [z]; exact hb)) (Nat.lt_irrefl _)
structure Turn (P : Program) (w : World) (K : PySem.W.Frag) (tg : Expr) (J : It) (fp : List Addr) (it : Addr) (tn : Nat → Heap → Prop) : Prop where
  mem : it ∈ fp
  obj : ∀ i h, tn i h → ∀ b ∈ fp, ∃ o, h.get? b = some o ∧ ∀ v, o.data ≠ .cell v
  keep : ∀ i h h', tn i h → (∀ b ∈ fp, ∀ o, h.get? b = some o → h'.get? b = some o) → tn i h'
  item : ∀ (X : Cx), X.prog = P → X.w = w → X.K = K → X.calm = true → ∀ (i : Nat) (pins : List (Addr × Obj)) (s : Shared) (σ : St) (H : Hp) (E : Value → Shared → Prop), Inv X pins σ H s → (∀ b ∈ fp, FpOk X pins H b) → tn i s.heap → J.go i H →
    wpAny (model P w) X.A (pyNext (.ref it)) (fun r s1 => ∃ u, r = some u ∧
      wpAny (model P w) X.A (letOwnedTupleGo tg (.ref it) u) (fun _ s2 => ∃ x H', Inv X pins σ H' s2 ∧ RelV x u ∧ J.yld i H x H' ∧ tn (i + 1) s2.heap ∧ ∀ b ∈ fp, H' b = none) E s1) E s
  done : ∀ (X : Cx), X.prog = P → X.w = w → X.K = K → X.calm = true → ∀ (i : Nat) (pins : List (Addr × Obj)) (s : Shared) (σ : St) (H : Hp) (E : Value → Shared → Prop), Inv X pins σ H s → (∀ b ∈ fp, FpOk X pins H b) → tn i s.heap → J.stop i H →
    wpAny (model P w) X.A (pyNext (.ref it)) (fun r s1 => r = none ∧ Inv X pins σ H s1) E s
  self : ∀ (A : Around) (i : Nat) (s : Shared) (Q : Value → Shared → Prop) (E : Value → Shared → Prop), tn i s.heap → Q (.ref it) s → wpAny (model P w) A (pyIter (.ref it)) Q E s
abbrev TI := St → Hp → (It → Hp → Prop) → Prop
def PIE (X : Cx) (pins : List (Addr × Obj)) (σ : St) (tg : Expr) (R : It → Hp → Prop) (itv : Value) (s2 : Shared) : Prop :=
  ∃ (it : Addr) (fp : List Addr) (tn : Nat → Heap → Prop) (J : It) (H' : Hp), itv = .ref it ∧ Inv X pins σ H' s2 ∧ Turn X.prog X.w X.K tg J fp it tn ∧ tn 0 s2.heap ∧ (∀ b ∈ fp, FpOk X pins H' b) ∧ R J H'
def PI (X : Cx) (tg iter : Expr) (wi : TI) : Prop :=
  ∀ (pins : List (Addr × Obj)) (s : Shared) (σ : St) (H : Hp) (R : It → Hp → Prop), Inv X pins σ H s → wi σ H R →
    wpAny (model X.prog X.w) X.A (eval iter X.env) (fun v s1 => wpAny (model X.prog X.w) X.A (pyIter v) (PIE X pins σ tg R) X.xe s1) X.xe s
theorem go_of {M : Model} {A : Around} {E : Value → Shared → Prop} {s : Shared} {tg : Expr} {it : Addr} {u : Value} {o : Obj} {n : String} {vs : Array Value} {Q : Unit → Shared → Prop} (ho : s.heap.get? it = some o) (hc : o.cls = .type n) (hd : o.data = .fields vs)
    (hn : ["enumerate", "zip", "dict_itemiterator", "dict_reverseitemiterator", "odict_iterator", "itertools.zip_longest", "itertools.pairwise"].contains n = false) (hQ : Q () s) : wpAny M A (letOwnedTupleGo tg (.ref it) u) Q E s := by
  unfold letOwnedTupleGo
  cases tg <;> first
    | exact wpAny_pure hQ
    | (cases u <;> first
        | exact wpAny_pure hQ
        | (refine wpAny_bind (wpAny_load ho ?_)
           rw [hc, hd]
           show wpAny M A (if (["enumerate", "zip", "dict_itemiterator", "dict_reverseitemiterator", "odict_iterator", "itertools.zip_longest", "itertools.pairwise"].contains n && vs[0]? == some (rawInt _)) = true then _ else _) Q E s
           rw [if_neg (by intro h; rw [hn, Bool.false_and] at h; cases h)]
           exact wpAny_pure hQ))
def Itl (K : PySem.W.Frag) (a : Addr) : It :=
  ⟨fun i H => ∃ xs x, SqL K H a xs ∧ xs[i]? = some x, fun i H x H' => H' = H ∧ ∀ xs, SqL K H a xs → xs[i]? = some x, fun i H => ∃ xs, SqL K H a xs ∧ xs.length ≤ i⟩
def Itt (K : PySem.W.Frag) (a : Addr) : It :=
  ⟨fun i H => ∃ xs x, SqT K H a xs ∧ xs[i]? = some x, fun i H x H' => H' = H ∧ ∀ xs, SqT K H a xs → xs[i]? = some x, fun i H => ∃ xs, SqT K H a xs ∧ xs.length ≤ i⟩
def Itr (lo : Int) (n : Nat) : It := ⟨fun i _ => i < n, fun i H x H' => H' = H ∧ x = .int (lo + i), fun i _ => n ≤ i⟩
theorem turn_list {P : Program} {w : World} {K : PySem.W.Frag} {tg : Expr} (a it : Addr) : Turn P w K tg (Itl K a) [it] it (fun i h => h.IsListIter it a i) where
  mem := by simp
  obj := fun i h st b hb => by
    have e : b = it := by simpa using hb
    subst e
    obtain ⟨o, e, c, d⟩ := st
    exact ⟨o, e, fun v z => by rw [d] at z; cases z⟩
  keep := fun i h h' st k => st.at fun o e => k it (by simp) o e
  item := by
    intro X hP hw hK hc i pins s σ H E I hf st hg
    subst hP hw hK
    obtain ⟨xs, x, hq, hx⟩ := hg
    obtain ⟨its, rv, p, hz⟩ := I.list hq
    obtain ⟨u, hu, ru⟩ := rv.get hx
    obtain ⟨f0, f1, f2, f3, f4, f5⟩ := hf it (by simp)
    refine wpAny_pyNext_list_item st p.isList (x := u) (by simpa using hu) fun h' st' sb => ?_
    have I1 : Inv X pins σ H { s with heap := h' } := I.turned (t' := s.toks) (fun b o hb e => (sb.2 b hb).trans e) f0 f1 f3 f4 f5
    obtain ⟨o, e, c, d⟩ := id st'
    exact ⟨u, rfl, go_of (s := { s with heap := h' }) e c d (by decide) ⟨x, H, I1, ru, ⟨rfl, fun ys hy => by rw [I.list_inj hy hq]; exact hx⟩, st', fun b hb => (hf b hb).1⟩⟩
  done := by
    intro X hP hw hK hc i pins s σ H E I hf st hg
    subst hP hw hK
    obtain ⟨xs, hq, hx⟩ := hg
    obtain ⟨its, rv, p, hz⟩ := I.list hq
    obtain ⟨f0, f1, f2, f3, f4, f5⟩ := hf it (by simp)
    have hl := rv.length
    exact wpAny_pyNext_list_end (I.ok.hd hc) st p.isList (by simp; omega) fun h' eb => ⟨rfl, I.turned (t' := s.toks) (fun b o hb e => eb b o hb e) f0 f1 f3 f4 f5⟩
  self := fun _ _ _ _ _ st h => wpAny_pyIter_listiter st h
theorem turn_tuple {P : Program} {w : World} {K : PySem.W.Frag} {tg : Expr} (a it : Addr) : Turn P w K tg (Itt K a) [it] it (fun i h => h.IsTupleIter it a i) where
  mem := by simp
  obj := fun i h st b hb => by
    have e : b = it := by simpa using hb
    subst e
    obtain ⟨o, e, c, d⟩ := st
    exact ⟨o, e, fun v z => by rw [d] at z; cases z⟩
  keep := fun i h h' st k => st.at fun o e => k it (by simp) o e
  item := by
    intro X hP hw hK hc i pins s σ H E I hf st hg
    subst hP hw hK
    obtain ⟨xs, x, hq, hx⟩ := hg
    obtain ⟨its, rv, p, hz⟩ := I.tuple hq
    obtain ⟨u, hu, ru⟩ := rv.get hx
    obtain ⟨f0, f1, f2, f3, f4, f5⟩ := hf it (by simp)
    refine wpAny_pyNext_tuple_item st (show s.heap.IsTuple a its.toArray from p) (x := u) (by simpa using hu) fun h' st' sb => ?_
    have I1 : Inv X pins σ H { s with heap := h' } := I.turned (t' := s.toks) (fun b o hb e => (sb.2 b hb).trans e) f0 f1 f3 f4 f5
    obtain ⟨o, e, c, d⟩ := id st'
    exact ⟨u, rfl, go_of (s := { s with heap := h' }) e c d (by decide) ⟨x, H, I1, ru, ⟨rfl, fun ys hy => by rw [I.tuple_inj hy hq]; exact hx⟩, st', fun b hb => (hf b hb).1⟩⟩
  done := by
    intro X hP hw hK hc i pins s σ H E I hf st hg
    subst hP hw hK
    obtain ⟨xs, hq, hx⟩ := hg
    obtain ⟨its, rv, p, hz⟩ := I.tuple hq
    obtain ⟨f0, f1, f2, f3, f4, f5⟩ := hf it (by simp)
    have hl := rv.length
    exact wpAny_pyNext_tuple_end (I.ok.hd hc) st (show s.heap.IsTuple a its.toArray from p) (by simp; omega) fun h' eb => ⟨rfl, I.turned (t' := s.toks) (fun b o hb e => eb b o hb e) f0 f1 f3 f4 f5⟩
  self := fun _ _ _ _ _ st h => wpAny_pyIter_tupleiter st h
end L2
namespace L2
open PySem PySem.Spec PyProof.Rows
section
variable {X : Cx} {tg : Expr}
def iList (K : PySem.W.Frag) (tl : TE) : TI := fun σ H R => tl σ H fun x H1 => ∃ a, x = .ref a ∧ (∃ xs, SqL K H1 a xs) ∧ R (Itl K a) H1
def iTup (K : PySem.W.Frag) (tl : TE) : TI := fun σ H R => tl σ H fun x H1 => ∃ a, x = .ref a ∧ (∃ xs, SqT K H1 a xs) ∧ R (Itt K a) H1
theorem pi_list {l : Expr} {tl : TE} (hl : PE X l tl) : PI X tg l (iList X.K tl) := by
  intro pins s σ H R I h
  refine thn (hl pins s σ H _ I h) fun v s1 ⟨x, H1, I1, r1, q1⟩ => ?_
  obtain ⟨a, e, ⟨xs, hq⟩, q⟩ := q1
  subst e
  cases r1
  obtain ⟨its, rv, p, hz⟩ := I1.list hq
  refine wpAny_pyIter_list p.isList ?_
  refine ⟨s1.heap.objs.size, [s1.heap.objs.size], _, _, H1, rfl, I1.kept (t' := s1.toks) fun b o e => Heap.get?_push_of_some _ e, turn_list a _, ⟨_, Heap.get?_push_size _ rfl, rfl, rfl⟩, fun b hb => ?_, q⟩
  have e : b = s1.heap.objs.size := by simpa using hb
  subst e
  exact I1.fpOk (Nat.le_refl _) (I1.hok.fresh (Nat.le_refl _))
theorem pi_tup {l : Expr} {tl : TE} (hl : PE X l tl) : PI X tg l (iTup X.K tl) := by
  intro pins s σ H R I h
  refine thn (hl pins s σ H _ I h) fun v s1 ⟨x, H1, I1, r1, q1⟩ => ?_
  obtain ⟨a, e, ⟨xs, hq⟩, q⟩ := q1
  subst e
  cases r1
  obtain ⟨its, rv, p, hz⟩ := I1.tuple hq
  refine wpAny_pyIter_tuple (show s1.heap.IsTuple a its.toArray from p) ?_
  refine ⟨s1.heap.objs.size, [s1.heap.objs.size], _, _, H1, rfl, I1.kept (t' := s1.toks) fun b o e => Heap.get?_push_of_some _ e, turn_tuple a _, ⟨_, Heap.get?_push_size _ rfl, rfl, rfl⟩, fun b hb => ?_, q⟩
  have e : b = s1.heap.objs.size := by simpa using hb
  subst e
  exact I1.fpOk (Nat.le_refl _) (I1.hok.fresh (Nat.le_refl _))
def iRng1 (ta : TA) : TI := fun σ H R => ta σ H fun vs H1 => ∃ j : Int, vs = [.int j] ∧ -(2 ^ 62) ≤ j ∧ j < 2 ^ 62 ∧ R (Itr 0 j.toNat) H1
def iRng2 (ta : TA) : TI := fun σ H R => ta σ H fun vs H1 => ∃ i j : Int, vs = [.int i, .int j] ∧ (-(2 ^ 62) ≤ i ∧ i < 2 ^ 62 ∧ -(2 ^ 62) ≤ j ∧ j < 2 ^ 62) ∧ R (Itr i (j - i).toNat) H1
def tFor (wi : TI) (g : TG) (tb : TS) : TS := fun D σ H => wi σ H fun J H1 => ∃ W : Nat → Nat → St → Hp → Prop, (∃ m, W 0 m σ H1) ∧ ∀ i m σ H, W i m σ H →
  (J.stop i H ∧ D.nx σ H) ∨ (J.go i H ∧ ∃ N : St → Hp → Prop, (∀ σ' H', N σ' H' → ∃ m', m' < m ∧ W (i + 1) m' σ' H') ∧ ∀ x H', J.yld i H x H' → g x σ H' fun σ2 H2 => tb { D with nx := N, ct := N, bk := D.nx } σ2 H2)
def pinsAt (fp : List Addr) (h : Heap) : List (Addr × Obj) := fp.filterMap fun b => (h.get? b).map fun o => (b, o)
theorem mem_pinsAt {fp : List Addr} {h : Heap} {b : Addr} {o : Obj} (hb : b ∈ fp) (e : h.get? b = some o) : (b, o) ∈ pinsAt fp h := List.mem_filterMap.mpr ⟨b, hb, by rw [e]; rfl⟩
theorem of_pinsAt {fp : List Addr} {h : Heap} {p : Addr × Obj} (hp : p ∈ pinsAt fp h) : p.1 ∈ fp ∧ h.get? p.1 = some p.2 := by
  obtain ⟨b, hb, e⟩ := List.mem_filterMap.mp hp
  cases q : h.get? b with
  | none => rw [q] at e; cases e
  | some o =>
    rw [q] at e
    have e' : (b, o) = p := Option.some.inj e
    subst e'
    exact ⟨hb, q⟩
theorem Inv.pinned {pins : List (Addr × Obj)} {σ : St} {H : Hp} {s : Shared} {fp : List Addr} (I : Inv X pins σ H s) (hf : ∀ b ∈ fp, FpOk X pins H b) (ho : ∀ b ∈ fp, ∃ o, s.heap.get? b = some o ∧ ∀ v, o.data ≠ .cell v) : Inv X (pins ++ pinsAt fp s.heap) σ H s :=
  I.pins_of fun p hp => (List.mem_append.mp hp).elim (fun z => I.pin p (List.mem_append_right _ z)) fun z => by
    obtain ⟨hb, e⟩ := of_pinsAt z
    obtain ⟨f0, f1, f2, _⟩ := hf p.1 hb
    obtain ⟨o, e', d⟩ := ho p.1 hb
    rw [e] at e'; cases e'
    exact ⟨e, f0, f1, f2, d⟩
theorem Inv.unpinned {pins pl : List (Addr × Obj)} {σ : St} {H : Hp} {s : Shared} (I : Inv X (pins ++ pl) σ H s) : Inv X pins σ H s := I.pins_of fun p hp => I.pin p (List.mem_append_right _ (List.mem_append_left _ hp))
theorem ps_for {iter : Expr} {body : List Stmt} {wi : TI} {g : TG} {tb : TS} {pos : Pos} (hp : PassesOwn (model X.prog X.w) X.A X.env X.xe) (hc : X.calm = true) (hi : PI X tg iter wi) (hg : PG X tg g) (hb : PSs X body tb)
    (hs : ∀ x, foldedSetIterable iter X.env x = pure x := by intro _; rfl) : PS X (.For tg iter body [] pos) (tFor wi g tb) := by
  intro pins s σ H D I h
  refine wpAny_For (thn (hi pins s σ H _ I h) fun v s1 h1 => thn h1 fun itv s2 h2 => ?_) hs
  obtain ⟨it, fp, tn, J, H2, e, I2, T, st2, f2, W, ⟨m0, w0⟩, turn⟩ := h2
  subst e
  have stat : ∀ {H' : Hp}, (∀ b ∈ fp, H' b = none) → ∀ b ∈ fp, FpOk X pins H' b := fun hn b hb => ⟨hn b hb, (f2 b hb).2⟩
  refine codeAny_forLoop_any (fun n s' => ∃ i σ' H', Inv X pins σ' H' s' ∧ tn i s'.heap ∧ (∀ b ∈ fp, H' b = none) ∧ W i n σ' H') ?_ m0 ⟨0, σ, H2, I2, st2, fun b hb => (f2 b hb).1, w0⟩
  rintro n s3 ⟨i, σ3, H3, I3, st3, fr3, w3⟩
  rcases turn i n σ3 H3 w3 with ⟨stop, qn⟩ | ⟨go, N, hN, step⟩
  · refine wpAny_passesOwn hp (thn (T.done X rfl rfl rfl hc i pins s3 σ3 H3 X.xe I3 (stat fr3) st3 stop) fun r s4 ⟨hr, I4⟩ => ?_)
    subst hr
    exact wpAny_execs_nil ⟨σ3, H3, I4, qn⟩
  · refine wpAny_passesOwn hp (thn (T.item X rfl rfl rfl hc i pins s3 σ3 H3 X.xe I3 (stat fr3) st3 go) fun r s4 ⟨u, hr, h4⟩ => ?_)
    subst hr
    refine wpAny_passesOwn hp (thn h4 fun _ s5 ⟨x, H5, I5, r5, y5, st5, fr5⟩ => ?_)
    have I5' := I5.pinned (stat fr5) (T.obj _ _ st5)
    refine wpAny_passesOwn hp (thn (hg _ s5 σ3 H5 x u _ I5' r5 (step x H5 y5)) fun _ s6 ⟨σ6, H6, I6, q6⟩ => ?_)
    refine wpAny_passesOwn hp (thn (hb _ s6 σ6 H6 _ I6 q6) fun f s7 q7 => ?_)
    have again : ∀ {σ7 : St} {H7 : Hp}, Inv X (pins ++ pinsAt fp s5.heap) σ7 H7 s7 → N σ7 H7 → ∃ m, m < n ∧ ∃ i σ' H', Inv X pins σ' H' s7 ∧ tn i s7.heap ∧ (∀ b ∈ fp, H' b = none) ∧ W i m σ' H' := fun {σ7 H7} I7 n7 => by
      obtain ⟨m', hm, w7⟩ := hN σ7 H7 n7
      refine ⟨m', hm, i + 1, σ7, H7, I7.unpinned, T.keep _ _ _ st5 fun b hb o e => (I7.pin (b, o) (List.mem_append_right _ (List.mem_append_right _ (mem_pinsAt hb e)))).1, fun b hb => ?_, w7⟩
      obtain ⟨o, e, d⟩ := T.obj _ _ st5 b hb
      exact (I7.pin (b, o) (List.mem_append_right _ (List.mem_append_right _ (mem_pinsAt hb e)))).2.1
    cases f with
    | next => obtain ⟨σ7, H7, I7, n7⟩ := q7; exact again I7 n7
    | cont => obtain ⟨σ7, H7, I7, n7⟩ := q7; exact again I7 n7
    | brk => obtain ⟨σ7, H7, I7, q7⟩ := q7; exact ⟨σ7, H7, I7.unpinned, q7⟩
    | ret v => obtain ⟨x7, σ7, H7, I7, r7, q7⟩ := q7; exact ⟨x7, σ7, H7, I7.unpinned, r7, q7⟩
end
end L2
namespace L2
open PySem PySem.Spec PyProof.Rows
abbrev R2 := V → V → Hp → VK → Prop
def OpR (X : Cx) (f : Value → Value → Sem Value) (r : R2) : Prop :=
  ∀ (pins : List (Addr × Obj)) (s : Shared) (σ : St) (H : Hp) (x y : V) (v u : Value) (Q : VK), Inv X pins σ H s → RelV x v → RelV y u → r x y H Q →
    wpAny (model X.prog X.w) X.A (f v u) (EP X pins σ Q) X.xe s
def UnR (X : Cx) (f : Value → Sem Value) (r : V → Hp → VK → Prop) : Prop :=
  ∀ (pins : List (Addr × Obj)) (s : Shared) (σ : St) (H : Hp) (x : V) (v : Value) (Q : VK), Inv X pins σ H s → RelV x v → r x H Q →
    wpAny (model X.prog X.w) X.A (f v) (EP X pins σ Q) X.xe s
def CallR (X : Cx) (f : Value) (r : List V → Hp → VK → Prop) : Prop :=
  ∀ (pins : List (Addr × Obj)) (s : Shared) (σ : St) (H : Hp) (xs : List V) (us : List Value) (Q : VK), Inv X pins σ H s → Vals xs us → r xs H Q →
    wpAny (model X.prog X.w) X.A (call f us) (EP X pins σ Q) X.xe s
def TruR (X : Cx) (r : V → Hp → (Bool → Hp → Prop) → Prop) : Prop :=
  ∀ (pins : List (Addr × Obj)) (s : Shared) (σ : St) (H : Hp) (x : V) (v : Value) (Q : Bool → Hp → Prop), Inv X pins σ H s → RelV x v → r x H Q →
    wpAny (model X.prog X.w) X.A (truthy v) (TP X pins σ Q) X.xe s
def tOp (r : R2) (ta tb : TE) : TE := fun σ H Q => ta σ H fun x H1 => tb σ H1 fun y H2 => r x y H2 Q
def tUn (r : V → Hp → VK → Prop) (ta : TE) : TE := fun σ H Q => ta σ H fun x H1 => r x H1 Q
def rI (C : Int → Int → Prop) (g : Int → Int → V) : R2 := fun x y H Q => ∃ i j, x = .int i ∧ y = .int j ∧ C i j ∧ Q (g i j) H
def rI0 (g : Int → Int → V) : R2 := fun x y H Q => ∃ i j, x = .int i ∧ y = .int j ∧ Q (g i j) H
def rU (g : Int → V) : V → Hp → VK → Prop := fun x H Q => ∃ i, x = .int i ∧ Q (g i) H
section
variable {X : Cx} {a b c : Expr} {ta tb tc : TE} {pos : Pos}
theorem binT (ha : PE X a ta) (hb : PE X b tb) {pins : List (Addr × Obj)} {s : Shared} {σ : St} {H : Hp} {R : V → V → Hp → Prop} (I : Inv X pins σ H s)
    (h : ta σ H fun x H1 => tb σ H1 fun y H2 => R x y H2) {Q : Value → Shared → Prop} {f : Value → Value → Sem Value}
    (hf : ∀ v u s2 x y H2, Inv X pins σ H2 s2 → RelV x v → RelV y u → R x y H2 → wpAny (model X.prog X.w) X.A (f v u) Q X.xe s2) :
    wpAny (model X.prog X.w) X.A (eval a X.env) (fun v s₁ => wpAny (model X.prog X.w) X.A (eval b X.env) (fun u s₂ => wpAny (model X.prog X.w) X.A (f v u) Q X.xe s₂) X.xe s₁) X.xe s := by
  refine thn (ha pins s σ H _ I h) fun v s1 ⟨x, H1, I1, r1, q1⟩ => ?_
  refine thn (hb pins s1 σ H1 _ I1 q1) fun u s2 ⟨y, H2, I2, r2, q2⟩ => ?_
  exact hf v u s2 x y H2 I2 r1 r2 q2
theorem pe_op {op : Operator} {r : R2} (ho : OpR X (binaryOp op) r) (ha : PE X a ta) (hb : PE X b tb) : PE X (.BinOp a op b pos) (tOp r ta tb) := by
  intro pins s σ H Q I h
  exact wpAny_BinOp (binT ha hb I h fun v u s2 x y H2 I2 rx ry q => ho pins s2 σ H2 x y v u Q I2 rx ry q)
theorem pe_un {op : UnaryOp} {r : V → Hp → VK → Prop} (ho : UnR X (unaryOp op) r) (ha : PE X a ta) : PE X (.UnaryOp op a pos) (tUn r ta) := by
  intro pins s σ H Q I h
  exact UnaryOp_ (thn (ha pins s σ H _ I h) fun v s1 ⟨x, H1, I1, r1, q1⟩ => ho pins s1 σ H1 x v Q I1 r1 q1)
theorem opI {f : Value → Value → Sem Value} {C : Int → Int → Prop} {g : Int → Int → Int}
    (rule : ∀ (i j : Int) (t u : Tok) (s : Shared) (Q : Value → Shared → Prop) (E : Value → Shared → Prop), C i j → Q (.int (g i j) s.toks) { s with toks := s.toks + 1 } → wpAny (model X.prog X.w) X.A (f (.int i t) (.int j u)) Q E s) :
    OpR X f (rI C fun i j => .int (g i j)) := by
  intro pins s σ H x y v u Q I rx ry h
  obtain ⟨i, j, rfl, rfl, hc, q⟩ := h
  obtain ⟨t, rfl⟩ := rx
  obtain ⟨t', rfl⟩ := ry
  exact rule i j t t' s _ _ hc ⟨.int (g i j), H, I.tok _, ⟨_, rfl⟩, q⟩
theorem opI0 {f : Value → Value → Sem Value} {g : Int → Int → Int}
    (rule : ∀ (i j : Int) (t u : Tok) (s : Shared) (Q : Value → Shared → Prop) (E : Value → Shared → Prop), Q (.int (g i j) s.toks) { s with toks := s.toks + 1 } → wpAny (model X.prog X.w) X.A (f (.int i t) (.int j u)) Q E s) :
    OpR X f (rI0 fun i j => .int (g i j)) := by
  intro pins s σ H x y v u Q I rx ry h
  obtain ⟨i, j, rfl, rfl, q⟩ := h
  obtain ⟨t, rfl⟩ := rx
  obtain ⟨t', rfl⟩ := ry
  exact rule i j t t' s _ _ ⟨.int (g i j), H, I.tok _, ⟨_, rfl⟩, q⟩
theorem opB0 {f : Value → Value → Sem Value} {g : Int → Int → Bool}
    (rule : ∀ (i j : Int) (t u : Tok) (s : Shared) (Q : Value → Shared → Prop) (E : Value → Shared → Prop), Q (.bool (g i j)) s → wpAny (model X.prog X.w) X.A (f (.int i t) (.int j u)) Q E s) :
    OpR X f (rI0 fun i j => .bl (g i j)) := by
  intro pins s σ H x y v u Q I rx ry h
  obtain ⟨i, j, rfl, rfl, q⟩ := h
  obtain ⟨t, rfl⟩ := rx
  obtain ⟨t', rfl⟩ := ry
  exact rule i j t t' s _ _ ⟨.bl (g i j), H, I, rfl, q⟩
def CDiv (i j : Int) : Prop := 0 < j ∧ j < 1073741824
def CDivN (i j : Int) : Prop := j ≠ 0 ∧ j.natAbs < 1073741824
def CPow (i j : Int) : Prop := 0 ≤ j ∧ j ≤ 1000000 ∧ i.natAbs < 2 ^ 64
def CMul (i j : Int) : Prop := (-(2 ^ 64) < i ∧ i < 2 ^ 64) ∨ (-(2 ^ 64) < j ∧ j < 2 ^ 64)
theorem op_add : OpR X (binaryOp .Add) (rI0 fun i j => .int (i + j)) := opI0 fun _ _ _ _ _ _ _ q => add_int q
theorem op_sub : OpR X (binaryOp .Sub) (rI0 fun i j => .int (i - j)) := opI0 fun _ _ _ _ _ _ _ q => sub_int q
theorem op_fdiv : OpR X (binaryOp .FloorDiv) (rI CDiv fun i j => .int (i / j)) := opI fun i j _ _ _ _ _ hc q => by
  have h1 : (0 : Int) < j := hc.1
  have h2 : j < 1073741824 := hc.2
  exact floordiv_int (by omega) (by rw [Int.fdiv_eq_ediv_of_nonneg i (by omega)]; exact q) (.inl (PyProof.noPylong_small (by omega)))
theorem op_mod : OpR X (binaryOp .Mod) (rI (fun _ j => 0 < j) fun i j => .int (i % j)) := opI fun i j _ _ _ _ _ hc q => by
  have h1 : (0 : Int) < j := hc
  exact mod_int' (by omega) (by rw [Int.fmod_eq_emod_of_nonneg i (by omega)]; exact q)
theorem unI {f : Value → Sem Value} {g : Int → Int}
    (rule : ∀ (i : Int) (t : Tok) (s : Shared) (Q : Value → Shared → Prop) (E : Value → Shared → Prop), Q (.int (g i) s.toks) { s with toks := s.toks + 1 } → wpAny (model X.prog X.w) X.A (f (.int i t)) Q E s) :
    UnR X f (rU fun i => .int (g i)) := by
  intro pins s σ H x v Q I rx h
  obtain ⟨i, rfl, q⟩ := h
  obtain ⟨t, rfl⟩ := rx
  exact rule i t s _ _ ⟨.int (g i), H, I.tok _, ⟨_, rfl⟩, q⟩
theorem un_neg : UnR X (unaryOp .USub) (rU fun i => .int (-i)) := unI fun _ _ _ _ _ q => neg_int q
end
def scal : V → V → Bool
  | .non, .non => true | .non, .int _ => true | .int _, .non => true | .non, .bl _ => true | .bl _, .non => true | .non, .str _ => true | .str _, .non => true
  | .int _, .int _ => true | .bl _, .bl _ => true | .str _, .str _ => true | .byt _, .byt _ => true
  | .int _, .str _ => true | .str _, .int _ => true | .bl _, .str _ => true | .str _, .bl _ => true
  | _, _ => false
def rEq : R2 := fun x y H Q => scal x y = true ∧ Q (.bl (decide (x = y))) H
def rNe : R2 := fun x y H Q => scal x y = true ∧ Q (.bl (!decide (x = y))) H
theorem dec_int {i j : Int} : decide (V.int i = V.int j) = (i == j) := by
  rw [Bool.eq_iff_iff]
  simp
theorem dec_bl {i j : Bool} : decide (V.bl i = V.bl j) = (i == j) := by
  rw [Bool.eq_iff_iff]
  simp
theorem dec_str {i j : Str} : decide (V.str i = V.str j) = (i == j) := by
  rw [Bool.eq_iff_iff]
  simp
theorem dec_byt {i j : Array UInt8} : decide (V.byt i = V.byt j) = (i.toList == j.toList) := by
  rw [Bool.eq_iff_iff]
  cases i
  cases j
  simp
section
variable {X : Cx} {a b c : Expr} {ta tb tc : TE} {pos : Pos}
theorem fin_bl {pins : List (Addr × Obj)} {σ : St} {H : Hp} {s : Shared} {Q : VK} {k k' : Bool} (I : Inv X pins σ H s) (q : Q (.bl k) H) (e : k = k') : EP X pins σ Q (.bool k') s := by
  subst e
  exact ⟨.bl k, H, I, rfl, q⟩
theorem op_eq : OpR X (compareOp .Eq) rEq := by
  intro pins s σ H x y v u Q I rx ry h
  obtain ⟨hs, q⟩ := h
  cases x with
  | non =>
    cases rx
    cases y with
    | non => cases ry; exact PySem.EqNone.eq_none_none (fin_bl I q (by simp))
    | bl j => cases ry; exact PySem.EqNone.eq_none_bool (fin_bl I q (by simp))
    | int j => obtain ⟨t', rfl⟩ := ry; exact PySem.EqNone.eq_none_int (fin_bl I q (by simp))
    | str j => obtain ⟨t', rfl⟩ := ry; exact PySem.EqNone.eq_none_str (fin_bl I q (by simp))
    | _ => exact absurd (show false = true from hs) Bool.false_ne_true
  | bl i =>
    cases rx
    cases y with
    | non => cases ry; exact PySem.EqNone.eq_bool_none (fin_bl I q (by simp))
    | bl j => cases ry; exact eq_bool (fin_bl I q dec_bl)
    | str j => obtain ⟨t', rfl⟩ := ry; exact PySem.EqMixed.eq_bool_str (fin_bl I q (by simp))
    | _ => exact absurd (show false = true from hs) Bool.false_ne_true
  | int i =>
    obtain ⟨t, rfl⟩ := rx
    cases y with
    | non => cases ry; exact PySem.EqNone.eq_int_none (fin_bl I q (by simp))
    | int j => obtain ⟨t', rfl⟩ := ry; exact eq_int (fin_bl I q dec_int)
    | str j => obtain ⟨t', rfl⟩ := ry; exact PySem.EqMixed.eq_int_str (fin_bl I q (by simp))
    | _ => exact absurd (show false = true from hs) Bool.false_ne_true
  | str i =>
    obtain ⟨t, rfl⟩ := rx
    cases y with
    | non => cases ry; exact PySem.EqNone.eq_str_none (fin_bl I q (by simp))
    | bl j => cases ry; exact PySem.EqMixed.eq_str_bool (fin_bl I q (by simp))
    | int j => obtain ⟨t', rfl⟩ := ry; exact PySem.EqMixed.eq_str_int (fin_bl I q (by simp))
    | str j => obtain ⟨t', rfl⟩ := ry; exact eq_str (fin_bl I q dec_str)
    | _ => exact absurd (show false = true from hs) Bool.false_ne_true
  | byt i =>
    obtain ⟨t, rfl⟩ := rx
    cases y with
    | byt j => obtain ⟨t', rfl⟩ := ry; exact PySem.W.eq_bytes (fin_bl I q dec_byt)
    | _ => exact absurd (show false = true from hs) Bool.false_ne_true
  | _ => cases y <;> exact absurd (show false = true from hs) Bool.false_ne_true
theorem op_ne : OpR X (compareOp .NotEq) rNe := by
  intro pins s σ H x y v u Q I rx ry h
  obtain ⟨hs, q⟩ := h
  cases x with
  | non =>
    cases rx
    cases y with
    | non => cases ry; exact PySem.EqNone.ne_none_none (fin_bl I q (by simp))
    | bl j => cases ry; exact PySem.EqNone.ne_none_bool (fin_bl I q (by simp))
    | int j => obtain ⟨t', rfl⟩ := ry; exact PySem.EqNone.ne_none_int (fin_bl I q (by simp))
    | str j => obtain ⟨t', rfl⟩ := ry; exact PySem.EqNone.ne_none_str (fin_bl I q (by simp))
    | _ => exact absurd (show false = true from hs) Bool.false_ne_true
  | bl i =>
    cases rx
    cases y with
    | non => cases ry; exact PySem.EqNone.ne_bool_none (fin_bl I q (by simp))
    | bl j => cases ry; exact ne_bool (fin_bl I q (congrArg not dec_bl))
    | str j => obtain ⟨t', rfl⟩ := ry; exact PySem.EqMixed.ne_bool_str (fin_bl I q (by simp))
    | _ => exact absurd (show false = true from hs) Bool.false_ne_true
  | int i =>
    obtain ⟨t, rfl⟩ := rx
    cases y with
    | non => cases ry; exact PySem.EqNone.ne_int_none (fin_bl I q (by simp))
    | int j => obtain ⟨t', rfl⟩ := ry; exact ne_int (fin_bl I q (congrArg not dec_int))
    | str j => obtain ⟨t', rfl⟩ := ry; exact PySem.EqMixed.ne_int_str (fin_bl I q (by simp))
    | _ => exact absurd (show false = true from hs) Bool.false_ne_true
  | str i =>
    obtain ⟨t, rfl⟩ := rx
    cases y with
    | non => cases ry; exact PySem.EqNone.ne_str_none (fin_bl I q (by simp))
    | bl j => cases ry; exact PySem.EqMixed.ne_str_bool (fin_bl I q (by simp))
    | int j => obtain ⟨t', rfl⟩ := ry; exact PySem.EqMixed.ne_str_int (fin_bl I q (by simp))
    | str j => obtain ⟨t', rfl⟩ := ry; exact ne_str (fin_bl I q (congrArg not dec_str))
    | _ => exact absurd (show false = true from hs) Bool.false_ne_true
  | byt i =>
    obtain ⟨t, rfl⟩ := rx
    cases y with
    | byt j => obtain ⟨t', rfl⟩ := ry; exact PySem.W.ne_bytes (fin_bl I q (congrArg not dec_byt))
    | _ => exact absurd (show false = true from hs) Bool.false_ne_true
  | _ => cases y <;> exact absurd (show false = true from hs) Bool.false_ne_true
theorem op_lt : OpR X (compareOp .Lt) (rI0 fun i j => .bl (decide (i < j))) := opB0 fun _ _ _ _ _ _ _ q => lt_int q
theorem op_le : OpR X (compareOp .LtE) (rI0 fun i j => .bl (decide (i ≤ j))) := opB0 fun _ _ _ _ _ _ _ q => le_int q
theorem op_gt : OpR X (compareOp .Gt) (rI0 fun i j => .bl (decide (j < i))) := opB0 fun _ _ _ _ _ _ _ q => gt_int q
theorem op_notN : OpR X (compareOp .IsNot) (fun x y H Q => y = .non ∧ Q (.bl (!decide (x = .non))) H) := by
  intro pins s σ H x y v u Q I rx ry h
  obtain ⟨rfl, q⟩ := h
  cases ry
  refine isnot_none_gen (fin_bl I q ?_)
  cases x <;> first
    | (cases rx; rfl)
    | (obtain ⟨t, rfl⟩ := rx; rfl)
def isObj : HO → Bool
  | .lst _ => true
  | .ins _ _ _ => true
  | _ => false
theorem nomark (b : Expr) {op : CmpOp} (h : op ≠ .In := by decide) (h2 : op ≠ .NotIn := by decide) : behindInMarks op b = false := by
  have e1 : (op == CmpOp.In) = false := by cases op <;> first | rfl | exact absurd rfl h
  have e2 : (op == CmpOp.NotIn) = false := by cases op <;> first | rfl | exact absurd rfl h2
  cases b <;> simp [behindInMarks, e1, e2]
theorem pe_cmpR {op : CmpOp} {r : R2} (ho : OpR X (compareOp op) r) (ha : PE X a ta) (hb : PE X b tb) (hm : behindInMarks op b = false) : PE X (.Compare a [op] [b] pos) (tOp r ta tb) := by
  intro pins s σ H Q I h
  exact wpAny_Compare1 (binT ha hb I h fun v u s2 x y H2 I2 rx ry q => ho pins s2 σ H2 x y v u Q I2 rx ry q) hm
def tTest (t : TE) : TT := fun σ H Q => t σ H fun x H' => ∃ k, x = .bl k ∧ Q k H'
theorem pt_cmpR {op : CmpOp} {r : R2} (ho : OpR X (compareOp op) r) (ha : PE X a ta) (hb : PE X b tb) (hm : behindInMarks op b = false) : PT X (.Compare a [op] [b] pos) (tTest (tOp r ta tb)) := by
  intro pins s σ H Q I h
  refine wpAny_isTrue_Compare1 (thn (ha pins s σ H _ I h) fun v s1 ⟨x, H1, I1, r1, q1⟩ => thn (hb pins s1 σ H1 _ I1 q1) fun u s2 ⟨y, H2, I2, r2, q2⟩ =>
    thn (ho pins s2 σ H2 x y v u _ I2 r1 r2 q2) fun c s3 ⟨z, H3, I3, r3, k, e, q3⟩ => ?_) hm
  subst e
  cases r3
  exact wpAny_truthy_bool ⟨H3, I3, q3⟩
def tChain (r r' : R2) (ta tb tc : TE) : TE := fun σ H Q => ta σ H fun x H1 => tb σ H1 fun y H2 => r x y H2 fun z H3 => ∃ k, z = .bl k ∧
  (if k = true then tc σ H3 fun w' H4 => r' y w' H4 Q else Q (.bl false) H3)
theorem pe_chain {op op' : CmpOp} {r r' : R2} (ho : OpR X (compareOp op) r) (ho' : OpR X (compareOp op') r') (ha : PE X a ta) (hb : PE X b tb) (hc : PE X c tc)
    (hm : lastMarks [op, op'] [b, c] = false := by with_unfolding_all rfl) : PE X (.Compare a [op, op'] [b, c] pos) (tChain r r' ta tb tc) := by
  intro pins s σ H Q I h
  refine Compare_chain (thn (ha pins s σ H _ I h) fun v s1 ⟨x, H1, I1, r1, q1⟩ => chain_link (thn (hb pins s1 σ H1 _ I1 q1) fun u s2 ⟨y, H2, I2, r2, q2⟩ =>
    thn (ho pins s2 σ H2 x y v u _ I2 r1 r2 q2) fun d s3 ⟨z, H3, I3, r3, k, e, q3⟩ => ?_)) hm
  subst e
  cases r3
  refine wpAny_truthy_bool ?_
  cases k with
  | false => exact ite_ff ⟨.bl false, H3, I3, rfl, q3⟩
  | true => exact ite_tt (chain_last (thn (hc pins s3 σ H3 _ I3 q3) fun w' s4 ⟨z', H4, I4, r4, q4⟩ => ho' pins s4 σ H4 y z' u w' Q I4 r2 r4 q4))
theorem pt_chain {op op' : CmpOp} {r r' : R2} (ho : OpR X (compareOp op) r) (ho' : OpR X (compareOp op') r') (ha : PE X a ta) (hb : PE X b tb) (hc : PE X c tc)
    (hm : lastMarks [op, op'] [b, c] = false := by with_unfolding_all rfl) : PT X (.Compare a [op, op'] [b, c] pos) (tTest (tChain r r' ta tb tc)) := by
  intro pins s σ H Q I h
  refine isTrue_chain (thn (ha pins s σ H _ I h) fun v s1 ⟨x, H1, I1, r1, q1⟩ => test_link (thn (hb pins s1 σ H1 _ I1 q1) fun u s2 ⟨y, H2, I2, r2, q2⟩ =>
    thn (ho pins s2 σ H2 x y v u _ I2 r1 r2 q2) fun d s3 ⟨z, H3, I3, r3, k, e, q3⟩ => ?_)) hm
  subst e
  cases r3
  refine wpAny_truthy_bool ?_
  cases k with
  | false =>
    obtain ⟨k', e', q'⟩ := q3
    cases e'
    exact ite_ff ⟨H3, I3, q'⟩
  | true =>
    refine ite_tt (test_last (thn (hc pins s3 σ H3 _ I3 q3) fun w' s4 ⟨z', H4, I4, r4, q4⟩ => thn (ho' pins s4 σ H4 y z' u w' _ I4 r2 r4 q4) fun d' s5 ⟨z2, H5, I5, r5, k2, e2, q5⟩ => ?_))
    subst e2
    cases r5
    exact wpAny_truthy_bool ⟨H5, I5, q5⟩
def TruV (K : PySem.W.Frag) (x : V) (H : Hp) (k : Bool) : Prop :=
  match x with
  | .non => k = false
  | .bl b => k = b
  | .int i => k = (i != 0)
  | .str y => y.length ≤ sizeLine ∧ k = ((y.length : Int) != 0)
  | .byt y => y.size ≤ sizeLine ∧ k = ((y.size : Int) != 0)
  | .ref p => (∃ xs, SqL K H p xs ∧ k = !xs.isEmpty) ∨ (∃ xs, SqT K H p xs ∧ k = !xs.isEmpty) ∨ ∃ kvs, H p = some (.dK kvs) ∧ k = !kvs.isEmpty
  | _ => False
theorem line63 : (sizeLine : Nat) < 2 ^ 63 := by rw [sizeLine_eq]; decide
theorem op_add_str : OpR X (binaryOp .Add) (fun x y H Q => ∃ i j, x = .str i ∧ y = .str j ∧ i.length + j.length ≤ sizeLine ∧ Q (.str (i ++ j)) H) := by
  intro pins s σ H x y v u Q I rx ry h
  obtain ⟨i, j, rfl, rfl, hz, q⟩ := h
  obtain ⟨t, rfl⟩ := rx
  obtain ⟨t', rfl⟩ := ry
  exact add_str (fun t' tk => ⟨.str (i ++ j), H, I.tok _, ⟨_, rfl⟩, q⟩) hz
def PlainIxT (b : Expr) : Prop := ∀ o i, subscripted b false o i = operate [o, i] (getItem o i)
theorem vals1 {x : V} {us : List Value} (r : Vals [x] us) : ∃ u, us = [u] ∧ RelV x u := by
  cases r with
  | cons r1 r2 => cases r2; exact ⟨_, rfl, r1⟩
theorem vals2 {x y : V} {us : List Value} (r : Vals [x, y] us) : ∃ u w', us = [u, w'] ∧ RelV x u ∧ RelV y w' := by
  cases r with
  | cons r1 r2 =>
    cases r2 with
    | cons r3 r4 => cases r4; exact ⟨_, _, rfl, r1, r3⟩
def LenV (K : PySem.W.Frag) (x : V) (H : Hp) (n : Nat) : Prop :=
  match x with
  | .str y => y.length ≤ sizeLine ∧ n = y.length
  | .byt y => y.size ≤ sizeLine ∧ n = y.size
  | .ref p => (∃ xs, SqL K H p xs ∧ n = xs.length) ∨ ∃ xs, SqT K H p xs ∧ n = xs.length
  | _ => False
theorem call_len : CallR X (.builtin "len") (fun xs H Q => ∃ x n, xs = [x] ∧ LenV X.K x H n ∧ Q (.int n) H) := by
  intro pins s σ H xs us Q I r h
  obtain ⟨x, n, rfl, e, q⟩ := h
  obtain ⟨u, rfl, rx⟩ := vals1 r
  have hl := line63
  have hs : sizeLine = 16777216 := sizeLine_eq
  cases x with
  | str y =>
    obtain ⟨t, rfl⟩ := rx
    obtain ⟨hy, e'⟩ : y.length ≤ sizeLine ∧ n = y.length := e
    subst e'
    exact len_str (by omega) ⟨.int _, H, I.tok _, ⟨_, rfl⟩, q⟩
  | byt y =>
    obtain ⟨t, rfl⟩ := rx
    obtain ⟨hy, e'⟩ : y.size ≤ sizeLine ∧ n = y.size := e
    subst e'
    exact PySem.W.len_bytes (by omega) ⟨.int _, H, I.tok _, ⟨_, rfl⟩, q⟩
  | ref p =>
    cases rx
    have e' : (∃ xs, SqL X.K H p xs ∧ n = xs.length) ∨ ∃ xs, SqT X.K H p xs ∧ n = xs.length := e
    rcases e' with ⟨xs, hx, e'⟩ | ⟨xs, hx, e'⟩
    · subst e'
      obtain ⟨its, r', pl, hz⟩ := I.list hx
      have hlen := r'.length
      exact Calls.call_len_list pl.isList (by simp only [List.size_toArray]; omega) ⟨.int xs.length, H, I.tok _, ⟨_, by simp only [List.size_toArray]; rw [hlen]⟩, q⟩
    · subst e'
      obtain ⟨its, r', pl, hz⟩ := I.tuple hx
      have hlen := r'.length
      exact len_tuple pl (by simp only [List.size_toArray]; omega) ⟨.int xs.length, H, I.tok _, ⟨_, by simp only [List.size_toArray]; rw [hlen]⟩, q⟩
  | _ => exact (show False from e).elim
end
end L2
namespace L2
open PySem PySem.Spec PyProof.Rows
structure ObjM (h : Heap) (x dx C : Addr) (mA : Str → Option Value) : Prop where
  obj : h.get? x = some (PySem.W.instObj C dx)
  ns : h.Ns1 dx mA
  ne : dx ≠ x
theorem lookIn_ns {h : Heap} {dx : Addr} {mA : Str → Option Value} (n : h.Ns1 dx mA) : ∃ od, h.get? dx = some od ∧ ∀ name, PySem.W.lookIn name od = some (mA name) := by
  obtain ⟨o, es, ep, ho, hd, hk, _, hm⟩ := n
  refine ⟨o, ho, fun name => ?_⟩
  have e := hm name
  unfold nsFind findBy at e
  rw [← Array.find?_toList] at e
  unfold PySem.W.lookIn
  rw [hd]
  dsimp only
  split
  · rename_i y q
    rw [q] at e
    exact congrArg some e
  · rename_i q
    rw [q] at e
    have a : es.toList.any (·.refKey) = false := by
      rw [List.any_eq_false]
      intro y hy
      obtain ⟨z, t, hkey⟩ := hk y (Array.mem_toList_iff.mp hy)
      simp [DictEntry.refKey, hkey]
    have a' : ¬ es.toList.any (·.refKey) = true := by rw [a]; exact Bool.false_ne_true
    rw [if_neg a']
    exact congrArg some e
theorem ObjM.look {h : Heap} {x dx C : Addr} {mA : Str → Option Value} (I : ObjM h x dx C mA) : ∃ od, PySem.W.InstAt h x (PySem.W.instObj C dx) C (some od) ∧ ∀ name, PySem.W.lookIn name od = some (mA name) :=
  let ⟨od, ho, hl⟩ := lookIn_ns I.ns
  ⟨od, ⟨I.obj, rfl, rfl, ho⟩, hl⟩
section
variable {prog : Program} {w : World} {A : Around} {E : Value → Shared → Prop} {s : Shared} {K : PySem.W.Frag} {x dx C f : Addr} {mA : Str → Option Value} {name : Str} {v : Value}
theorem get_map {expr : Bool} {Q : Value → Shared → Prop} (X : K.In s.heap) (I : ObjM s.heap x dx C mA) (hg : PySem.W.plainGet K C name = true) (hh : PySem.W.hasDictIn K C = true)
    (ha : PySem.W.findIn K (.ref C) name = some none) (hv : mA name = some v) (hv' : PySem.W.handedIn v = true) (h : Q v { s with toks := s.toks + 1 }) :
    wpAny (model prog w) A (getAttr (.ref x) name expr) Q E s := by
  obtain ⟨od, J, hl⟩ := I.look
  exact PySem.W.get_value X J (PySem.W.plainGet_of hg).1 (PySem.W.findObj_own hh ha rfl (by rw [hl, hv])) hv' h
theorem set_map {ns : List Str} {Q : Unit → Shared → Prop} (X : K.In s.heap) (I : ObjM s.heap x dx C mA)
    (hs : PySem.W.findIn K (.ref C) "__setattr__" = some (some (.builtin "object.__setattr__"))) (hp : PySem.W.plainOver K C = true) (ht : PySem.W.takerIn K C name = some none) (hh : PySem.W.hasDictIn K C = true)
    (hw : PySem.Within mA ns) (hsz : ns.length ≤ sizeLine)
    (h : ∀ h', ObjM h' x dx C (fun y => if y = name then some v else mA y) → Heap.SameBut dx s.heap h' → Q () { s with heap := h', toks := s.toks + 2 }) :
    wpAny (model prog w) A (setAttr (.ref x) name v) Q E s := by
  obtain ⟨od, J, hl⟩ := I.look
  refine PySem.W.set_plain X J hs (PySem.W.osa_open (s := { s with toks := s.toks + 1 }) (r := none) X J hp ht fun b => ?_)
  obtain ⟨cd, hc, hd'⟩ := PySem.W.any_some hh
  have hx : s.heap.get? x = some ⟨.ref C, some dx, .plain, #[]⟩ := I.obj
  refine wpAny_bind (wpAny_pure (wpAny_bind (wpAny_bind (wpAny_loadPart hx (wpAny_bind (PySem.W.Looks.here (s := { s with toks := s.toks + 1 }) (PySem.W.looks_clsIn X hc) ?_))))))
  rw [hd']
  refine wpAny_pure (a := some dx) (wpAny_bind (wpAny_pure (wpAny_bind ?_)))
  refine wpAny_nsSet1 (s := { s with toks := s.toks + 1 }) I.ns fun h' hn2 hs2 => ?_
  obtain ⟨oD, esD, epD, hoD, hdD, hcD⟩ := hn2.count (PySem.Within.cons name v hw)
  refine wpAny_bind (wpAny_lookBehind hoD (by rw [hdD]; exact pastItsLine_dict (Nat.le_trans hcD (by rw [List.length_cons]; omega))) ?_)
  exact wpAny_pure (h _ ⟨(hs2.2 _ (Ne.symm I.ne)).trans I.obj, hn2, I.ne⟩ hs2)
theorem make_map {R : Result → Shared → Prop} {vs : List Value} {kw : List (Str × Value)} (X : K.In s.heap) (hm : PySem.W.makesIn K C = true)
    (hi : PySem.W.findIn K (.ref C) "__init__" = some (some (.ref f))) (hf : PySem.W.typeIn K (.ref f) = some (.type "function"))
    (h : codeAny (model prog w) (A.under (.builtin "type.__call__" ⟨.ref C :: vs, kw⟩)) (.call (.ref f) ⟨.ref (s.heap.objs.size + 1) :: vs, kw⟩) (PySem.W.InitBack (s.heap.objs.size + 1) R)
      { s with heap := (s.heap.push PySem.W.emptyDict).push (PySem.W.instObj C s.heap.objs.size) }) :
    codeAny (model prog w) A (.call (.ref C) ⟨vs, kw⟩) R s := by
  obtain ⟨hh, g, d, t, os⟩ := s
  exact PySem.W.make_core (PySem.W.makes_of X hm) (PySem.W.looks_findIn X hi) (fun self => PySem.W.bind_fn X self hf) (.inl rfl) h
end
def putF (f : Str) (v : V) : List (Str × V) → List (Str × V)
  | [] => [(f, v)]
  | (g, x) :: r => if g = f then (g, v) :: r else (g, x) :: putF f v r
theorem lookup_putF (f g : Str) (v : V) : ∀ fs : List (Str × V), (putF f v fs).lookup g = if g = f then some v else fs.lookup g
  | [] => by
    show List.lookup g [(f, v)] = _
    by_cases h : g = f
    · have hb : (g == f) = true := beq_iff_eq.mpr h
      simp only [List.lookup, hb, if_pos h]
    · have hb : (g == f) = false := beq_eq_false_iff_ne.mpr h
      simp only [List.lookup, hb, if_neg h]
  | (k, x) :: r => by
    have ih := lookup_putF f g v r
    rw [show putF f v ((k, x) :: r) = (if k = f then (k, v) :: r else (k, x) :: putF f v r) from rfl]
    by_cases hk : k = f
    · rw [if_pos hk]
      by_cases h : g = k
      · have hb : (g == k) = true := beq_iff_eq.mpr h
        simp only [List.lookup, hb, if_pos (h.trans hk)]
      · have hb : (g == k) = false := beq_eq_false_iff_ne.mpr h
        simp only [List.lookup, hb, if_neg (fun e : g = f => h (e.trans hk.symm))]
    · rw [if_neg hk]
      by_cases h : g = k
      · have hb : (g == k) = true := beq_iff_eq.mpr h
        simp only [List.lookup, hb, if_neg (fun e : g = f => hk (h.symm.trans e))]
      · have hb : (g == k) = false := beq_eq_false_iff_ne.mpr h
        simp only [List.lookup, hb]
        exact ih
theorem keys_putF (f : Str) (v : V) : ∀ fs : List (Str × V), f ∈ (putF f v fs).map (·.1) ∧ ∀ g, g ∈ fs.map (·.1) → g ∈ (putF f v fs).map (·.1)
  | [] => ⟨by simp [putF], fun g h => by simp at h⟩
  | (k, x) :: r => by
    obtain ⟨i1, i2⟩ := keys_putF f v r
    rw [show putF f v ((k, x) :: r) = (if k = f then (k, v) :: r else (k, x) :: putF f v r) from rfl]
    by_cases hk : k = f
    · rw [if_pos hk]
      subst hk
      exact ⟨by simp, fun g h => by simpa using h⟩
    · rw [if_neg hk]
      refine ⟨?_, fun g h => ?_⟩
      · rw [List.map_cons]
        exact List.mem_cons_of_mem _ i1
      · rw [List.map_cons] at h ⊢
        rcases List.mem_cons.mp h with e | e
        · exact List.mem_cons.mpr (.inl e)
        · exact List.mem_cons_of_mem _ (i2 g e)
theorem length_putF (f : Str) (v : V) : ∀ fs : List (Str × V), (putF f v fs).length ≤ fs.length + 1
  | [] => by simp [putF]
  | (k, x) :: r => by
    have ih := length_putF f v r
    rw [show putF f v ((k, x) :: r) = (if k = f then (k, v) :: r else (k, x) :: putF f v r) from rfl]
    by_cases hk : k = f
    · rw [if_pos hk, List.length_cons, List.length_cons]; omega
    · rw [if_neg hk, List.length_cons, List.length_cons]; omega
theorem RelO.some_of {v : V} {o : Option Value} (r : RelO (some v) o) : ∃ u, o = some u ∧ RelV v u := by
  cases o with
  | none => exact (show False from r).elim
  | some u => exact ⟨u, rfl, r⟩
theorem handed_of {v : V} {u : Value} (r : RelV v u) : PySem.W.handedIn u = true := by
  cases v with
  | non => cases (show u = Value.none from r); rfl
  | bl b => cases (show u = Value.bool b from r); rfl
  | int i => obtain ⟨t, e⟩ := (show ∃ t, u = Value.int i t from r); cases e; rfl
  | str x => obtain ⟨t, e⟩ := (show ∃ t, u = Value.str x t from r); cases e; rfl
  | byt b => obtain ⟨t, e⟩ := (show ∃ t, u = Value.bytes b t from r); cases e; rfl
  | flt b => obtain ⟨t, e⟩ := (show ∃ t, u = Value.float b t from r); cases e; rfl
  | ref a => cases (show u = Value.ref a from r); rfl
  | ty n => cases (show u = Value.type n from r); rfl
section
variable {P : Program} {w : World} {H H' : Hp} {h h' : Heap} {a C dx : Addr} {fs fs' : List (Str × V)}
theorem ins_get (hok : HOk P w H h) (e : H a = some (.ins C dx fs)) : ∃ mA, ObjM h a dx C mA ∧ (∀ f, RelO (fs.lookup f) (mA f)) ∧ PySem.Within mA (fs.map (·.1)) ∧ fs.length ≤ 1000 ∧ H dx = some (.own a) := by
  obtain ⟨d, z, ne, ob, mA, n, r, q⟩ := (show ObjOk P w H h a (.ins C dx fs) from hok a _ e)
  exact ⟨mA, ⟨ob, n, ne⟩, r, q, z, d⟩
end
structure Cls (K : PySem.W.Frag) (C : Addr) : Prop where
  pg : PySem.W.plainGet K C Str.empty = true
  hd : PySem.W.hasDictIn K C = true
  po : PySem.W.plainOver K C = true
  sa : PySem.W.findIn K (.ref C) "__setattr__" = some (some (.builtin "object.__setattr__"))
theorem Cls.get {K : PySem.W.Frag} {C : Addr} (c : Cls K C) (f : Str) : PySem.W.plainGet K C f = true := c.pg
def NoAttr (K : PySem.W.Frag) (C : Addr) (f : Str) : Prop := PySem.W.findIn K (.ref C) f = some none
theorem NoAttr.taker {K : PySem.W.Frag} {C : Addr} {f : Str} (n : NoAttr K C f) : PySem.W.takerIn K C f = some none := by
  unfold PySem.W.takerIn
  rw [show PySem.W.findIn K (.ref C) f = some none from n]
  rfl
structure Con (K : PySem.W.Frag) (C : Addr) (f : Str) (v : V) (u : Value) : Prop where
  at_ : PySem.W.findIn K (.ref C) f = some (some u)
  rel : RelV v u
  get : PySem.W.specialIn K u "__get__" = some none
  cp : PySem.W.copiedNames.contains f = false
structure Meth (K : PySem.W.Frag) (C : Addr) (m : Str) (f : Addr) : Prop where
  at_ : PySem.W.findIn K (.ref C) m = some (some (.ref f))
  fn : PySem.W.isFn K (.ref f) = true
  kp : PySem.W.keepIn K (.ref f) = true
section
variable {X : Cx} {pins : List (Addr × Obj)} {σ : St} {H : Hp} {s : Shared} {a C dx : Addr} {fs : List (Str × V)} {f : Str} {v : V} {A : Around} {E : Value → Shared → Prop}
theorem getattr_ok {b : Bool} {Q : Value → Shared → Prop} (I : Inv X pins σ H s) (e : H a = some (.ins C dx fs)) (c : Cls X.K C) (n : NoAttr X.K C f) (l : fs.lookup f = some v)
    (h : ∀ u s', Inv X pins σ H s' → RelV v u → Q u s') : wpAny (model X.prog X.w) A (getAttr (.ref a) f b) Q E s := by
  obtain ⟨mA, O, r, _, _, _⟩ := ins_get I.hok e
  obtain ⟨u, hu, ru⟩ := RelO.some_of (v := v) (o := mA f) (by rw [← l]; exact r f)
  exact get_map I.kIn O (c.get f) c.hd n hu (handed_of ru) (h u _ (I.tok _) ru)
theorem setattr_ok {y : V} {u : Value} {Q : Unit → Shared → Prop} (I : Inv X pins σ H s) (e : H a = some (.ins C dx fs)) (c : Cls X.K C) (n : NoAttr X.K C f) (hl : fs.length < 1000) (ry : RelV y u)
    (h : ∀ s', Inv X pins σ (upd H a (.ins C dx (putF f y fs))) s' → Q () s') : wpAny (model X.prog X.w) A (setAttr (.ref a) f u) Q E s := by
  obtain ⟨mA, O, r, wi, _, ho⟩ := ins_get I.hok e
  have hz : (fs.map (·.1)).length ≤ sizeLine := by rw [List.length_map, sizeLine_eq]; omega
  refine set_map I.kIn O c.sa c.po n.taker c.hd wi hz fun h' O' sb => h _ ?_
  have hd : ∃ o, h'.get? dx = some o := let ⟨o, _, _, e', _⟩ := O'.ns; ⟨o, e'⟩
  refine I.write (x := a) (e := dx) (by rw [e]; exact True.intro) (.inr ho) (fun b q hb z => (sb.2 b hb).trans z) hd ?_
  refine ⟨by rw [upd_ne O.ne]; exact ho, ?_, O.ne, O'.obj, _, O'.ns, fun g => ?_, fun g hg => ?_⟩
  · have := length_putF f y fs; omega
  · show RelO ((putF f y fs).lookup g) (if g = f then some u else mA g)
    rw [lookup_putF]
    by_cases q : g = f
    · rw [if_pos q, if_pos q]; exact ry
    · rw [if_neg q, if_neg q]; exact r g
  · by_cases q : g = f
    · rw [q]; exact (keys_putF f y fs).1
    · refine (keys_putF f y fs).2 g (wi g fun z => hg ?_)
      show (if g = f then some u else mA g) = none
      rw [if_neg q]; exact z
theorem Inv.made (I : Inv X pins σ H s) : Inv X pins σ (upd (upd H s.heap.objs.size (.own (s.heap.objs.size + 1))) (s.heap.objs.size + 1) (.ins C s.heap.objs.size []))
    { s with heap := (s.heap.push PySem.W.emptyDict).push (PySem.W.instObj C s.heap.objs.size) } := by
  have e1 : (s.heap.push PySem.W.emptyDict).get? s.heap.objs.size = some PySem.W.emptyDict := Heap.get?_push_size s.heap rfl
  have e2 : ((s.heap.push PySem.W.emptyDict).push (PySem.W.instObj C s.heap.objs.size)).get? (s.heap.objs.size + 1) = some (PySem.W.instObj C s.heap.objs.size) := by
    have := Heap.get?_push_size (s.heap.push PySem.W.emptyDict) (o := PySem.W.instObj C s.heap.objs.size) rfl
    rwa [Heap.size_push] at this
  have e3 : (s.heap.push PySem.W.emptyDict).Ns s.heap.objs.size (fun _ => none) := ⟨PySem.W.emptyDict, #[], _, e1, rfl, (fun e he => absurd he (by simp)), fun _ => rfl⟩
  have I1 := I.laid (a := s.heap.objs.size) (o := .own (s.heap.objs.size + 1)) (h' := s.heap.push PySem.W.emptyDict) (t' := s.toks) (fun b u q => Heap.get?_push_of_some _ q) (Nat.le_refl _) ⟨_, e1⟩
  refine I1.laid (a := s.heap.objs.size + 1) (o := .ins C s.heap.objs.size []) (t' := s.toks) (fun b u q => Heap.get?_push_of_some _ q) (Nat.le_of_eq (Heap.size_push _ _)) ?_
  have ne : s.heap.objs.size ≠ s.heap.objs.size + 1 := Nat.ne_of_lt (Nat.lt_succ_self _)
  refine ⟨by rw [upd_ne ne, upd_same], Nat.zero_le _, ne, e2, fun _ => none, (Heap.Ns1.of_empty e3).at fun o q => Heap.get?_push_of_some _ q, fun _ => True.intro, fun y hy => absurd rfl hy⟩
theorem attr_of {prog : Program} {w : World} {env : Env} {e : Expr} {f : Str} {pos : Pos} {s : Shared} {Q : Value → Shared → Prop} (hb : attributeBase e f env (eval e env) = eval e env)
    (h : wpAny (model prog w) A (eval e env) (fun o s₁ => wpAny (model prog w) A (getAttr o f true) Q E s₁) E s) : wpAny (model prog w) A (eval (.Attribute e f pos) env) Q E s :=
  Attribute_any_ h (by rw [arm_eval_Attribute, hb])
end
def tFld (K : PySem.W.Frag) (ta : TE) (f : Str) : TE := fun σ H Q => ta σ H fun x H1 => ∃ a C dx fs v, x = .ref a ∧ H1 a = some (.ins C dx fs) ∧ Cls K C ∧ NoAttr K C f ∧ fs.lookup f = some v ∧ Q v H1
def tCon (K : PySem.W.Frag) (ta : TE) (f : Str) : TE := fun σ H Q => ta σ H fun x H1 => ∃ a C dx fs v u, x = .ref a ∧ H1 a = some (.ins C dx fs) ∧ Cls K C ∧ Con K C f v u ∧ fs.lookup f = none ∧ Q v H1
def sFld (K : PySem.W.Frag) (ta tv : TE) (f : Str) : TS := fun D σ H => tv σ H fun y H1 => ta σ H1 fun x H2 => ∃ a C dx fs, x = .ref a ∧ H2 a = some (.ins C dx fs) ∧ Cls K C ∧ NoAttr K C f ∧ fs.length < 1000 ∧
  D.nx σ (upd H2 a (.ins C dx (putF f y fs)))
def InOp (X : Cx) (op : Operator) (rd : V → V → Hp → VK → Prop) : Prop :=
  ∀ (pins : List (Addr × Obj)) (s : Shared) (σ : St) (H : Hp) (x y : V) (u v : Value) (Q : VK), Inv X pins σ H s → RelV x u → RelV y v → rd x y H Q → wpAny (model X.prog X.w) X.A (inplaceOp op u v) (EP X pins σ Q) X.xe s
def sFldAug (K : PySem.W.Frag) (ta tv : TE) (rd : V → V → Hp → VK → Prop) (f : Str) : TS := fun D σ H => ta σ H fun x H1 => ∃ a C dx fs v, x = .ref a ∧ H1 a = some (.ins C dx fs) ∧ Cls K C ∧ NoAttr K C f ∧ fs.lookup f = some v ∧
  tv σ H1 fun y H2 => rd v y H2 fun z H3 => ∃ dx' fs', H3 a = some (.ins C dx' fs') ∧ fs'.length < 1000 ∧ D.nx σ (upd H3 a (.ins C dx' (putF f z fs')))
section
variable {X : Cx} {o e value : Expr} {f : Str} {pos pos' tpos : Pos} {ta tv : TE}
theorem pe_fld (he : PE X e ta) (hb : attributeBase e f X.env (eval e X.env) = eval e X.env) : PE X (.Attribute e f pos) (tFld X.K ta f) := by
  intro pins s σ H Q I h
  refine attr_of hb (thn (he pins s σ H _ I h) fun u s1 ⟨x, H1, I1, rx, a, C, dx, fs, v, ex, ea, c, n, l, q⟩ => ?_)
  subst ex
  obtain rfl : u = Value.ref a := rx
  exact getattr_ok I1 ea c n l fun u' s2 I2 ru => ⟨v, H1, I2, ru, q⟩
theorem ps_fld (ha : PE X o ta) (hv : PE X value tv) (hs : swapsWith value (some (.Attribute o f pos')) pos.line X.env = pure false) : PS X (.Assign [.Attribute o f pos'] value pos) (sFld X.K ta tv f) := by
  intro pins s σ H D I h
  refine plainObj_wpAny_Assign_Attribute (thn (hv pins s σ H _ I h) fun u s1 ⟨y, H1, I1, ry, q⟩ => thn (ha pins s1 σ H1 _ I1 q) fun ov s2 ⟨x, H2, I2, rx, a, C, dx, fs, ex, ea, c, n, l, q2⟩ => ?_) hs
  subst ex
  obtain rfl : ov = Value.ref a := rx
  exact setattr_ok I2 ea c n l ry fun s3 I3 => ⟨σ, _, I3, q2⟩
def rAdd : V → V → Hp → VK → Prop := fun x y H Q => ∃ i j, x = .int i ∧ y = .int j ∧ Q (.int (i + j)) H
def rSub : V → V → Hp → VK → Prop := fun x y H Q => ∃ i j, x = .int i ∧ y = .int j ∧ Q (.int (i - j)) H
end
section
variable {X : Cx} {pins : List (Addr × Obj)} {σ : St} {H : Hp} {s : Shared} {A : Around} {E : Value → Shared → Prop} {Q : Value → Shared → Prop} {c : Value} {b : Bool}
inductive TyOf (K : PySem.W.Frag) (H : Hp) : V → Value → Prop where
  | non : TyOf K H .non (.type "NoneType")
  | bl (x : Bool) : TyOf K H (.bl x) (.type "bool")
  | int (i : Int) : TyOf K H (.int i) (.type "int")
  | str (x : Str) : TyOf K H (.str x) (.type "str")
  | flt (x : UInt64) : TyOf K H (.flt x) (.type "float")
  | lst {a : Addr} {xs : List V} (e : H a = some (.lst xs)) : TyOf K H (.ref a) (.type "list")
  | frz {a : Addr} {o : Obj} {xs : List V} (e : H a = some (.frz o (.lst xs))) : TyOf K H (.ref a) (.type "list")
  | tup {a : Addr} {xs : List V} (e : H a = some (.tup xs)) : TyOf K H (.ref a) (.type "tuple")
  | dK {a : Addr} {kvs : List (Key × V)} (e : H a = some (.dK kvs)) : TyOf K H (.ref a) (.type "dict")
  | dT {a : Addr} {kvs : List (List Key × V)} (e : H a = some (.dT kvs)) : TyOf K H (.ref a) (.type "dict")
  | ins {a C dx : Addr} {fs : List (Str × V)} (e : H a = some (.ins C dx fs)) (cl : Cls K C) (ha : PySem.W.findIn K (.ref C) "__class__" = some (some (.builtin "object.__class__")))
      (hn : PySem.W.specialIn K (.builtin "object.__class__") "__get__" = some (some (.builtin "getset_descriptor.__get__"))) (htk : PySem.W.takesIn K (.builtin "object.__class__") = some true)
      (hm : PySem.W.mroIn K C (.type "object") = some true) : TyOf K H (.ref a) (.ref C)
theorem isinst_ok {x : V} {u t : Value} (I : Inv X pins σ H s) (rx : RelV x u) (ty : TyOf X.K H x t) (e : PySem.W.kitOne X.K t c = some b) (h : ∀ tk, Q (.bool b) { s with toks := tk }) :
    wpAny (model X.prog X.w) A (call (.builtin "isinstance") [u, c]) Q E s := by
  cases ty with
  | non => cases (show u = Value.none from rx); exact PySem.W.kia_one PySem.W.kitx_none I.kIn True.intro e (fun z => nomatch z) h
  | bl y => cases (show u = Value.bool y from rx); exact PySem.W.kia_one PySem.W.kitx_bool I.kIn True.intro e (fun z => nomatch z) h
  | int i => obtain ⟨t, q⟩ := (show ∃ t, u = Value.int i t from rx); cases q; exact PySem.W.kia_one PySem.W.kitx_int I.kIn True.intro e (fun z => nomatch z) h
  | str y => obtain ⟨t, q⟩ := (show ∃ t, u = Value.str y t from rx); cases q; exact PySem.W.kia_one PySem.W.kitx_str I.kIn True.intro e (fun z => nomatch z) h
  | flt y => obtain ⟨t, q⟩ := (show ∃ t, u = Value.float y t from rx); cases q; exact PySem.W.kia_one PySem.W.kitx_float I.kIn True.intro e (fun z => nomatch z) h
  | @lst a xs ea =>
    cases (show u = Value.ref a from rx)
    obtain ⟨_, _, n, _, h1⟩ := (show ObjOk X.prog X.w H s.heap a (.lst xs) from I.hok a _ ea)
    exact PySem.W.kia_one PySem.W.kitx_list I.kIn ⟨_, h1, rfl⟩ e (fun z => nomatch z) h
  | @frz a ob xs ea =>
    cases (show u = Value.ref a from rx)
    obtain ⟨_, _, _, n, _, h1⟩ := (show ObjOk X.prog X.w H s.heap a (.frz ob (.lst xs)) from I.hok a _ ea)
    exact PySem.W.kia_one PySem.W.kitx_list I.kIn ⟨_, h1, rfl⟩ e (fun z => nomatch z) h
  | @tup a xs ea =>
    cases (show u = Value.ref a from rx)
    obtain ⟨_, _, _, p⟩ := (show ObjOk X.prog X.w H s.heap a (.tup xs) from I.hok a _ ea)
    obtain ⟨o, h1, h2, _⟩ := p
    exact PySem.W.kia_one PySem.W.kitx_tuple I.kIn ⟨o, h1, h2⟩ e (fun z => nomatch z) h
  | @dK a kvs ea =>
    cases (show u = Value.ref a from rx)
    obtain ⟨_, _, vs, _, p⟩ := (show ObjOk X.prog X.w H s.heap a (.dK kvs) from I.hok a _ ea)
    obtain ⟨o, es, ep, h1, h2, _⟩ := p
    exact PySem.W.kia_one PySem.W.kitx_dict I.kIn ⟨o, h1, h2.1⟩ e (fun z => nomatch z) h
  | @dT a kvs ea =>
    cases (show u = Value.ref a from rx)
    obtain ⟨_, _, xs, _, o, es, ep, h1, h2, _⟩ := (show ObjOk X.prog X.w H s.heap a (.dT kvs) from I.hok a _ ea)
    exact PySem.W.kia_one PySem.W.kitx_dict I.kIn ⟨o, h1, h2.1⟩ e (fun z => nomatch z) h
  | @ins a C dx fs ea cl ha hn htk hm =>
    cases (show u = Value.ref a from rx)
    obtain ⟨mA, O, _⟩ := ins_get I.hok ea
    obtain ⟨od, J, _⟩ := O.look
    exact PySem.W.kia_one (PySem.W.kitx_own (cl.get _) cl.hd ha hn htk hm) I.kIn J e (fun z => nomatch z) h
end
end L2
namespace L2
open PySem PySem.Spec PyProof.Rows
structure Room (k : Nat) (A : Around) : Prop where
  hd : A.handled = none
  dp : A.depth + 3 * k + 5 < recursionLimit
  un : A.units + 16 * k + 200 < cLine
theorem Room.mono {j k : Nat} {A : Around} (r : Room k A) (h : j ≤ k) : Room j A := ⟨r.hd, by have := r.dp; omega, by have := r.un; omega⟩
theorem Room.deeper {k : Nat} {A : Around} (r : Room (k + 1) A) (env : Env) : Room k (A.deeper env) :=
  ⟨r.hd, by have := r.dp; show A.depth + 1 + 3 * k + 5 < _; omega, by have := r.un; show A.units + 3 + 16 * k + 200 < _; omega⟩
theorem make_depth {A : Around} {C : Addr} {us : List Value} {kw : List (Str × Value)} : (A.under (.builtin "type.__call__" ⟨.ref C :: us, kw⟩)).depth = A.depth + 1 := by
  first | rfl | simp [Around.under, Code.weight, Code.isCreation, Code.isGuard, Code.isCaller, Code.frames, Code.isFrame, guardIds]
theorem make_units {A : Around} {C : Addr} {us : List Value} {kw : List (Str × Value)} : (A.under (.builtin "type.__call__" ⟨.ref C :: us, kw⟩)).units = A.units + 1 := by
  first | rfl | simp [Around.under, Code.cUnits, Code.frames, Code.isFrame]
theorem Room.make {k : Nat} {A : Around} (r : Room (k + 1) A) (C : Addr) (us : List Value) (kw : List (Str × Value)) : Room k (A.under (.builtin "type.__call__" ⟨.ref C :: us, kw⟩)) :=
  ⟨r.hd, by have := r.dp; rw [make_depth]; omega, by have := r.un; rw [make_units]; omega⟩
theorem Room.depth {k : Nat} {A : Around} (r : Room k A) : A.depth < recursionLimit := by have := r.dp; omega
theorem Room.units {k : Nat} {A : Around} (r : Room k A) : A.units + 64 < cLine := by have := r.un; omega
theorem Room.units0 {k : Nat} {A : Around} (r : Room k A) : A.units < cLine := by have := r.un; omega
def tNil : TA := fun _ H Q => Q [] H
def tCons (ta : TE) (tr : TA) : TA := fun σ H Q => ta σ H fun x H1 => tr σ H1 fun xs H2 => Q (x :: xs) H2
section
variable {X : Cx} {e : Expr} {es : List Expr} {te : TE} {t : TA} {pos : Pos}
theorem pa_nil : PA X [] tNil := fun _ _ _ _ H Q I h => Calls.spliced_nil ⟨[], H, I, .nil, h⟩
theorem pa_cons (ha : PE X e te) (hr : PA X es t) (hs : starEach (e :: es) X.env = (false, eval e X.env) :: starEach es X.env := by rfl) : PA X (e :: es) (tCons te t) := by
  intro pos pins s σ H Q I h
  rw [hs]
  show wpAny _ _ (spliced ((false, eval e X.env) :: backTo pos (starEach es X.env))) _ _ s
  refine Calls.spliced_cons (thn (ha pins s σ H _ I h) fun u s1 ⟨x, H1, I1, r1, q1⟩ => ?_)
  exact thn (hr pos pins s1 σ H1 _ I1 q1) fun us s2 ⟨xs, H2, I2, r2, q2⟩ => ⟨x :: xs, H2, I2, .cons r1 r2, q2⟩
def tTup (t : TA) : TE := fun σ H Q => t σ H fun xs H1 => xs.length ≤ sizeLine ∧ ∀ p, H1 p = none → Q (.ref p) (upd H1 p (.tup xs))
def tLst (t : TA) : TE := fun σ H Q => t σ H fun xs H1 => xs.length ≤ sizeLine ∧ ∀ p, H1 p = none → Q (.ref p) (upd H1 p (.lst xs))
theorem pe_tup {x1} (h : PA X es t) : PE X (.Tuple es x1 pos) (tTup t) := by
  intro pins s σ H Q I hq
  refine wpAny_Tuple_spliced (thn (h pos pins s σ H _ I hq) fun us s1 ⟨xs, H1, I1, r, z, q⟩ => ⟨by rw [← r.length]; exact z, ?_⟩)
  have hf : H1 s1.heap.objs.size = none := I1.hok.fresh (Nat.le_refl _)
  refine ⟨.ref s1.heap.objs.size, upd H1 s1.heap.objs.size (.tup xs), I1.laid (t' := s1.toks) (fun b u e => Heap.get?_push_of_some _ e) (Nat.le_refl _) ?_, rfl, q _ hf⟩
  exact ⟨z, us, r, ⟨_, Heap.get?_push_size _ rfl, rfl, _, rfl⟩⟩
theorem pe_lst (h : PA X es t) : PE X (.List es pos) (tLst t) := by
  intro pins s σ H Q I hq
  refine wpAny_List_spliced (thn (h pos pins s σ H _ I hq) fun us s1 ⟨xs, H1, I1, r, z, q⟩ => ⟨by rw [← r.length]; exact z, ?_⟩)
  have hf : H1 s1.heap.objs.size = none := I1.hok.fresh (Nat.le_refl _)
  refine ⟨.ref s1.heap.objs.size, upd H1 s1.heap.objs.size (.lst xs), I1.laid (t' := s1.toks) (fun b u e => Heap.get?_push_of_some _ e) (Nat.le_refl _) ?_, rfl, q _ hf⟩
  exact ⟨z, us, 0, r, Heap.get?_push_size _ rfl⟩
end
abbrev Sp := List V → Hp → VK → XK → Prop
abbrev CXT := List Env → Hp → Shared → XK → Value → Shared → Prop
structure Env0 (P : Program) (w : World) (K : PySem.W.Frag) (mg : Str → Option Value) (base : Heap) (A : Around) (outer : List Env) (s : Shared) (H : Hp) : Prop where
  frames : A.frames = some outer
  mod : Mod K mg base
  bs : ∀ b o, base.get? b = some o → s.heap.get? b = some o ∧ H b = none
  bsz : base.objs.size ≤ s.heap.objs.size
  funs : s.heap.FunFrames base outer
  frf : ∀ b ∈ frs outer, H b = none
  hok : HOk P w H s.heap
  bare : AllBare s.gens
def CE (outer : List Env) (P : Program) (w : World) (H : Hp) (s : Shared) (Q : VK) (u : Value) (s' : Shared) : Prop :=
  ∃ v H', s'.os = s.os ∧ AllBare s'.gens ∧ Un (frs outer) [] H H' s.heap s'.heap ∧ HOk P w H' s'.heap ∧ RelV v u ∧ Q v H'
def CR (CX : CXT) (outer : List Env) (P : Program) (w : World) (H : Hp) (s : Shared) (Q : VK) (E : XK) (r : Result) (s' : Shared) : Prop :=
  match r with
  | .ok (.ret u) => CE outer P w H s Q u s'
  | .ok _ => False
  | .error e => CX outer H s E e s'
structure FnOk (P : Program) (w : World) (K : PySem.W.Frag) (mg : Str → Option Value) (base : Heap) (CX : CXT) (k : Nat) (f : Addr) (fd : FuncData) (ps : List Str) (sp : Sp) : Prop where
  len : ∀ vs H Q E, sp vs H Q E → vs.length = ps.length
  run : ∀ (A : Around) (outer : List Env) (s : Shared) (H : Hp) (args : Args) (us : List Value) (vs : List V) (Q : VK) (E : XK), Room k A → Env0 P w K mg base A outer s H → BindsTo s fd args (ps.zip us) → Vals vs us → sp vs H Q E →
    codeAny (model P w) A (.call (.ref f) args) (CR CX outer P w H s Q E) s
theorem FnOk.mono {P : Program} {w : World} {K : PySem.W.Frag} {mg : Str → Option Value} {base : Heap} {CX : CXT} {j k : Nat} {f : Addr} {fd : FuncData} {ps : List Str} {sp : Sp} (F : FnOk P w K mg base CX j f fd ps sp) (h : j ≤ k) :
    FnOk P w K mg base CX k f fd ps sp := ⟨F.len, fun A outer s H args us vs Q E hr => F.run A outer s H args us vs Q E (hr.mono h)⟩
theorem FnOk.imp {P : Program} {w : World} {K : PySem.W.Frag} {mg : Str → Option Value} {base : Heap} {CX : CXT} {k : Nat} {f : Addr} {fd : FuncData} {ps : List Str} {sp sp' : Sp} (F : FnOk P w K mg base CX k f fd ps sp)
    (h : ∀ vs H Q E, sp' vs H Q E → sp vs H Q E) : FnOk P w K mg base CX k f fd ps sp' :=
  ⟨fun vs H Q E q => F.len vs H Q E (h _ _ _ _ q), fun A outer s H args us vs Q E hr he hb hv hs => F.run A outer s H args us vs Q E hr he hb hv (h _ _ _ _ hs)⟩
theorem Env0.make {P : Program} {w : World} {K : PySem.W.Frag} {mg : Str → Option Value} {base : Heap} {A : Around} {outer : List Env} {s : Shared} {H : Hp} (e : Env0 P w K mg base A outer s H) (C : Addr) (us : List Value) (kw : List (Str × Value)) :
    Env0 P w K mg base (A.under (.builtin "type.__call__" ⟨.ref C :: us, kw⟩)) outer s H := ⟨by first | exact e.frames | (simpa [Around.under, Code.envs, Code.isFrame, pushEnvs] using e.frames), e.mod, e.bs, e.bsz, e.funs, e.frf, e.hok, e.bare⟩
section
variable {X : Cx} {pins : List (Addr × Obj)} {σ : St} {H : Hp} {s s' : Shared}
theorem Inv.env0 (I : Inv X pins σ H s) : Env0 X.prog X.w X.K X.mg X.base X.A X.stack s H :=
  ⟨I.ok.frames, I.ok.mod, I.bs, Nat.le_trans I.ok.bsz I.sz, I.stack, I.stkFree, I.hok, I.bare⟩
theorem Inv.after {Q : VK} {u : Value} (I : Inv X pins σ H s) (h : CE X.stack X.prog X.w H s Q u s') : EP X pins σ Q u s' := by
  obtain ⟨v, H', os, bare, un, hok, r, q⟩ := h
  obtain ⟨hh, g, d, t, os'⟩ := s'
  obtain rfl : os' = s.os := os
  exact ⟨v, H', I.call (h' := hh) (g' := g) (d' := d) (t' := t) (ch := []) un hok bare (fun b z => absurd z (by simp)), r, q⟩
end
def tCall (sp : Sp) (dvs : List V) (E : XK) (t : TA) : TE := fun σ H Q => t σ H fun vs H1 => sp (vs ++ dvs) H1 Q E
def tMeth (C : Addr) (m : Str) (sp : Sp) (dvs : List V) (E : XK) (ta : TE) (t : TA) : TE := fun σ H Q => ta σ H fun x H1 => ∃ a dx fs, x = .ref a ∧ H1 a = some (.ins C dx fs) ∧ fs.lookup m = none ∧
  t σ H1 fun vs H2 => sp (x :: (vs ++ dvs)) H2 Q E
def tMake (C : Addr) (sp : Sp) (dvs : List V) (E : XK) (t : TA) : TE := fun σ H Q => t σ H fun vs H1 => ∀ x dx, H1 x = none → H1 dx = none → dx ≠ x →
  sp (.ref x :: (vs ++ dvs)) (upd (upd H1 dx (.own x)) x (.ins C dx [])) (fun v H2 => v = .non ∧ Q (.ref x) H2) E
def Binds (K : PySem.W.Frag) (fd : FuncData) (ps : List Str) (ds : List Value) : Prop :=
  ∀ (s : Shared) (us : List Value), K.In s.heap → (us ++ ds).length = ps.length → BindsTo s fd ⟨us, []⟩ (ps.zip (us ++ ds))
theorem Binds.all {K : PySem.W.Frag} {fd : FuncData} {ps : List Str} (h : ∀ us : List Value, us.length = ps.length → bindArgs fd ⟨us, []⟩ = pure (ps.zip us)) : Binds K fd ps [] := fun s us _ hl => by
  rw [List.append_nil] at hl ⊢
  exact .of_eq (h us hl)
def Passes (CX : CXT) (X : Cx) (E : XK) : Prop := ∀ (pins : List (Addr × Obj)) (σ : St) (H : Hp) (s : Shared) (e : Value) (s' : Shared), Inv X pins σ H s → CX X.stack H s E e s' → X.xe e s'
section
variable {X : Cx} {CX : CXT} {k : Nat} {f C : Addr} {fd : FuncData} {ps : List Str} {sp : Sp} {dvs : List V} {ds : List Value} {E : XK} {x m : Str} {p pos apos : Pos} {e o : Expr} {es : List Expr} {ta : TE} {t : TA}
theorem run_fn {pins : List (Addr × Obj)} {σ : St} {H : Hp} {s : Shared} {Q : VK} {us : List Value} {vs : List V} (F : FnOk X.prog X.w X.K X.mg X.base CX k f fd ps sp) (hr : Room k X.A) (hb : Binds X.K fd ps ds) (hd : Vals dvs ds) (hx : Passes CX X E)
    (I : Inv X pins σ H s) (r : Vals vs us) (h : sp (vs ++ dvs) H Q E) : wpAny (model X.prog X.w) X.A (call (.ref f) us) (EP X pins σ Q) X.xe s := by
  have r2 : Vals (vs ++ dvs) (us ++ ds) := r.append hd
  have hl : (us ++ ds).length = ps.length := by rw [← r2.length]; exact F.len _ _ _ _ h
  refine wpAny_call (codeAny_mono (F.run X.A X.stack s H ⟨us, []⟩ (us ++ ds) (vs ++ dvs) Q E hr I.env0 (hb s us I.kIn hl) r2 h) fun r s' hq => ?_)
  cases r with
  | error e => exact hx pins σ H s e s' I hq
  | ok fl =>
    cases fl with
    | ret u => exact I.after hq
    | next => exact False.elim hq
    | brk => exact False.elim hq
    | cont => exact False.elim hq
theorem pe_call (F : FnOk X.prog X.w X.K X.mg X.base CX k f fd ps sp) (hr : Room k X.A) (hg : Gl X x) (hm : X.mg x = some (.ref f)) (hk : PySem.W.keepIn X.K (.ref f) = true) (hb : Binds X.K fd ps ds) (hd : Vals dvs ds) (hx : Passes CX X E)
    (ha : PA X (e :: es) t) (hdb : (x == ("__debug__" : Str)) = false := by decide) (he : starEach (e :: es) X.env = (false, eval e X.env) :: starEach es X.env := by rfl) (hpl : (backTo pos (starEach es X.env)).any (·.1) = false := by rfl) :
    PE X (.Call (.Name x p) (e :: es) [] pos) (tCall sp dvs E t) := by
  intro pins s σ H Q I h
  refine wpAny_Call_Name_kw (ld_glob I hg hm ?_ hdb)
  refine PySem.W.callWith_K (h₀ := X.base) I.ok.mod.kin hk (thn (ha pos pins s σ H _ I h) fun us s1 ⟨vs, H1, I1, r, q⟩ => ⟨I1.kIn, ?_⟩) he hpl
  exact run_fn F hr hb hd hx I1 r q
structure Mk (K : PySem.W.Frag) (C f : Addr) : Prop where
  makes : PySem.W.makesIn K C = true
  init : PySem.W.findIn K (.ref C) "__init__" = some (some (.ref f))
  fn : PySem.W.isFn K (.ref f) = true
  kp : PySem.W.keepIn K (.ref C) = true
theorem run_make {pins : List (Addr × Obj)} {σ : St} {H : Hp} {s : Shared} {Q : VK} {us : List Value} {vs : List V} (M : Mk X.K C f) (F : FnOk X.prog X.w X.K X.mg X.base CX k f fd ps sp) (hr : Room (k + 1) X.A) (hb : Binds X.K fd ps ds) (hd : Vals dvs ds)
    (hx : Passes CX X E) (I : Inv X pins σ H s) (r : Vals vs us)
    (h : ∀ x dx, H x = none → H dx = none → dx ≠ x → sp (.ref x :: (vs ++ dvs)) (upd (upd H dx (.own x)) x (.ins C dx [])) (fun v H2 => v = .non ∧ Q (.ref x) H2) E) :
    wpAny (model X.prog X.w) X.A (call (.ref C) us) (EP X pins σ Q) X.xe s := by
  have hq := h (s.heap.objs.size + 1) s.heap.objs.size (I.hok.fresh (Nat.le_succ _)) (I.hok.fresh (Nat.le_refl _)) (Nat.ne_of_lt (Nat.lt_succ_self _))
  have I2 := Inv.made (C := C) I
  have r2 : Vals (V.ref (s.heap.objs.size + 1) :: (vs ++ dvs)) (Value.ref (s.heap.objs.size + 1) :: (us ++ ds)) := .cons rfl (r.append hd)
  have hl : (Value.ref (s.heap.objs.size + 1) :: us ++ ds).length = ps.length := by
    have e := r2.length
    rw [F.len _ _ _ _ hq] at e
    exact e.symm
  refine wpAny_call (make_map (f := f) I.kIn M.makes M.init (beq_iff_eq.mp M.fn) (codeAny_mono (F.run _ X.stack _ _ ⟨Value.ref (s.heap.objs.size + 1) :: us, []⟩ (Value.ref (s.heap.objs.size + 1) :: (us ++ ds)) _ _ E (hr.make C us [])
    (I2.env0.make C us []) (hb _ (Value.ref (s.heap.objs.size + 1) :: us) I2.kIn hl) r2 hq) fun r s' hq' => ?_))
  cases r with
  | error e => exact hx pins σ _ _ e s' I2 hq'
  | ok fl =>
    cases fl with
    | ret u =>
      obtain ⟨v, H', I3, rv, ev, q3⟩ := I2.after hq'
      subst ev
      exact ⟨rv, ⟨V.ref (s.heap.objs.size + 1), H', I3, rfl, q3⟩⟩
    | next => exact False.elim hq'
    | brk => exact False.elim hq'
    | cont => exact False.elim hq'
theorem pe_make (M : Mk X.K C f) (F : FnOk X.prog X.w X.K X.mg X.base CX k f fd ps sp) (hr : Room (k + 1) X.A) (hg : Gl X x) (hm : X.mg x = some (.ref C)) (hb : Binds X.K fd ps ds) (hd : Vals dvs ds) (hx : Passes CX X E)
    (ha : PA X (e :: es) t) (hdb : (x == ("__debug__" : Str)) = false := by decide) (he : starEach (e :: es) X.env = (false, eval e X.env) :: starEach es X.env := by rfl) (hpl : (backTo pos (starEach es X.env)).any (·.1) = false := by rfl) :
    PE X (.Call (.Name x p) (e :: es) [] pos) (tMake C sp dvs E t) := by
  intro pins s σ H Q I h
  refine wpAny_Call_Name_kw (ld_glob I hg hm ?_ hdb)
  refine PySem.W.callWith_K (h₀ := X.base) I.ok.mod.kin M.kp (thn (ha pos pins s σ H _ I h) fun us s1 ⟨vs, H1, I1, r, q⟩ => ⟨I1.kIn, ?_⟩) he hpl
  exact run_make M F hr hb hd hx I1 r q
end
def PK (X : Cx) (kws : List Keyword) (t : TA) : Prop :=
  ∀ (pos : Pos) (pins : List (Addr × Obj)) (s : Shared) (σ : St) (H : Hp) (Q : List V → Hp → Prop), Inv X pins σ H s → t σ H Q → wpAny (model X.prog X.w) X.A (evalAll ((backToKw pos (keywordEach kws X.env)).map (·.2))) (AP X pins σ Q) X.xe s
section
variable {X : Cx} {CX : CXT} {k : Nat} {f C : Addr} {fd : FuncData} {ps ks : List Str} {sp : Sp} {E : XK} {x m : Str} {p pos apos kpos : Pos} {e o : Expr} {es : List Expr} {kws : List Keyword} {te ta : TE} {t tk : TA} {nm : Option Str}
structure KBinds (K : PySem.W.Frag) (fd : FuncData) (ps ks : List Str) (g : List Value → List Value → List Value) (gV : List V → List V → List V) : Prop where
  to : ∀ (s : Shared) (us ws : List Value), K.In s.heap → (g us ws).length = ps.length → BindsTo s fd ⟨us, ks.zip ws⟩ (ps.zip (g us ws))
  rel : ∀ {vs : List V} {us : List Value} {zs : List V} {ws : List Value}, Vals vs us → Vals zs ws → Vals (gV vs zs) (g us ws)
def tCallK (sp : Sp) (gV : List V → List V → List V) (E : XK) (t tk : TA) : TE := fun σ H Q => t σ H fun vs H1 => tk σ H1 fun zs H2 => sp (gV vs zs) H2 Q E
variable {g : List Value → List Value → List Value} {gV : List V → List V → List V}
end
structure FnScope (N P : List Str) (sc : Scope) : Prop where
  kind : sc.kind = .function
  co : sc.isCoroutine = false
  gen : sc.isGenerator = false
  nd : N.Nodup
  pre : N.take P.length = P
  par : ∀ x ∈ P, sc.names.lookup x = some .local ∨ sc.names.lookup x = some .cell
  nofree : ∀ y ∈ sc.names, y.2 ≠ .free
theorem bindL_out {kindOf : Str → Option NameKind} {x : Str} : ∀ {binds : List (Str × Value)} {m : Str → Option Value}, (∀ v, (x, v) ∉ binds) → bindL kindOf binds m x = m x
  | [], _, _ => rfl
  | (n, v) :: r, m, h => by
    unfold bindL
    rw [bindL_out fun w hw => h w (List.mem_cons_of_mem _ hw)]
    split
    · have : x ≠ n := by rintro rfl; exact h v List.mem_cons_self
      simp [this]
    · rfl
theorem bindC_out {kindOf : Str → Option NameKind} {x : Str} : ∀ {binds : List (Str × Value)} {m : Str → Option Value}, (∀ v, (x, v) ∉ binds) → bindC kindOf binds m x = m x
  | [], _, _ => rfl
  | (n, v) :: r, m, h => by
    unfold bindC
    rw [bindC_out fun w hw => h w (List.mem_cons_of_mem _ hw)]
    split
    · rfl
    · have : x ≠ n := by rintro rfl; exact h v List.mem_cons_self
      simp [this]
theorem bindL_get {kindOf : Str → Option NameKind} {x : Str} {v : Value} : ∀ {P : List Str} {vs : List Value} {i : Nat} {m : Str → Option Value}, P.Nodup → P[i]? = some x → vs[i]? = some v → kindOf x = some .local →
    bindL kindOf (P.zip vs) m x = some v
  | [], _, _, _, _, h, _, _ => by simp at h
  | _ :: _, [], _, _, _, _, h, _ => by simp at h
  | p :: P, w :: vs, 0, m, nd, h1, h2, hk => by
    simp at h1 h2; subst h1; subst h2
    show bindL kindOf ((p, w) :: P.zip vs) m p = _
    unfold bindL
    rw [bindL_out fun v hv => (List.nodup_cons.mp nd).1 (List.of_mem_zip hv).1, if_pos hk]
    simp
  | p :: P, w :: vs, i + 1, m, nd, h1, h2, hk => by
    show bindL kindOf ((p, w) :: P.zip vs) m x = _
    unfold bindL
    exact bindL_get (i := i) (List.nodup_cons.mp nd).2 (by simpa using h1) (by simpa using h2) hk
theorem bindC_get {kindOf : Str → Option NameKind} {x : Str} {v : Value} : ∀ {P : List Str} {vs : List Value} {i : Nat} {m : Str → Option Value}, P.Nodup → P[i]? = some x → vs[i]? = some v → kindOf x ≠ some .local →
    bindC kindOf (P.zip vs) m x = some v
  | [], _, _, _, _, h, _, _ => by simp at h
  | _ :: _, [], _, _, _, _, h, _ => by simp at h
  | p :: P, w :: vs, 0, m, nd, h1, h2, hk => by
    simp at h1 h2; subst h1; subst h2
    show bindC kindOf ((p, w) :: P.zip vs) m p = _
    unfold bindC
    rw [bindC_out fun v hv => (List.nodup_cons.mp nd).1 (List.of_mem_zip hv).1, if_neg hk]
    simp
  | p :: P, w :: vs, i + 1, m, nd, h1, h2, hk => by
    show bindC kindOf ((p, w) :: P.zip vs) m x = _
    unfold bindC
    exact bindC_get (i := i) (List.nodup_cons.mp nd).2 (by simpa using h1) (by simpa using h2) hk
def start (N : List Str) (vs : List V) : St := vs.map some ++ List.replicate (N.length - vs.length) none
def cxOf (CX : CXT) (P : Program) (w : World) (K : PySem.W.Frag) (mg : Str → Option Value) (base : Heap) (N : List Str) (qual : Str) (scope : Scope) (f : Addr) (cd : Value) (A : Around) (outer : List Env) (s : Shared) (H : Hp) (E : XK) : Cx where
  prog := P
  w := w
  K := K
  mg := mg
  base := base
  A := A.deeper (envOfC qual scope s.heap.objs.size f cd)
  N := N
  s₀ := s
  H₀ := H
  env := envOfC qual scope s.heap.objs.size f cd
  outer := outer
  stack := envOfC qual scope s.heap.objs.size f cd :: outer
  ex := []
  calm := true
  fn := fun _ => true
  pn := []
  xe := fun e s' => wpAny (model P w) (A.deeper (envOfC qual scope s.heap.objs.size f cd)) (leaving (envOfC qual scope s.heap.objs.size f cd) e) (fun _ s'' => CX outer H s E e s'') (fun e' s'' => CX outer H s E e' s'') s'
theorem cell_has {sc : Scope} {n : Nat} {x : Str} (h : sc.names.lookup x = some .cell) : ∃ c, (cellsFrom n sc.names []).lookup x = some c := by
  have q := PySem.W.cellsFrom_some sc.names n [] (.inl h)
  exact Option.isSome_iff_exists.mp q
theorem inv_start {CX : CXT} {P : Program} {w : World} {K : PySem.W.Frag} {mg : Str → Option Value} {base : Heap} {N ps : List Str} {qual : Str} {scope : Scope} {f : Addr} {cd : Value} {A : Around} {outer : List Env} {s s1 : Shared} {H : Hp} {E : XK} {us : List Value} {vs : List V}
    (S : FnScope N ps scope) (hd : A.handled = none) (e0 : Env0 P w K mg base A outer s H) (hl : vs.length = ps.length) (r : Vals vs us)
    (x : InCallC s s.heap.objs.size (bindL (envOfC qual scope s.heap.objs.size f cd).kindOf (ps.zip us) fun _ => none) (cellsFrom (s.heap.objs.size + 1) scope.names []) (bindC (envOfC qual scope s.heap.objs.size f cd).kindOf (ps.zip us) fun _ => none) s1) :
    Inv (cxOf CX P w K mg base N qual scope f cd A outer s H E) [] (start N vs) H s1 := by
  have hpl : ps.length ≤ N.length := by have := congrArg List.length S.pre; rw [List.length_take] at this; omega
  obtain ⟨h1, tk, rfl, hk⟩ := x.done
  have noA : ∀ b : Addr, b ∉ (cxOf CX P w K mg base N qual scope f cd A outer s H E).ex := fun b z => absurd (show b ∈ ([] : List Addr) from z) (by simp)
  refine ⟨⟨e0.mod, S.kind, rfl, rfl, Nat.le_refl _, fun y z c h1 h2 => ?_, fun y hy => ?_, fun y c _ h => ?_, fun _ => hd, Around.frames_deeper e0.frames, .inr ⟨rfl, rfl⟩, fun b z => absurd z (noA b), e0.bs, e0.bsz, fun b _ _ => noA b, fun b z => absurd z (noA b), e0.funs, e0.frf⟩,
    rfl, e0.bare, Un.kept hk, ⟨_, x.toInCall.ns, fun i y v h1 h2 h3 => ?_⟩, fun y c h => ⟨_, x.cell y c h⟩, e0.hok.fresh (Nat.le_refl _), fun y c h => ?_, fun p hp => absurd (show p ∈ ([] : List (Addr × Obj)) from hp) (by simp), e0.hok.kept hk, ?_⟩
  · exact name_of_addr x.apart (PySem.mem_of_lookup h1) (PySem.mem_of_lookup h2)
  · have hy : scope.names.lookup y = some .cell ∨ scope.names.lookup y = some .free := hy
    rcases hy with hy | hy
    · exact cell_has hy
    · exact absurd rfl (S.nofree _ (PySem.mem_of_lookup hy))
  · exact Nat.le_of_lt (x.above y c (PySem.mem_of_lookup h))
  · have hi : i < vs.length := by
      unfold start at h2
      by_cases hi : i < vs.length
      · exact hi
      · rw [List.getElem?_append_right (by simpa using hi)] at h2
        rw [List.getElem?_replicate] at h2
        split at h2 <;> cases h2
    have ha : vs[i]? = some v := by
      unfold start at h2
      rw [List.getElem?_append_left (by simpa using hi), List.getElem?_map] at h2
      cases e : vs[i]? with
      | none => rw [e] at h2; cases h2
      | some a => rw [e] at h2; cases h2; rfl
    obtain ⟨u, hu, rv⟩ := r.get ha
    have hp : ps[i]? = some y := by
      rw [← S.pre, List.getElem?_take_of_lt (by omega)]; exact h1
    have ndP : ps.Nodup := by rw [← S.pre]; exact S.nd.sublist (List.take_sublist _ _)
    refine ⟨u, rv, ?_⟩
    rcases S.par y (List.mem_of_getElem? hp) with k | k
    · exact .inl ⟨k, bindL_get ndP hp hu k⟩
    · obtain ⟨c, e⟩ := cell_has (n := s.heap.objs.size + 1) k
      refine .inr ⟨.inl k, c, e, ?_⟩
      have q := x.cell y c e
      rw [bindC_get ndP hp hu (by show scope.names.lookup y ≠ _; rw [k]; decide)] at q
      exact q
  · exact e0.hok.fresh (Nat.le_of_lt (x.above y c (PySem.mem_of_lookup h)))
  · unfold start
    show _ = N.length
    rw [List.length_append, List.length_map, List.length_replicate]
    omega
theorem fn_of {CX : CXT} {P : Program} {w : World} {K : PySem.W.Frag} {mg : Str → Option Value} {base : Heap} {k : Nat} {f : Addr} {name qual : Str} {params : Arguments} {body : List Stmt} {scope : Scope} {dV kV doc pm cdv ct oc : Value} {an od : Option Addr}
    {osl : Array (Option Value)} {N ps : List Str} {sp : Sp} (lk : K.lookup f = some ⟨oc, od, .func (PySem.W.fnOf name qual params body scope dV kV doc pm an cdv ct), osl⟩) (hcd : PySem.W.codeIn K cdv qual = true) (S : FnScope N ps scope)
    (len : ∀ vs H Q E, sp vs H Q E → vs.length = ps.length)
    (hbody : ∀ (A : Around) (outer : List Env) (s : Shared) (H : Hp) (vs : List V) (Q : VK) (E : XK), Room k (A.deeper (envOfC qual scope s.heap.objs.size f cdv)) → sp vs H Q E →
      ∃ t, PSs (cxOf CX P w K mg base N qual scope f cdv A outer s H E) body t ∧ t { nx := fun _ H' => Q .non H', rt := Q } (start N vs) H) :
    FnOk P w K mg base CX (k + 1) f (PySem.W.fnOf name qual params body scope dV kV doc pm an cdv ct) ps sp := by
  refine ⟨len, fun A outer s H args us vs Q E hr e0 hb r hsp => ?_⟩
  have hl := len _ _ _ _ hsp
  have KX : K.In s.heap := e0.mod.kin.keeps fun b o e => (e0.bs b o e).1
  have lim : s.heap.NoLimit := e0.mod.nolimit.keeps fun b o e => (e0.bs b o e).1
  have hkind : ∀ y ∈ ps.zip us, scope.names.lookup y.1 = some .local ∨ (scope.names.lookup y.1 = some .cell ∧ ((cellsFrom (s.heap.objs.size + 1) scope.names []).lookup y.1).isSome = true) := fun ⟨n, v⟩ hy => by
    rcases S.par n (List.of_mem_zip hy).1 with q | q
    · exact .inl q
    · exact .inr ⟨q, PySem.W.cellsFrom_some _ _ _ (.inl q)⟩
  refine codeAny_call_function hr.depth (KX _ _ lk) rfl S.co S.gen rfl (PySem.W.codeRec_of KX hcd) (hb _ _ _ _ ?_)
  refine wpAny_newFunctionEnv_cells S.kind hkind fun env he s1 x => ?_
  subst he
  refine ⟨lim.keeps x.toInCall.keep, codeAny_func ?_⟩
  obtain ⟨t, ht, hq⟩ := hbody A outer s H vs Q E (hr.deeper _) hsp
  have I : Inv (cxOf CX P w K mg base N qual scope f cdv A outer s H E) [] (start N vs) H s1 := inv_start S hr.hd e0 hl r x
  refine wpAny_mono (ht [] s1 (start N vs) H _ I hq) (fun fl s' hs => ?_) fun e s' hs => hs
  have fin : ∀ {σ' : St} {H' : Hp} {v : V} {u : Value}, Inv (cxOf CX P w K mg base N qual scope f cdv A outer s H E) [] σ' H' s' → RelV v u → Q v H' → CE outer P w H s Q u s' :=
    fun {σ' H' v u} J rv q => ⟨v, H', J.os, J.bare, J.base, J.hok, rv, q⟩
  cases fl with
  | ret u =>
    obtain ⟨v, σ', H', J, rv, q⟩ := hs
    exact fin J rv q
  | next =>
    obtain ⟨σ', H', J, q⟩ := hs
    exact fin (v := V.non) (u := Value.none) J rfl q
  | brk =>
    obtain ⟨_, _, _, q⟩ := hs
    exact False.elim q
  | cont =>
    obtain ⟨_, _, _, q⟩ := hs
    exact False.elim q
end L2
namespace L2
open PySem PySem.Spec PyProof.Rows
section
variable {X : Cx} {x : Str} {p pos : Pos} {e : Expr} {es : List Expr} {t : TA} {id T : String} {r : List V → Hp → VK → Prop}
def tCB (r : List V → Hp → VK → Prop) (t : TA) : TE := fun σ H Q => t σ H fun vs H1 => r vs H1 Q
theorem pe_callB (hc : CallR X (.builtin id) r) (hg : Gl X x) (hm : X.mg x = none) (hv : bootBuiltins x = some (.builtin id)) (ha : PA X (e :: es) t) (hn : x ≠ "__name__" := by decide) (hdb : (x == ("__debug__" : Str)) = false := by decide)
    (he : starEach (e :: es) X.env = (false, eval e X.env) :: starEach es X.env := by rfl) (hpl : (backTo pos (starEach es X.env)).any (·.1) = false := by rfl) : PE X (.Call (.Name x p) (e :: es) [] pos) (tCB r t) := by
  intro pins s σ H Q I h
  refine wpAny_Call_Name_kw (ld_blt I hg hm hv ?_ hn hdb)
  exact PyProof.Rows.callWith_builtin1 (thn (ha pos pins s σ H _ I h) fun us s1 ⟨vs, H1, I1, r1, q1⟩ => hc pins s1 σ H1 vs us Q I1 r1 q1) he hpl
theorem pe_callTy (hc : CallR X (.type T) r) (hg : Gl X x) (hm : X.mg x = none) (hv : bootBuiltins x = some (.type T)) (ha : PA X (e :: es) t) (hn : x ≠ "__name__" := by decide) (hdb : (x == ("__debug__" : Str)) = false := by decide)
    (he : starEach (e :: es) X.env = (false, eval e X.env) :: starEach es X.env := by rfl) (hpl : (backTo pos (starEach es X.env)).any (·.1) = false := by rfl) : PE X (.Call (.Name x p) (e :: es) [] pos) (tCB r t) := by
  intro pins s σ H Q I h
  refine wpAny_Call_Name_kw (ld_blt I hg hm hv ?_ hn hdb)
  exact PyProof.Rows.callWith_type1 (thn (ha pos pins s σ H _ I h) fun us s1 ⟨vs, H1, I1, r1, q1⟩ => hc pins s1 σ H1 vs us Q I1 r1 q1) he hpl
end
end L2
namespace HT
open PySem PyProof.Rows
def lexLt : List Int → List Int → Bool
  | [], [] => false
  | [], _ :: _ => true
  | _ :: _, [] => false
  | x :: xs, y :: ys => if x = y then lexLt xs ys else decide (x < y)
section
open PySem.SeqAt
open PySem.AutoSeq1 (wpAny_loadPart')
open PySem.MeetsSeq PySem.MeetsSeq2 PySem.MeetsSeq3
end
section
variable {prog : Program} {w : World} {A : Around} {E : Value → Shared → Prop} {s : Shared}
def sIx (n d : Nat) : Option Int → Nat
  | none => d
  | some v => if v < 0 then (v + (n : Int)).toNat else min v.toNat n
theorem sIx_none (n d : Nat) : sIx n d none = d := rfl
theorem sIx_nat (n d k : Nat) : sIx n d (some (k : Int)) = min k n := by
  show (if (k : Int) < 0 then ((k : Int) + (n : Int)).toNat else min (k : Int).toNat n) = min k n
  rw [if_neg (by omega), Int.toNat_natCast]
theorem sIx_le (n d : Nat) (hd : d ≤ n) (o : Option Int) : sIx n d o ≤ n := by
  cases o with
  | none => exact hd
  | some v =>
    show (if v < 0 then (v + (n : Int)).toNat else min v.toNat n) ≤ n
    by_cases hv : v < 0
    · rw [if_pos hv]; omega
    · rw [if_neg hv]; exact Nat.min_le_right _ _
end
end HT
namespace L2
open PySem PySem.Spec PyProof.Rows
abbrev TO := St → Hp → (Option Int → Hp → Prop) → Prop
def PO (X : Cx) (e : Option Expr) (t : TO) : Prop :=
  ∀ (pins : List (Addr × Obj)) (s : Shared) (σ : St) (H : Hp) (Q : Option Int → Hp → Prop), Inv X pins σ H s → t σ H Q →
    wpAny (model X.prog X.w) X.A (evalPart e X.env) (fun u s' => ∃ o H', Inv X pins σ H' s' ∧ IsPart u o ∧ Q o H') X.xe s
def tNoPart : TO := fun _ H Q => Q none H
def tPart (t : TE) : TO := fun σ H Q => t σ H fun x H1 => ∃ i, x = .int i ∧ Q (some i) H1
section
variable {X : Cx} {e : Expr} {te : TE} {lo hi : Option Expr} {tl th : TO} {pos p2 : Pos}
theorem po_none : PO X none tNoPart := by
  intro pins s σ H Q I h
  rw [evalPart_none]
  exact wpAny_pure ⟨none, H, I, .none, h⟩
theorem po_some (h : PE X e te) : PO X (some e) (tPart te) := by
  intro pins s σ H Q I hw
  rw [evalPart_some]
  refine thn (h pins s σ H _ I hw) fun u s1 ⟨x, H1, I1, r1, q1⟩ => ?_
  obtain ⟨i, rfl, q⟩ := q1
  obtain ⟨t, rfl⟩ := r1
  exact ⟨some i, H1, I1, .int i t, q⟩
def SlR (X : Cx) (r : V → Option Int → Option Int → Hp → VK → Prop) : Prop :=
  ∀ (pins : List (Addr × Obj)) (s : Shared) (σ : St) (H : Hp) (x : V) (v vl vu : Value) (lo hi : Option Int) (sl : Addr) (Q : VK), Inv X pins σ H s → RelV x v → s.heap.IsSliceOf sl vl vu .none → IsPart vl lo → IsPart vu hi → r x lo hi H Q →
    ∃ T id, typeLookup (.type T) "__getitem__" = pure (some (.builtin id)) ∧ s.TypeIs v T ∧ wpAny (model X.prog X.w) X.A (getItem v (.ref sl)) (EP X pins σ Q) X.xe s
def tSl (r : V → Option Int → Option Int → Hp → VK → Prop) (te : TE) (tl th : TO) : TE := fun σ H Q => te σ H fun x H1 => tl σ H1 fun l H2 => th σ H2 fun u H3 => r x l u H3 Q
theorem pe_slice {r : V → Option Int → Option Int → Hp → VK → Prop} (hr : SlR X r) (he : PE X e te) (hl : PO X lo tl) (hu : PO X hi th) : PE X (.Subscript e (.Slice lo hi none p2) pos) (tSl r te tl th) := by
  intro pins s σ H Q I h
  refine Subscript_ (thn (he pins s σ H _ I h) fun v s1 ⟨x, H1, I1, r1, q1⟩ => ?_)
  refine wpAny_Slice (thn (hl pins s1 σ H1 _ I1 q1) fun vl s2 ⟨l, H2, I2, pl, q2⟩ => thn (hu pins s2 σ H2 _ I2 q2) fun vu s3 ⟨u, H3, I3, pu, q3⟩ => ?_)
  rw [evalPart_none]
  refine wpAny_pure ?_
  have I4 : Inv X pins σ H3 { s3 with heap := s3.heap.push { cls := .type "slice", data := .fields #[vl, vu, .none] } } := I3.kept (t' := s3.toks) fun b ob q => Heap.get?_push_of_some _ q
  obtain ⟨T, id, hT, ht, hg⟩ := hr pins { s3 with heap := s3.heap.push { cls := .type "slice", data := .fields #[vl, vu, .none] } } σ H3 x v vl vu l u s3.heap.objs.size Q I4 r1 (Heap.IsSliceOf.new ..) pl pu q3
  show wpAny (model X.prog X.w) X.A (subscriptTail e (.Slice lo hi none p2) v (.ref s3.heap.objs.size)) (EP X pins σ Q) X.xe { s3 with heap := s3.heap.push { cls := .type "slice", data := .fields #[vl, vu, .none] } }
  exact tail_any (ops := [.ref s3.heap.objs.size, v]) ht hT hg (by with_unfolding_all rfl)
def cutV (xs : List V) (lo hi : Option Int) : List V := (xs.drop (HT.sIx xs.length 0 lo)).take (HT.sIx xs.length xs.length hi - HT.sIx xs.length 0 lo)
theorem cutV_length (xs : List V) (lo hi : Option Int) : (cutV xs lo hi).length ≤ xs.length := by
  unfold cutV
  rw [List.length_take, List.length_drop]
  omega
def rSlT (K : PySem.W.Frag) : V → Option Int → Option Int → Hp → VK → Prop := fun x lo hi H Q => ∃ a xs, x = .ref a ∧ SqT K H a xs ∧
  ¬ (HT.sIx xs.length 0 lo = 0 ∧ HT.sIx xs.length xs.length hi = xs.length) ∧ ∀ p, H p = none → Q (.ref p) (upd H p (.tup (cutV xs lo hi)))
def rLtT (K : PySem.W.Frag) : R2 := fun x y H Q => ∃ a b ns ms, x = .ref a ∧ y = .ref b ∧ SqT K H a (ns.map V.int) ∧ SqT K H b (ms.map V.int) ∧ Q (.bl (HT.lexLt ns ms)) H
def rCatT (K : PySem.W.Frag) : R2 := fun x y H Q => ∃ a b xs ys, x = .ref a ∧ y = .ref b ∧ SqT K H a xs ∧ SqT K H b ys ∧ xs ≠ [] ∧ xs.length + ys.length ≤ sizeLine ∧
  (ys = [] → Q (.ref a) H) ∧ (ys ≠ [] → ∀ p, H p = none → Q (.ref p) (upd H p (.tup (xs ++ ys))))
end
end L2
namespace L2
open PySem PySem.Spec PyProof.Rows
def ixN (n : Nat) (i : Int) : Option Nat := if 0 ≤ i then (if i < n then some i.toNat else none) else if -(n : Int) ≤ i then some (i + n).toNat else none
def atI {α : Type} (xs : List α) (i : Int) : Option α := (ixN xs.length i).bind fun j => xs[j]?
theorem ixN_seq {n : Nat} {i : Int} {j : Nat} (h : ixN n i = some j) : seqIndex? i n = some j ∧ j < n ∧ -(n : Int) ≤ i ∧ i < n := by
  unfold ixN at h
  by_cases h0 : 0 ≤ i
  · rw [if_pos h0] at h
    by_cases h1 : i < n
    · rw [if_pos h1] at h
      have e : i.toNat = j := Option.some.inj h
      exact ⟨by rw [seqIndex_of h0 h1, e], by omega, by omega, h1⟩
    · rw [if_neg h1] at h; cases h
  · rw [if_neg h0] at h
    by_cases h1 : -(n : Int) ≤ i
    · rw [if_pos h1] at h
      have e : (i + n).toNat = j := Option.some.inj h
      exact ⟨by rw [seqIndex_neg (by omega) h1, e], by omega, h1, by omega⟩
    · rw [if_neg h1] at h; cases h
theorem atI_get {α : Type} {xs : List α} {i : Int} {v : α} (h : atI xs i = some v) : ∃ j, seqIndex? i xs.length = some j ∧ xs[j]? = some v ∧ j < xs.length ∧ -(xs.length : Int) ≤ i ∧ i < xs.length := by
  unfold atI at h
  cases e : ixN xs.length i with
  | none => rw [e] at h; cases h
  | some j =>
    rw [e] at h
    obtain ⟨h1, h2, h3, h4⟩ := ixN_seq e
    exact ⟨j, h1, h, h2, h3, h4⟩
theorem atI_nat {α : Type} {xs : List α} {j : Nat} {v : α} (h : xs[j]? = some v) : atI xs (j : Int) = some v := by
  have hj : j < xs.length := (List.getElem?_eq_some_iff.mp h).1
  have e : ixN xs.length (j : Int) = some j := by
    unfold ixN
    rw [if_pos (by omega), if_pos (by omega)]; simp
  unfold atI; rw [e]; exact h
def PlainIx (b : Expr) : Prop := ∀ o i, subscripted b false o i = operate [o, i] (getItem o i)
def IxR (X : Cx) (r : R2) : Prop :=
  ∀ (value slice : Expr) (pins : List (Addr × Obj)) (s : Shared) (σ : St) (H : Hp) (x y : V) (v u : Value) (Q : VK), Inv X pins σ H s → RelV x v → RelV y u → r x y H Q →
    subscripted slice false v u = operate [v, u] (getItem v u) → wpAny (model X.prog X.w) X.A (subscriptTail value slice v u) (EP X pins σ Q) X.xe s
def MtR (X : Cx) (id : String) (r : V → List V → Hp → VK → Prop) : Prop :=
  ∀ (pins : List (Addr × Obj)) (s : Shared) (σ : St) (H : Hp) (x : V) (xs : List V) (v : Value) (us : List Value) (Q : VK), Inv X pins σ H s → RelV x v → Vals xs us → r x xs H Q →
    wpAny (model X.prog X.w) X.A (call (.builtin id) (v :: us)) (EP X pins σ Q) X.xe s
section
variable {X : Cx} {a b : Expr} {ta tb : TE} {pos : Pos}
theorem pe_ix {r : R2} (hr : IxR X r) (ha : PE X a ta) (hb : PE X b tb) (hs : PlainIx b) : PE X (.Subscript a b pos) (tOp r ta tb) := by
  intro pins s σ H Q I h
  exact Subscript_ (binT ha hb I h fun v u s2 x y H2 I2 rx ry q => hr a b pins s2 σ H2 x y v u Q I2 rx ry q (hs _ _))
def rIxL (K : PySem.W.Frag) : R2 := fun x y H Q => ∃ p xs i v, x = .ref p ∧ y = .int i ∧ SqL K H p xs ∧ atI xs i = some v ∧ Q v H
def rIxT (K : PySem.W.Frag) : R2 := fun x y H Q => ∃ p xs i v, x = .ref p ∧ y = .int i ∧ SqT K H p xs ∧ atI xs i = some v ∧ Q v H
def rIxS : R2 := fun x y H Q => ∃ z i c, x = .str z ∧ y = .int i ∧ z.length ≤ sizeLine ∧ atI z.cps.toList i = some c ∧ Q (.str ⟨#[c]⟩) H
theorem ix_list : IxR X (rIxL X.K) := by
  intro value slice pins s σ H x y v u Q I rx ry h hs
  obtain ⟨p, xs, i, z, rfl, rfl, hq, he, q⟩ := h
  cases rx
  obtain ⟨t, rfl⟩ := ry
  obtain ⟨its, r, pl, hz⟩ := I.list hq
  obtain ⟨j, h1, h2, h3, h4, h5⟩ := atI_get he
  obtain ⟨w, ew, rw'⟩ := r.get h2
  have hl := r.length
  have hn := line63
  have fin : EP X pins σ Q w s := ⟨z, H, I, rw', q⟩
  by_cases h0 : 0 ≤ i
  · have hj : i.toNat = j := by
      rw [seqIndex_of h0 h5] at h1
      exact Option.some.inj h1
    exact item_listR pl.isList h0 (by omega) (by rw [hj]; simpa using ew) fin hs
  · have hj : (i + (its.toArray.size : Int)).toNat = j := by
      rw [seqIndex_neg (by omega) h4] at h1
      rw [List.size_toArray, ← hl]
      exact Option.some.inj h1
    exact subscriptTail_builtinR (x := w) pl.isList.typeIs slot_list_getitem.lookup
      (wpAny_getItem_list_neg (Q := fun r s' => r = w ∧ EP X pins σ Q r s') pl.isList (by omega) (by rw [List.size_toArray] <;> omega) (by omega) (by rw [hj]; simpa using ew) ⟨rfl, fin⟩) hs
theorem ix_tup : IxR X (rIxT X.K) := by
  intro value slice pins s σ H x y v u Q I rx ry h hs
  obtain ⟨p, xs, i, z, rfl, rfl, hq, he, q⟩ := h
  cases rx
  obtain ⟨t, rfl⟩ := ry
  obtain ⟨its, r, pl, hz⟩ := I.tuple hq
  obtain ⟨j, h1, h2, h3, h4, h5⟩ := atI_get he
  obtain ⟨w, ew, rw'⟩ := r.get h2
  have hl := r.length
  have hn := line63
  have fin : EP X pins σ Q w s := ⟨z, H, I, rw', q⟩
  exact subscriptTail_builtinR (x := w) pl.typeIs slot_tuple_getitem.lookup
    (getItem_tuple (j := j) (Q := fun r s' => r = w ∧ EP X pins σ Q r s') pl (by omega) (by omega) (by rw [List.size_toArray, ← hl]; exact h1) (by simpa using ew) ⟨rfl, fin⟩) hs
theorem ix_str : IxR X rIxS := by
  intro value slice pins s σ H x y v u Q I rx ry h hs
  obtain ⟨z, i, c, rfl, rfl, hz, he, q⟩ := h
  obtain ⟨t, rfl⟩ := rx
  obtain ⟨t', rfl⟩ := ry
  obtain ⟨j, h1, h2, h3, h4, h5⟩ := atI_get he
  have hl : z.cps.toList.length = z.length := by simp [Str.length]
  rw [hl] at h1 h4 h5
  have hn := line63
  exact tail_any (typeIs_str s z t) slot_str_getitem.lookup (getItem_str (c := c) (by
    have e1 : decide (i < -(2 ^ 63 : Int)) = false := decide_eq_false (by omega)
    have e2 : decide (i ≥ 2 ^ 63) = false := decide_eq_false (by omega)
    rw [e1, e2, Bool.or_false]) (by rw [h1]; simpa using h2) ⟨.str ⟨#[c]⟩, H, I.tok _, ⟨_, rfl⟩, q⟩) hs
def rIx (K : PySem.W.Frag) : R2 := fun x y H Q => rIxL K x y H Q ∨ rIxT K x y H Q ∨ rIxS x y H Q
def rSetL : V → V → V → Hp → (Hp → Prop) → Prop := fun o i v H Q => ∃ p xs k j, o = .ref p ∧ i = .int k ∧ H p = some (.lst xs) ∧ ixN xs.length k = some j ∧ Q (upd H p (.lst (xs.set j v)))
theorem slice_bounds (lo hi : Option Int) (n : Nat) : (sliceBounds lo hi none n).1 = ((HT.sIx n 0 lo : Nat) : Int) ∧ (sliceBounds lo hi none n).2.1 = ((HT.sIx n n hi : Nat) : Int) ∧ (sliceBounds lo hi none n).2.2 = 1 := by
  refine ⟨?_, ?_, rfl⟩
  · cases lo with
    | none => simp [sliceBounds, HT.sIx]
    | some i =>
      simp only [sliceBounds, HT.sIx, Option.getD_none, show (1 : Int) > 0 by decide, if_true]
      by_cases h : i < 0
      · simp only [h, if_true] <;> omega
      · simp only [h, if_false] <;> omega
  · cases hi with
    | none => simp [sliceBounds, HT.sIx]
    | some i =>
      simp only [sliceBounds, HT.sIx, Option.getD_none, show (1 : Int) > 0 by decide, if_true]
      by_cases h : i < 0
      · simp only [h, if_true] <;> omega
      · simp only [h, if_false] <;> omega
theorem slicePick_cut (its : List Value) (lo hi : Option Int) : slicePick its.toArray lo hi none = ((its.drop (HT.sIx its.length 0 lo)).take (HT.sIx its.length its.length hi - HT.sIx its.length 0 lo)).toArray := by
  obtain ⟨h1, h2, h3⟩ := slice_bounds lo hi its.toArray.size
  unfold slicePick
  rw [h1, h2, h3]
  simp only [sliceRange_one, pick_run, List.size_toArray] <;> rfl
def rSlL (K : PySem.W.Frag) : V → Option Int → Option Int → Hp → VK → Prop := fun x lo hi H Q => ∃ a xs, x = .ref a ∧ SqL K H a xs ∧ ∀ p, H p = none → Q (.ref p) (upd H p (.lst (cutV xs lo hi)))
theorem sl_list : SlR X (rSlL X.K) := by
  intro pins s σ H x v vl vu lo hi sl Q I rx hs pl pu h
  obtain ⟨a, xs, rfl, hx, q⟩ := h
  cases rx
  obtain ⟨its, r, ht, hz⟩ := I.list hx
  have hlen := r.length
  refine ⟨"list", _, slot_list_getitem.lookup, ht.isList.typeIs, ?_⟩
  refine wpAny_getItem_list_slice ht.isList hs pl pu .none (by simp) ?_ (by rw [List.size_toArray] <;> omega)
  rw [slicePick_cut, ← hlen]
  refine ⟨.ref s.heap.objs.size, _, I.laid (t' := s.toks) (o := .lst (cutV xs lo hi)) (fun b ob q => Heap.get?_push_of_some _ q) (Nat.le_refl _) ?_, rfl, q _ (I.hok.fresh (Nat.le_refl _))⟩
  exact ⟨Nat.le_trans (cutV_length xs lo hi) hz, _, 0, (r.drop (HT.sIx xs.length 0 lo)).take (HT.sIx xs.length xs.length hi - HT.sIx xs.length 0 lo), Heap.get?_push_size _ rfl⟩
def flatV : V → Bool
  | .non => true
  | .bl _ => true
  | .int _ => true
  | .str _ => true
  | _ => false
def eqV : V → V → Bool
  | .non, .non => true
  | .bl a, .bl b => a == b
  | .bl a, .int b => (if a then 1 else 0) == b
  | .int a, .bl b => a == (if b then 1 else 0)
  | .int a, .int b => a == b
  | .str a, .str b => a == b
  | _, _ => false
theorem eqAt_V {A : Around} {s : Shared} {y x : V} {u v : Value} (ry : RelV y u) (rx : RelV x v) (fy : flatV y = true) (fx : flatV x = true) : SeqAt.EqAt A s u v (eqV y x) := by
  cases y with
  | non =>
    cases ry
    cases x with
    | non => cases rx; exact SeqAt.EqAt.same _
    | bl b => cases rx; exact SeqAt.EqAt.none_bool b
    | int b => obtain ⟨t, rfl⟩ := rx; exact SeqAt.EqAt.none_int b t
    | str b => obtain ⟨t, rfl⟩ := rx; exact SeqAt.EqAt.none_str b t
    | _ => exact absurd (show false = true from fx) Bool.false_ne_true
  | bl a =>
    cases ry
    cases x with
    | non => cases rx; exact SeqAt.EqAt.bool_none a
    | bl b => cases rx; exact SeqAt.EqAt.bool_bool a b
    | int b => obtain ⟨t, rfl⟩ := rx; exact SeqAt.EqAt.bool_int a b t
    | str b => obtain ⟨t, rfl⟩ := rx; exact SeqAt.EqAt.bool_str a b t
    | _ => exact absurd (show false = true from fx) Bool.false_ne_true
  | int a =>
    obtain ⟨t', rfl⟩ := ry
    cases x with
    | non => cases rx; exact SeqAt.EqAt.int_none a t'
    | bl b => cases rx; exact SeqAt.EqAt.int_bool a t' b
    | int b => obtain ⟨t, rfl⟩ := rx; exact SeqAt.EqAt.int_int a t' b t
    | str b => obtain ⟨t, rfl⟩ := rx; exact SeqAt.EqAt.int_str a t' b t
    | _ => exact absurd (show false = true from fx) Bool.false_ne_true
  | str a =>
    obtain ⟨t', rfl⟩ := ry
    cases x with
    | non => cases rx; exact SeqAt.EqAt.str_none a t'
    | bl b => cases rx; exact SeqAt.EqAt.str_bool a t' b
    | int b => obtain ⟨t, rfl⟩ := rx; exact SeqAt.EqAt.str_int a t' b t
    | str b => obtain ⟨t, rfl⟩ := rx; exact SeqAt.EqAt.str_str a t' b t
    | _ => exact absurd (show false = true from fx) Bool.false_ne_true
  | _ => exact absurd (show false = true from fy) Bool.false_ne_true
def eqU (x : V) (u : Value) : Bool := match u with
  | .none => eqV .non x
  | .bool b => eqV (.bl b) x
  | .int i _ => eqV (.int i) x
  | .str z _ => eqV (.str z) x
  | _ => false
theorem eqU_of {x y : V} {u : Value} (r : RelV y u) (f : flatV y = true) : eqU x u = eqV y x := by
  cases y with
  | non => cases r; rfl
  | bl b => cases r; rfl
  | int i => obtain ⟨t, rfl⟩ := r; rfl
  | str z => obtain ⟨t, rfl⟩ := r; rfl
  | _ => exact absurd (show false = true from f) Bool.false_ne_true
theorem any_eqU {x : V} : ∀ {xs : List V} {us : List Value}, Vals xs us → xs.all flatV = true → us.any (eqU x) = xs.any fun y => eqV y x
  | _, _, .nil, _ => rfl
  | y :: xs, u :: us, .cons r t, f => by
    rw [List.all_cons, Bool.and_eq_true] at f
    rw [List.any_cons, List.any_cons, eqU_of r f.1, any_eqU t f.2]
theorem mem_eqAt {A : Around} {s : Shared} {x : V} {v : Value} (rx : RelV x v) (fx : flatV x = true) : ∀ {xs : List V} {us : List Value}, Vals xs us → xs.all flatV = true → ∀ u ∈ us, SeqAt.EqAt A s u v (eqU x u)
  | _, _, .nil, _ => fun u hu => by cases hu
  | y :: xs, u :: us, .cons r t, f => fun u' hu => by
    rw [List.all_cons, Bool.and_eq_true] at f
    rcases List.mem_cons.mp hu with rfl | hu
    · rw [eqU_of r f.1]; exact eqAt_V r rx f.1 fx
    · exact mem_eqAt rx fx t f.2 u' hu
def inV (x : V) (xs : List V) : Bool := xs.any fun y => eqV y x
def rIn (K : PySem.W.Frag) (neg : Bool) : R2 := fun x y H Q => ∃ p xs, y = .ref p ∧ (SqL K H p xs ∨ SqT K H p xs) ∧ flatV x = true ∧ xs.all flatV = true ∧ Q (.bl (if neg then !inV x xs else inV x xs)) H
theorem op_in_seq : OpR X (compareOp .In) (rIn X.K false) := by
  intro pins s σ H x y v u Q I rx ry h
  obtain ⟨p, xs, rfl, hq, fx, fs, q⟩ := h
  cases ry
  rcases hq with hq | hq
  · obtain ⟨its, r, pl, hz⟩ := I.list hq
    refine SeqAt.in_listAt (eqU x) pl.isList (fun w hw => mem_eqAt rx fx r fs w (by simpa using hw)) ⟨.bl _, H, I, rfl, ?_⟩
    rw [show its.toArray.any (eqU x) = its.any (eqU x) by simp, any_eqU r fs]
    exact q
  · obtain ⟨its, r, pl, hz⟩ := I.tuple hq
    refine SeqAt.in_tupleAt (eqU x) pl (fun w hw => mem_eqAt rx fx r fs w (by simpa using hw)) ⟨.bl _, H, I, rfl, ?_⟩
    rw [show its.toArray.any (eqU x) = its.any (eqU x) by simp, any_eqU r fs]
    exact q
theorem call_list_of : CallR X (.type "list") (fun xs H Q => ∃ p ys, xs = [.ref p] ∧ (SqL X.K H p ys ∨ SqT X.K H p ys) ∧ ∀ l, H l = none → Q (.ref l) (upd H l (.lst ys))) := by
  intro pins s σ H xs us Q I r h
  obtain ⟨p, ys, rfl, hq, q⟩ := h
  obtain ⟨u, rfl, rx⟩ := vals1 r
  cases rx
  have fin : ∀ (its : List Value), Vals ys its → ys.length ≤ sizeLine → ∀ (h' : Heap) (c' : Nat), (∀ b o', s.heap.get? b = some o' → h'.get? b = some o') →
      h'.get? s.heap.objs.size = some { cls := .type "list", dict := none, data := .seq its.toArray c', slots := #[] } → EP X pins σ Q (.ref s.heap.objs.size) { s with heap := h' } := fun its r' hz h' c' kp e =>
    ⟨.ref s.heap.objs.size, _, I.laid (t' := s.toks) kp (Nat.le_refl _) (show ObjOk X.prog X.w _ h' _ (.lst ys) from ⟨hz, its, c', r', e⟩), rfl, q _ (I.hok.fresh (Nat.le_refl _))⟩
  rcases hq with hq | hq
  · obtain ⟨its, r', pl, hz⟩ := I.list hq
    have hlen := r'.length
    obtain ⟨o, ho, hc, n, hd⟩ := pl.isList
    exact call_list_seq p (.inl rfl) ho hc hd (fun h' c' kp e => fin its r' hz h' c' kp e) (by simp only [List.size_toArray] <;> omega)
  · obtain ⟨its, r', pl, hz⟩ := I.tuple hq
    have hlen := r'.length
    obtain ⟨o, ho, hc, n, hd⟩ := pl
    exact call_list_seq p (.inr rfl) ho hc hd (fun h' c' kp e => fin its r' hz h' c' kp e) (by simp only [List.size_toArray] <;> omega)
def tyV (K : PySem.W.Frag) (T : String) (x : V) (H : Hp) : Prop := match x with
  | .str _ => T = "str"
  | .int _ => T = "int"
  | .ref p => (T = "list" ∧ ∃ xs, SqL K H p xs) ∨ (T = "tuple" ∧ ∃ o, K.lookup p = some o ∧ o.cls = .type "tuple" ∧ o.dict = none) ∨
      (T = "dict" ∧ ((∃ kvs, H p = some (.dK kvs)) ∨ ∃ kvs, H p = some (.dT kvs))) ∨ (T = "set" ∧ ∃ S n, H p = some (.set S n))
  | _ => False
theorem tyV_is {pins : List (Addr × Obj)} {σ : St} {H : Hp} {s : Shared} {T : String} {x : V} {v : Value} (I : Inv X pins σ H s) (r : RelV x v) (ty : tyV X.K T x H) :
    s.TypeIs v T ∧ ∀ a, v = .ref a → ∃ ob, s.heap.get? a = some ob ∧ ob.dict = none := by
  cases x with
  | str z =>
    obtain ⟨t, rfl⟩ := r
    cases (show T = "str" from ty)
    exact ⟨typeIs_str s z t, fun _ e => nomatch e⟩
  | int i =>
    obtain ⟨t, rfl⟩ := r
    cases (show T = "int" from ty)
    exact ⟨typeIs_int s i t, fun _ e => nomatch e⟩
  | ref p =>
    cases r
    rcases ty with ⟨rfl, xs, hq⟩ | ⟨rfl, o, hk, hc, hd⟩ | ⟨rfl, hk⟩ | ⟨rfl, S, n, hk⟩
    · obtain ⟨its, _, pl, _⟩ := I.list hq
      refine ⟨pl.isList.typeIs, fun a e => ?_⟩
      cases e
      obtain ⟨o, n, e, c, hd, _⟩ := pl
      exact ⟨o, e, hd⟩
    · refine ⟨⟨o, I.kIn p o hk, hc⟩, fun a e => ?_⟩
      cases e
      exact ⟨o, I.kIn _ o hk, hd⟩
    · have z : ∃ o, s.heap.get? p = some o ∧ o.ExactDict := by
        rcases hk with ⟨kvs, hk⟩ | ⟨kvs, hk⟩
        · obtain ⟨_, _, _, _, o, _, _, e, ex, _⟩ := I.hok p _ hk
          exact ⟨o, e, ex⟩
        · obtain ⟨_, _, _, _, o, _, _, e, ex, _⟩ := I.hok p _ hk
          exact ⟨o, e, ex⟩
      obtain ⟨o, e, ex⟩ := z
      refine ⟨⟨o, e, ex.1⟩, fun a e2 => ?_⟩
      cases e2
      exact ⟨o, e, ex.2.1⟩
    · obtain ⟨o, _, _, _, e, ex, _⟩ := I.hok p _ hk
      refine ⟨⟨o, e, ex.1⟩, fun a e2 => ?_⟩
      cases e2
      exact ⟨o, e, ex.2.1⟩
  | _ => exact False.elim ty
def tBM0 (K : PySem.W.Frag) (T : String) (r : V → List V → Hp → VK → Prop) (to : TE) : TE := fun σ H Q => to σ H fun x H1 => tyV K T x H1 ∧ r x [] H1 Q
def tBM (K : PySem.W.Frag) (T : String) (r : V → List V → Hp → VK → Prop) (to : TE) (t : TA) : TE := fun σ H Q => to σ H fun x H1 => tyV K T x H1 ∧ t σ H1 fun xs H2 => r x xs H2 Q
variable {o e : Expr} {es : List Expr} {to : TE} {t : TA} {name : Str} {apos cpos : Pos} {T id : String} {r : V → List V → Hp → VK → Prop}
theorem pe_bm0 (pa : PlainAttrs T) (slot : Slot T name id) (hty : typeOf (.builtin id) = pure (.type "method_descriptor")) (hm : MtR X id r) (ho : PE X o to)
    (hbase : attributeBase o name X.env (eval o X.env) = eval o X.env := by rfl) (hline : (apos.endLine == cpos.line) = true := by rfl) : PE X (.Call (.Attribute o name apos) [] [] cpos) (tBM0 X.K T r to) := by
  intro pins s σ H Q I h
  refine wpAny_Call_method0_late hbase hline (thn (ho pins s σ H _ I h) fun v s1 ⟨x, H1, I1, r1, ty, q1⟩ => ?_)
  obtain ⟨h1, h2⟩ := tyV_is I1 r1 ty
  exact ⟨T, id, pa, slot, hty, h1, h2, Calls.callWith_builtin rfl (PySem.evalArgs_none (hm pins s1 σ H1 x [] v [] Q I1 r1 .nil q1))⟩
theorem pe_bm (pa : PlainAttrs T) (slot : Slot T name id) (hty : typeOf (.builtin id) = pure (.type "method_descriptor")) (hm : MtR X id r) (ho : PE X o to) (ha : PA X (e :: es) t)
    (hbase : attributeBase o name X.env (eval o X.env) = eval o X.env := by rfl)
    (hfew : ((backTo cpos (starEach (e :: es) X.env)).all (fun x => !x.1) && (backToKw cpos (keywordEach [] X.env)).all (fun x => x.1.isSome)
      && decide ((e :: es).length + ([] : List Keyword).length + (if ([] : List Keyword).isEmpty then 0 else 1) < 30)) = true := by rfl)
    (hline : (apos.endLine == cpos.line) = true := by rfl) (hs : starEach (e :: es) X.env = (false, eval e X.env) :: starEach es X.env := by rfl) (hplain : (backTo cpos (starEach es X.env)).any (·.1) = false := by rfl) :
    PE X (.Call (.Attribute o name apos) (e :: es) [] cpos) (tBM X.K T r to t) := by
  intro pins s σ H Q I h
  refine wpAny_Call_method_late hbase hfew hline rfl (thn (ho pins s σ H _ I h) fun v s1 ⟨x, H1, I1, r1, ty, q1⟩ => ?_)
  obtain ⟨h1, h2⟩ := tyV_is I1 r1 ty
  refine ⟨T, id, pa, slot, hty, h1, h2, ?_⟩
  have hA := ha cpos pins s1 σ H1 _ I1 q1
  rw [hs] at hA ⊢
  refine Calls.callWith_builtin (by show (false || (backTo cpos (starEach es X.env)).any (·.1)) = false; rw [hplain] <;> rfl) (Calls.evalArgs_plain ?_)
  exact thn hA fun us s2 ⟨vs, H2, I2, r2, q2⟩ => hm pins s2 σ H2 x vs v us Q I2 r1 r2 q2
end
end L2
namespace L2
open PySem PySem.Spec PyProof.Rows
def MtM (X : Cx) (id : String) (r : V → List V → Hp → VK → Prop) : Prop :=
  ∀ (pins : List (Addr × Obj)) (s : Shared) (σ : St) (H : Hp) (x : V) (xs : List V) (v : Value) (us : List Value) (Q : VK), Inv X pins σ H s → RelV x v → Vals xs us → r x xs H Q →
    wpAny (model X.prog X.w) X.A (call (.builtin id) (v :: us)) (EP X pins σ Q) X.xe s
theorem Vals.one : ∀ {x : V} {us : List Value}, Vals [x] us → ∃ u, us = [u] ∧ RelV x u
  | _, _, .cons r .nil => ⟨_, rfl, r⟩
theorem Vals.zero : ∀ {us : List Value}, Vals [] us → us = []
  | _, .nil => rfl
theorem Vals.dropLast {xs : List V} {us : List Value} (h : Vals xs us) : Vals xs.dropLast us.dropLast := by
  induction h with
  | nil => exact .nil
  | cons r t ih =>
    cases t with
    | nil => exact .nil
    | cons q t' => exact .cons r ih
theorem Vals.reverse {xs : List V} {us : List Value} (h : Vals xs us) : Vals xs.reverse us.reverse := by
  induction h with
  | nil => exact .nil
  | cons r t ih => rw [List.reverse_cons, List.reverse_cons]; exact Vals.append ih (.cons r .nil)
theorem erase_last {α : Type} (l : List α) : l.eraseIdx (l.length - 1) = l.dropLast := by
  induction l with
  | nil => rfl
  | cons a r ih =>
    cases r with
    | nil => rfl
    | cons b r =>
      have e : (a :: b :: r).length - 1 = ((b :: r).length - 1) + 1 := by
        have h1 : (a :: b :: r).length = r.length + 2 := rfl
        have h2 : (b :: r).length = r.length + 1 := rfl
        omega
      rw [e, List.eraseIdx_cons_succ, ih]
      all_goals rfl
section
variable {X : Cx} {pins : List (Addr × Obj)} {σ : St} {H : Hp} {s : Shared} {l b : Addr} {xs ys zs : List V}
theorem Inv.lset {its its' : List Value} {n : Nat} {f : Array Value → Array Value} {t' : Nat} (I : Inv X pins σ H s) (hH : H l = some (.lst xs))
    (e : s.heap.get? l = some { cls := .type "list", data := .seq its.toArray n }) (hf : f its.toArray = its'.toArray) (hv : Vals ys its') (hz : ys.length ≤ sizeLine) :
    Inv X pins σ (upd H l (.lst ys)) { s with heap := s.heap.update l (Obj.mapSeq f), toks := t' } := by
  have q := PySem.IsL.update e f
  rw [hf] at q
  refine I.write (x := l) (e := l) (by rw [hH]; exact trivial) (.inl rfl) (fun b' u hb hu => (Heap.get?_update_other s.heap (Obj.mapSeq f) (Ne.symm hb)).trans hu) ⟨_, q⟩ ?_
  exact ⟨hz, its', _, hv, q⟩
theorem Inv.lnew {its : List Value} {t' : Nat} (I : Inv X pins σ H s) (hv : Vals ys its) (hz : ys.length ≤ sizeLine) :
    Inv X pins σ (upd H s.heap.objs.size (.lst ys)) { s with heap := s.heap.push { cls := .type "list", data := .seq its.toArray }, toks := t' } :=
  I.laid (fun _ _ q => Heap.get?_push_of_some _ q) (Nat.le_refl _) ⟨hz, its, 0, hv, Heap.get?_push_size _ rfl⟩
theorem Inv.fresh (I : Inv X pins σ H s) : H s.heap.objs.size = none := I.hok.fresh (Nat.le_refl _)
theorem Inv.lstM (I : Inv X pins σ H s) (hH : H l = some (.lst xs)) : xs.length ≤ sizeLine ∧ ∃ (its : List Value) (n : Nat), Vals xs its ∧ xs.length = its.length ∧ s.heap.get? l = some { cls := .type "list", data := .seq its.toArray n } := by
  obtain ⟨z, its, n, r, e⟩ := I.hok l _ hH
  exact ⟨z, its, n, r, r.length, e⟩
end
section
variable {X : Cx}
def rAppend : V → List V → Hp → VK → Prop := fun x vs H Q => ∃ l xs y, x = .ref l ∧ vs = [y] ∧ H l = some (.lst xs) ∧ xs.length < sizeLine ∧ Q .non (upd H l (.lst (xs ++ [y])))
theorem mt_append : MtM X "list.append" rAppend := by
  intro pins s σ H x vs v us Q I rx rv h
  obtain ⟨l, xs, y, rfl, rfl, hH, hz, q⟩ := h
  cases rx
  obtain ⟨u, rfl, ru⟩ := rv.one
  obtain ⟨z, its, n, r, hl, e⟩ := I.lstM hH
  refine call_meets F.slot_list_append ⟨_, e, rfl⟩ F.entry_list_append (F.args_list_append_2 _ _) (PySem.list_append l its.toArray n u (by rw [List.size_toArray]; omega)) ⟨e, ?_⟩
  refine ⟨.non, _, I.lset (its' := its ++ [u]) hH e (by simp) (r.append (.cons ru .nil)) ?_, rfl, q⟩
  rw [List.length_append, List.length_singleton]
  omega
def rExtend : V → List V → Hp → VK → Prop := fun x vs H Q => ∃ l b xs zs, x = .ref l ∧ vs = [.ref b] ∧ H l = some (.lst xs) ∧ H b = some (.lst zs) ∧ xs.length + zs.length ≤ sizeLine ∧ Q .non (upd H l (.lst (xs ++ zs)))
def rPop : V → List V → Hp → VK → Prop := fun x vs H Q => ∃ l xs y, x = .ref l ∧ vs = [] ∧ H l = some (.lst xs) ∧ xs[xs.length - 1]? = some y ∧ Q y (upd H l (.lst xs.dropLast))
theorem mt_pop : MtM X "list.pop" rPop := by
  intro pins s σ H x vs v us Q I rx rv h
  obtain ⟨l, xs, y, rfl, rfl, hH, hy, q⟩ := h
  cases rx
  have hus := rv.zero
  subst hus
  obtain ⟨z, its, n, r, hl, e⟩ := I.lstM hH
  obtain ⟨u, hu, ru⟩ := r.get hy
  have hy' : its.toArray[its.toArray.size - 1]? = some u := by
    show its.toArray[its.length - 1]? = some u
    rw [← Array.getElem?_toList, ← hl]
    exact hu
  refine call_meets F.slot_list_pop ⟨_, e, rfl⟩ F.entry_list_pop (F.args_list_pop_1 _) (MeetsSeq.list_pop_last l its.toArray n u hy' (by rw [List.size_toArray]; omega)) ⟨e, ?_⟩
  refine ⟨y, _, I.lset (its' := its.dropLast) hH e ?_ r.dropLast ?_, ru, q⟩
  · show its.toArray.eraseIdxIfInBounds (its.toArray.size - 1) = its.dropLast.toArray
    rw [List.size_toArray, List.eraseIdxIfInBounds_toArray, erase_last]
  · rw [List.length_dropLast]
    omega
def rPopAt : V → List V → Hp → VK → Prop := fun x vs H Q => ∃ l xs i k y, x = .ref l ∧ vs = [.int i] ∧ H l = some (.lst xs) ∧ -(2 ^ 63) ≤ i ∧ i < 2 ^ 63 ∧ seqIndex? i xs.length = some k ∧ xs[k]? = some y ∧ Q y (upd H l (.lst (xs.eraseIdx k)))
def rReverse : V → List V → Hp → VK → Prop := fun x vs H Q => ∃ l xs, x = .ref l ∧ vs = [] ∧ H l = some (.lst xs) ∧ Q .non (upd H l (.lst xs.reverse))
def rClear : V → List V → Hp → VK → Prop := fun x vs H Q => ∃ l xs, x = .ref l ∧ vs = [] ∧ H l = some (.lst xs) ∧ Q .non (upd H l (.lst []))
def rCat : R2 := fun x y H Q => ∃ l b xs zs, x = .ref l ∧ y = .ref b ∧ H l = some (.lst xs) ∧ H b = some (.lst zs) ∧ xs.length + zs.length ≤ sizeLine ∧ ∀ p, H p = none → Q (.ref p) (upd H p (.lst (xs ++ zs)))
def rRep : R2 := fun x y H Q => ∃ l k xs, x = .ref l ∧ y = .int k ∧ H l = some (.lst xs) ∧ -(2 ^ 63) ≤ k ∧ k < 2 ^ 63 ∧ xs.length * k.toNat ≤ sizeLine ∧
  ∀ p, H p = none → Q (.ref p) (upd H p (.lst (List.replicate k.toNat xs).flatten))
end
section
variable {prog : Program} {w : World} {A : Around} {E : Value → Shared → Prop} {s : Shared}
end
section
variable {X : Cx}
end
end L2
namespace L2
open PySem PySem.Spec PyProof.Rows
section
variable {κ : Type} [DecidableEq κ]
def valV (kvs : List (κ × V)) (k : κ) : Option V := (kvs.find? fun kv => decide (kv.1 = k)).map (·.2)
def putK (kvs : List (κ × V)) (k : κ) (v : V) : List (κ × V) :=
  if (kvs.any fun kv => decide (kv.1 = k)) = true then kvs.map (fun kv => if kv.1 = k then (kv.1, v) else kv) else kvs ++ [(k, v)]
def dropK (kvs : List (κ × V)) (k : κ) : List (κ × V) := kvs.filter fun kv => decide (kv.1 ≠ k)
theorem valV_pos {p : κ × V} {r : List (κ × V)} {k : κ} (e : p.1 = k) : valV (p :: r) k = some p.2 := by simp [valV, List.find?_cons, e]
theorem valV_neg {p : κ × V} {r : List (κ × V)} {k : κ} (e : ¬ p.1 = k) : valV (p :: r) k = valV r k := by simp [valV, List.find?_cons, e]
theorem valV_any (k : κ) : ∀ kvs : List (κ × V), (kvs.any fun kv => decide (kv.1 = k)) = (valV kvs k).isSome
  | [] => rfl
  | p :: r => by
    rw [List.any_cons]
    by_cases e : p.1 = k
    · simp only [valV_pos e, decide_eq_true e, Bool.true_or, Option.isSome_some]
    · rw [valV_neg e, decide_eq_false e, Bool.false_or]; exact valV_any k r
theorem length_putK (kvs : List (κ × V)) (k : κ) (v : V) : (putK kvs k v).length ≤ kvs.length + 1 := by
  unfold putK
  split
  · rw [List.length_map]; omega
  · rw [List.length_append, List.length_cons, List.length_nil]; omega
theorem putK_new {kvs : List (κ × V)} {k : κ} (v : V) (h : valV kvs k = none) : putK kvs k v = kvs ++ [(k, v)] := by
  unfold putK
  rw [valV_any, h]
  exact if_neg (by decide)
theorem RelO.isSome_eq {o : Option V} {u : Option Value} (r : RelO o u) : o.isSome = u.isSome := by
  cases o with
  | none => cases u with
    | none => rfl
    | some _ => exact (show False from r).elim
  | some _ => cases u with
    | none => exact (show False from r).elim
    | some _ => rfl
theorem KV.val {kvs : List (κ × V)} {vs : List (κ × Value)} (r : KV kvs vs) (k : κ) : RelO (valV kvs k) (valueAt vs k) := by
  unfold KV at r
  induction r with
  | nil => exact True.intro
  | @cons p q ps qs h t ih =>
    obtain ⟨h1, h2⟩ := h
    by_cases e : p.1 = k
    · have e' : q.1 = k := h1.symm.trans e
      have b : valueAt (q :: qs) k = some q.2 := by simp [valueAt, List.find?_cons, e']
      rw [valV_pos e, b]; exact h2
    · have e' : ¬ q.1 = k := fun z => e (h1.trans z)
      have b : valueAt (q :: qs) k = valueAt qs k := by simp [valueAt, List.find?_cons, e']
      rw [valV_neg e, b]; exact ih
theorem KV.any {kvs : List (κ × V)} {vs : List (κ × Value)} (r : KV kvs vs) (k : κ) : (kvs.any fun kv => decide (kv.1 = k)) = vs.any fun kv => decide (kv.1 = k) := by
  unfold KV at r
  induction r with
  | nil => rfl
  | cons h t ih => rw [List.any_cons, List.any_cons, ih, h.1]
theorem KV.repl {kvs : List (κ × V)} {vs : List (κ × Value)} (r : KV kvs vs) (k : κ) {y : V} {u : Value} (ry : RelV y u) :
    KV (kvs.map fun kv => if kv.1 = k then (kv.1, y) else kv) (vs.map fun kv => if kv.1 = k then (kv.1, u) else kv) := by
  unfold KV at r ⊢
  induction r with
  | nil => exact .nil
  | @cons p q ps qs h t ih =>
    rw [List.map_cons, List.map_cons]
    refine .cons ?_ ih
    obtain ⟨h1, h2⟩ := h
    by_cases e : p.1 = k
    · rw [if_pos e, if_pos (h1.symm.trans e)]; exact ⟨h1, ry⟩
    · rw [if_neg e, if_neg (fun z => e (h1.trans z))]; exact ⟨h1, h2⟩
theorem KV.put {kvs : List (κ × V)} {vs : List (κ × Value)} (r : KV kvs vs) (k : κ) {y : V} {u : Value} (ry : RelV y u) : KV (putK kvs k y) (stored vs k u) := by
  unfold putK stored
  rw [r.any k]
  by_cases e : (vs.any fun kv => decide (kv.1 = k)) = true
  · rw [if_pos e, if_pos e]; exact r.repl k ry
  · rw [if_neg e, if_neg e]; exact Paired.snoc r ⟨rfl, ry⟩
theorem KV.length {kvs : List (κ × V)} {vs : List (κ × Value)} (r : KV kvs vs) : kvs.length = vs.length := Paired.length r
end
theorem kV_is {P : Program} {w : World} {k : Key} {u : Value} (r : RelV (kV k) u) : (mixKind P w).is k u = true := by
  cases k with
  | inl i => obtain ⟨t, e⟩ := (show ∃ t, u = Value.int i t from r); subst e; exact mixKind_int P w i t
  | inr x => obtain ⟨t, e⟩ := (show ∃ t, u = Value.str x t from r); subst e; exact mixKind_str P w x t
theorem items_are {P : Program} {w : World} : ∀ {ks : List Key} {us : List Value}, Vals (ks.map kV) us → ItemsAre (mixKind P w) ks us
  | [], _, r => by rw [List.map_nil] at r; cases r; exact .nil
  | k :: ks, _, r => by
    rw [List.map_cons] at r
    cases r with
    | cons h t => exact .cons (kV_is h) (items_are t)
abbrev KT (H : Hp) : List (List Key × V) → List (List Key × Addr × Value) → Prop := Paired fun p q => p.1 = q.1 ∧ H q.2.1 = some (.tup (p.1.map kV)) ∧ RelV p.2 q.2.2
theorem KT.val {H : Hp} {kvs : List (List Key × V)} {xs : List (List Key × Addr × Value)} (r : KT H kvs xs) (k : List Key) : RelO (valV kvs k) ((atKey xs k).map (·.2)) := by
  induction r with
  | nil => exact True.intro
  | @cons p q ps qs h t ih =>
    obtain ⟨h1, _, h2⟩ := h
    by_cases e : p.1 = k
    · have e' : q.1 = k := h1.symm.trans e
      have b : atKey (q :: qs) k = some q.2 := by simp [atKey, List.find?_cons, e']
      rw [valV_pos e, b]; exact h2
    · have e' : ¬ q.1 = k := fun z => e (h1.trans z)
      have b : atKey (q :: qs) k = atKey qs k := by simp [atKey, List.find?_cons, e']
      rw [valV_neg e, b]; exact ih
theorem KT.repl {H : Hp} {kvs : List (List Key × V)} {xs : List (List Key × Addr × Value)} (r : KT H kvs xs) (k : List Key) {y : V} {u : Value} (ry : RelV y u) :
    KT H (kvs.map fun kv => if kv.1 = k then (kv.1, y) else kv) (xs.map (putAt k u)) := by
  induction r with
  | nil => exact .nil
  | @cons p q ps qs h t ih =>
    rw [List.map_cons, List.map_cons]
    refine .cons ?_ ih
    obtain ⟨h1, h2, h3⟩ := h
    unfold putAt
    by_cases e : p.1 = k
    · rw [if_pos e, if_pos (h1.symm.trans e)]; exact ⟨h1, h2, ry⟩
    · rw [if_neg e, if_neg (fun z => e (h1.trans z))]; exact ⟨h1, h2, h3⟩
theorem KT.put {H : Hp} {kvs : List (List Key × V)} {xs : List (List Key × Addr × Value)} (r : KT H kvs xs) (k : List Key) {b : Addr} {y : V} {u : Value} (hb : H b = some (.tup (k.map kV))) (ry : RelV y u) :
    KT H (putK kvs k y) (storedH xs k b u) := by
  have e : (kvs.any fun kv => decide (kv.1 = k)) = (atKey xs k).isSome := by
    rw [valV_any, (r.val k).isSome_eq, Option.isSome_map]
  unfold putK storedH
  rw [e]
  by_cases q : (atKey xs k).isSome = true
  · rw [if_pos q, if_pos q]; exact r.repl k ry
  · rw [if_neg q, if_neg q]; exact Paired.snoc r ⟨rfl, hb, ry⟩
theorem KT.keeps {H H' : Hp} {kvs : List (List Key × V)} {xs : List (List Key × Addr × Value)} (r : KT H kvs xs) (ht : ∀ b ys, H b = some (.tup ys) → H' b = some (.tup ys)) : KT H' kvs xs :=
  Paired.mapP r fun _ _ z => ⟨z.1, ht _ _ z.2.1, z.2.2⟩
section
variable {P : Program} {w : World} {H : Hp} {h : Heap} {a : Addr}
theorem rd_of {u : HO} (ok : HOk P w H h) (e : Rd H a u) : ObjOk P w H h a u := e.ok ok
theorem dk_rd {kvs : List (Key × V)} (ok : HOk P w H h) (e : Rd H a (.dK kvs)) : kvs.length ≤ sizeLine ∧ (a == sysModules) = false ∧ ∃ vs, KV kvs vs ∧ h.DictOf (mixKind P w) a vs :=
  show ObjOk P w H h a (.dK kvs) from rd_of ok e
theorem dk_of {kvs : List (Key × V)} (ok : HOk P w H h) (e : H a = some (.dK kvs)) : kvs.length ≤ sizeLine ∧ (a == sysModules) = false ∧ ∃ vs, KV kvs vs ∧ h.DictOf (mixKind P w) a vs := dk_rd ok (.inl e)
theorem key_of {ks : List Key} (ok : HOk P w H h) (e : H a = some (.tup (ks.map kV))) : (tupleKind (mixKind P w)).is h ks a := by
  obtain ⟨_, its, r, o, h1, h2, n, h3⟩ := (show ObjOk P w H h a (.tup (ks.map kV)) from ok a _ e)
  exact ⟨o, its.toArray, n, h1, h2, h3, by simpa using items_are r⟩
theorem dt_rd {kvs : List (List Key × V)} (ok : HOk P w H h) (e : Rd H a (.dT kvs)) : kvs.length ≤ sizeLine ∧ (a == sysModules) = false ∧
    ∃ xs, KT H kvs xs ∧ h.DictOfH (tupleKind (mixKind P w)) a xs := by
  obtain ⟨z, y, xs, r, o, es, ep, h1, h2, h3, h4, h5⟩ := (show ObjOk P w H h a (.dT kvs) from rd_of ok e)
  refine ⟨z, y, xs, r, o, es, ep, h1, h2, h3, h4, fun x hx => ?_, h5⟩
  have all : ∀ {l : List (List Key × V)} {m : List (List Key × Addr × Value)}, KT H l m → ∀ x ∈ m, (tupleKind (mixKind P w)).is h x.1 x.2.1 := by
    intro l m q
    induction q with
    | nil => intro x hx; exact nomatch hx
    | @cons p q ps qs hq t ih =>
      intro x hx
      rcases List.mem_cons.mp hx with e | hx
      · subst e
        exact key_of ok (by rw [← hq.1]; exact hq.2.1)
      · exact ih x hx
  exact all r x hx
theorem dt_of {kvs : List (List Key × V)} (ok : HOk P w H h) (e : H a = some (.dT kvs)) : kvs.length ≤ sizeLine ∧ (a == sysModules) = false ∧
    ∃ xs, KT H kvs xs ∧ h.DictOfH (tupleKind (mixKind P w)) a xs := dt_rd ok (.inl e)
end
def DGet (H : Hp) (a : Addr) (y : V) (r : Option V) : Prop :=
  (∃ kvs k, Rd H a (.dK kvs) ∧ y = kV k ∧ r = valV kvs k) ∨ ∃ kvs k b, Rd H a (.dT kvs) ∧ y = .ref b ∧ H b = some (.tup (k.map kV)) ∧ r = valV kvs k
def DPut (H : Hp) (a : Addr) (y v : V) (H' : Hp) : Prop :=
  (∃ kvs k, H a = some (.dK kvs) ∧ y = kV k ∧ kvs.length < sizeLine ∧ H' = upd H a (.dK (putK kvs k v))) ∨
  ∃ kvs k b, H a = some (.dT kvs) ∧ y = .ref b ∧ H b = some (.tup (k.map kV)) ∧ kvs.length < sizeLine ∧ H' = upd H a (.dT (putK kvs k v))
theorem DGet.t {H : Hp} {a b : Addr} {kvs : List (List Key × V)} {k : List Key} (e : H a = some (.dT kvs)) (eb : H b = some (.tup (k.map kV))) : DGet H a (.ref b) (valV kvs k) := .inr ⟨kvs, k, b, .inl e, rfl, eb, rfl⟩
theorem DPut.t {H : Hp} {a b : Addr} {kvs : List (List Key × V)} {k : List Key} {v : V} (e : H a = some (.dT kvs)) (eb : H b = some (.tup (k.map kV))) (hl : kvs.length < sizeLine) :
    DPut H a (.ref b) v (upd H a (.dT (putK kvs k v))) := .inr ⟨kvs, k, b, e, rfl, eb, hl, rfl⟩
section
variable {X : Cx} {pins : List (Addr × Obj)} {σ : St} {H : Hp} {s : Shared} {a : Addr} {y v : V} {u r : Value} {o : Option V} {A : Around} {E : Value → Shared → Prop}
theorem Inv.big (I : Inv X pins σ H s) : sysModules < s.heap.objs.size := by
  have h : mainGlobals < s.heap.objs.size := (I.mod.glob.keeps I.bk).lt
  exact Nat.lt_trans (by decide) h
theorem d_getItem {Q : Value → Shared → Prop} (hu : A.units + 1 < cLine) (I : Inv X pins σ H s) (g : DGet H a y (some v)) (ry : RelV y u) (h : ∀ w' s', Inv X pins σ H s' → RelV v w' → Q w' s') :
    wpAny (model X.prog X.w) A (getItem (.ref a) u) Q E s := by
  rcases g with ⟨kvs, k, e, ey, l⟩ | ⟨kvs, k, b, e, ey, eb, l⟩
  · subst ey
    obtain ⟨z, hd, vs, rel, dd⟩ := dk_rd I.hok e
    obtain ⟨w', hw, rw'⟩ := RelO.some_of (v := v) (o := valueAt vs k) (by rw [l]; exact rel.val k)
    exact wpAny_getItem_of (kV_is ry) dd.mapOf hw (h w' _ (I.tok _) rw')
  · subst ey
    cases (show u = Value.ref b from ry)
    obtain ⟨z, hd, xs, rel, dd⟩ := dt_rd I.hok e
    obtain ⟨w', hw, rw'⟩ := RelO.some_of (v := v) (o := (atKey xs k).map (·.2)) (by rw [l]; exact rel.val k)
    obtain ⟨p, hp, hp2⟩ := Option.map_eq_some_iff.mp hw
    refine wpAny_getItem_heap (tupleKind_room_in1 hu) (key_of I.hok eb) dd hp ?_
    rw [hp2]
    exact h w' _ (I.tok _) rw'
theorem d_in {Q : Value → Shared → Prop} (hu : A.units + 1 < cLine) (I : Inv X pins σ H s) (g : DGet H a y o) (ry : RelV y u) (h : ∀ s', Inv X pins σ H s' → Q (.bool o.isSome) s') :
    wpAny (model X.prog X.w) A (compareOp .In u (.ref a)) Q E s := by
  rcases g with ⟨kvs, k, e, ey, l⟩ | ⟨kvs, k, b, e, ey, eb, l⟩
  · subst ey
    obtain ⟨z, hd, vs, rel, dd⟩ := dk_rd I.hok e
    refine wpAny_in_of (kV_is ry) hd dd.mapOf ?_
    rw [← (rel.val k).isSome_eq, ← l]
    exact h _ (I.tok _)
  · subst ey
    cases (show u = Value.ref b from ry)
    obtain ⟨z, hd, xs, rel, dd⟩ := dt_rd I.hok e
    refine wpAny_in_heap (tupleKind_room_in1 hu) (key_of I.hok eb) hd dd ?_
    have q := (rel.val k).isSome_eq
    rw [Option.isSome_map] at q
    rw [← q, ← l]
    exact h _ (I.tok _)
theorem d_notIn {Q : Value → Shared → Prop} (hu : A.units + 1 < cLine) (I : Inv X pins σ H s) (g : DGet H a y o) (ry : RelV y u) (h : ∀ s', Inv X pins σ H s' → Q (.bool (!o.isSome)) s') :
    wpAny (model X.prog X.w) A (compareOp .NotIn u (.ref a)) Q E s := by
  rcases g with ⟨kvs, k, e, ey, l⟩ | ⟨kvs, k, b, e, ey, eb, l⟩
  · subst ey
    obtain ⟨z, hd, vs, rel, dd⟩ := dk_rd I.hok e
    refine wpAny_notIn_of (kV_is ry) hd dd.mapOf ?_
    rw [← (rel.val k).isSome_eq, ← l]
    exact h _ (I.tok _)
  · subst ey
    cases (show u = Value.ref b from ry)
    obtain ⟨z, hd, xs, rel, dd⟩ := dt_rd I.hok e
    refine wpAny_notIn_heap (tupleKind_room_in1 hu) (key_of I.hok eb) hd dd ?_
    have q := (rel.val k).isSome_eq
    rw [Option.isSome_map] at q
    rw [← q, ← l]
    exact h _ (I.tok _)
theorem d_write {h' : Heap} {t' : Nat} {ob : HO} (I : Inv X pins σ H s) (mu : Mut (H a)) (hs : Heap.SameBut a s.heap h') (he : ∃ q, h'.get? a = some q) (new : ObjOk X.prog X.w (upd H a ob) h' a ob) :
    Inv X pins σ (upd H a ob) { s with heap := h', toks := t' } :=
  I.write (x := a) (e := a) mu (.inl rfl) (fun b q hb z => (hs.2 b hb).trans z) he new
theorem dk_new {P : Program} {w : World} {H' : Hp} {h' : Heap} {kvs : List (Key × V)} {vs : List (Key × Value)} (z : kvs.length ≤ sizeLine) (hd : (a == sysModules) = false) (rel : KV kvs vs) (dd : h'.DictOf (mixKind P w) a vs) :
    ObjOk P w H' h' a (.dK kvs) := ⟨z, hd, vs, rel, dd⟩
theorem d_setItem {H' : Hp} {Q : Unit → Shared → Prop} (hu : A.units + 1 < cLine) (I : Inv X pins σ H s) (g : DPut H a y v H') (ry : RelV y u) (rv : RelV v r) (h : ∀ s', Inv X pins σ H' s' → Q () s') :
    wpAny (model X.prog X.w) A (setItem (.ref a) u r) Q E s := by
  rcases g with ⟨kvs, k, e, ey, l, eH⟩ | ⟨kvs, k, b, e, ey, eb, l, eH⟩
  · subst ey eH
    obtain ⟨z, hd, vs, rel, dd⟩ := dk_of I.hok e
    have hz : vs.length ≤ sizeLine := by rw [← rel.length]; exact z
    have hl : (putK kvs k v).length ≤ sizeLine := by have := length_putK kvs k v; omega
    refine wpAny_setItem_pairs (hsz := hz) (kV_is ry) dd fun h' dd' hs => h _ ?_
    have he : ∃ q, h'.get? a = some q := let ⟨q, _, _, hq, _⟩ := dd'; ⟨q, hq⟩
    exact d_write I (by rw [e]; exact True.intro) hs he (dk_new hl hd (rel.put k rv) dd')
  · subst ey eH
    cases (show u = Value.ref b from ry)
    obtain ⟨z, hd, xs, rel, dd⟩ := dt_of I.hok e
    have hz : xs.length ≤ sizeLine := by rw [← Paired.length rel]; exact z
    have hl : (putK kvs k v).length ≤ sizeLine := by have := length_putK kvs k v; omega
    refine wpAny_setItem_heap (hsz := hz) (tupleKind_room_in1 hu) (key_of I.hok eb) dd fun h' dd' hs => h _ ?_
    obtain ⟨q, es, ep, hq, h2, h3, h4, _, h5⟩ := dd'
    refine d_write I (by rw [e]; exact True.intro) hs ⟨q, hq⟩ ⟨hl, hd, _, (rel.put k eb rv).keeps fun c ys ec => ?_, q, es, ep, hq, h2, h3, h4, h5⟩
    rw [upd_ne (ne_of ec e (fun z => nomatch z))]
    exact ec
end
section
variable {X : Cx} {pins : List (Addr × Obj)} {σ : St} {H : Hp} {s : Shared} {a : Addr} {kvs : List (Key × V)} {k : Key} {u : Value} {A : Around} {E : Value → Shared → Prop}
end
def NoSl (i : Expr) : Prop := ∀ ov iv, subscripted i false ov iv = operate [ov, iv] (getItem ov iv)
theorem subD_of {prog : Program} {w : World} {A : Around} {E : Value → Shared → Prop} {s : Shared} {env : Env} {value slice : Expr} {pos : Pos} {T id : String} {Q : Value → Shared → Prop}
    (hl : typeLookup (.type T) "__getitem__" = pure (some (.builtin id))) (hs : NoSl slice)
    (h : wpAny (model prog w) A (eval value env) (fun o s₁ => wpAny (model prog w) A (eval slice env) (fun i s₂ => s₂.TypeIs o T ∧ wpAny (model prog w) A (getItem o i) Q E s₂) E s₁) E s) :
    wpAny (model prog w) A (eval (.Subscript value slice pos) env) Q E s := by
  refine Subscript_ (wpAny_mono h (fun o s₁ h₁ => wpAny_mono h₁ (fun i s₂ h₂ => ?_) fun _ _ x => x) fun _ _ x => x)
  obtain ⟨hT, h₂⟩ := h₂
  unfold subscriptTail
  refine wpAny_bind ?_
  rw [getitemInPython_of_ne hT.not_modules]
  refine wpAny_bind (wpAny_specialOf hT hl ?_)
  have fin : wpAny (model prog w) A (subscripted slice false o i) (fun r s₃ => wpAny (model prog w) A (letTemporaryGo value o r >>= fun _ => pure r) Q E s₃) E s₂ := by
    rw [hs o i]
    exact wpAny_operating (wpAny_mono h₂ (fun r s₃ h₃ => wpAny_bind (wpAny_letTemporaryGo (wpAny_pure h₃))) fun _ _ x => x)
  first
    | exact wpAny_pure (wpAny_bind fin)
    | exact wpAny_bind (wpAny_pure (wpAny_bind fin))
    | exact wpAny_bind fin
theorem dict_typeIs {X : Cx} {pins : List (Addr × Obj)} {σ : St} {H : Hp} {s : Shared} {a : Addr} {y : V} {o : Option V} (I : Inv X pins σ H s) (g : DGet H a y o) : s.TypeIs (.ref a) "dict" := by
  rcases g with ⟨kvs, k, e, _, _⟩ | ⟨kvs, k, b, e, _, _, _⟩
  · obtain ⟨_, _, vs, _, dd⟩ := dk_rd I.hok e
    exact dd.typeIs
  · obtain ⟨_, _, xs, _, dd⟩ := dt_rd I.hok e
    exact dd.typeIs
def tDGet (td ty : TE) : TE := fun σ H Q => td σ H fun x H1 => ty σ H1 fun y H2 => ∃ a v, x = .ref a ∧ DGet H2 a y (some v) ∧ Q v H2
def tDIn (ty td : TE) : TE := fun σ H Q => ty σ H fun y H1 => td σ H1 fun x H2 => ∃ a o, x = .ref a ∧ DGet H2 a y o ∧ Q (.bl o.isSome) H2
def tDNotIn (ty td : TE) : TE := fun σ H Q => ty σ H fun y H1 => td σ H1 fun x H2 => ∃ a o, x = .ref a ∧ DGet H2 a y o ∧ Q (.bl (!o.isSome)) H2
def sDPut (td ty tv : TE) : TS := fun D σ H => tv σ H fun v H1 => td σ H1 fun x H2 => ty σ H2 fun y H3 => ∃ a H4, x = .ref a ∧ DPut H3 a y v H4 ∧ D.nx σ H4
def sDAug (td ty tv : TE) (rd : V → V → Hp → VK → Prop) : TS := fun D σ H => td σ H fun x H1 => ty σ H1 fun y H2 => ∃ a v, x = .ref a ∧ DGet H2 a y (some v) ∧
  tv σ H2 fun y2 H3 => rd v y2 H3 fun z H4 => ∃ H5, DPut H4 a y z H5 ∧ D.nx σ H5
def sDDel (td ty : TE) : TS := fun D σ H => td σ H fun x H1 => ty σ H1 fun y H2 => ∃ a kvs k, x = .ref a ∧ H2 a = some (.dK kvs) ∧ y = kV k ∧ (valV kvs k).isSome = true ∧ D.nx σ (upd H2 a (.dK (dropK kvs k)))
section
variable {X : Cx} {o i e value : Expr} {pos pos' tpos : Pos} {td ty tv : TE}
theorem pe_dget (hu : X.A.units + 1 < cLine) (ho : PE X o td) (hi : PE X i ty) (hs : NoSl i) : PE X (.Subscript o i pos) (tDGet td ty) := by
  intro pins s σ H Q I h
  refine subD_of PySem.F.slot_dict_getitem.lookup hs (thn (ho pins s σ H _ I h) fun u s1 ⟨x, H1, I1, rx, q1⟩ => thn (hi pins s1 σ H1 _ I1 q1) fun iv s2 ⟨y, H2, I2, ry, a, v, ex, g, q2⟩ => ?_)
  subst ex
  obtain rfl : u = Value.ref a := rx
  exact ⟨dict_typeIs I2 g, d_getItem hu I2 g ry fun w' s3 I3 rw' => ⟨v, H2, I3, rw', q2⟩⟩
theorem pc_din (hu : X.A.units + 1 < cLine) (hi : PE X i ty) (ho : PE X o td) : PC X .In i o (tDIn ty td) := by
  intro pins s σ H Q I h
  refine thn (hi pins s σ H _ I h) fun iv s1 ⟨y, H1, I1, ry, q1⟩ => thn (ho pins s1 σ H1 _ I1 q1) fun u s2 ⟨x, H2, I2, rx, a, ov, ex, g, q2⟩ => ?_
  subst ex
  obtain rfl : u = Value.ref a := rx
  exact d_in hu I2 g ry fun s3 I3 => ⟨.bl ov.isSome, H2, I3, rfl, q2⟩
theorem pc_dnotin (hu : X.A.units + 1 < cLine) (hi : PE X i ty) (ho : PE X o td) : PC X .NotIn i o (tDNotIn ty td) := by
  intro pins s σ H Q I h
  refine thn (hi pins s σ H _ I h) fun iv s1 ⟨y, H1, I1, ry, q1⟩ => thn (ho pins s1 σ H1 _ I1 q1) fun u s2 ⟨x, H2, I2, rx, a, ov, ex, g, q2⟩ => ?_
  subst ex
  obtain rfl : u = Value.ref a := rx
  exact d_notIn hu I2 g ry fun s3 I3 => ⟨.bl (!ov.isSome), H2, I3, rfl, q2⟩
theorem ps_dput (hu : X.A.units + 1 < cLine) (ho : PE X o td) (hi : PE X i ty) (hv : PE X value tv) (hs : swapsWith value (some (.Subscript o i pos')) pos.line X.env = pure false) :
    PS X (.Assign [.Subscript o i pos'] value pos) (sDPut td ty tv) := by
  intro pins s σ H D I h
  refine wpAny_Assign_Subscript (thn (hv pins s σ H _ I h) fun r s1 ⟨v, H1, I1, rv, q1⟩ => thn (ho pins s1 σ H1 _ I1 q1) fun u s2 ⟨x, H2, I2, rx, q2⟩ => thn (hi pins s2 σ H2 _ I2 q2) fun iv s3 ⟨y, H3, I3, ry, a, H4, ex, g, q3⟩ => ?_) hs
  subst ex
  obtain rfl : u = Value.ref a := rx
  exact d_setItem hu I3 g ry rv fun s4 I4 => ⟨σ, H4, I4, q3⟩
end
theorem dk_empty {P : Program} {w : World} {H : Hp} (h : Heap) (hb : sysModules < h.objs.size) : ObjOk P w H (h.push { cls := .type "dict", data := .dict #[] }) h.objs.size (.dK []) :=
  ⟨Nat.zero_le _, beq_eq_false_iff_ne.mpr (Ne.symm (Nat.ne_of_lt hb)), [], .nil, Heap.DictOf.new h⟩
theorem dt_empty {P : Program} {w : World} {H : Hp} (h : Heap) (hb : sysModules < h.objs.size) : ObjOk P w H (h.push { cls := .type "dict", data := .dict #[] }) h.objs.size (.dT []) :=
  ⟨Nat.zero_le _, beq_eq_false_iff_ne.mpr (Ne.symm (Nat.ne_of_lt hb)), [], .nil, _, #[], 0, Heap.get?_push_size _ rfl, ⟨rfl, rfl, rfl⟩, rfl, rfl, List.nodup_nil⟩
def tDNewK : TE := fun _ H Q => ∀ p, H p = none → Q (.ref p) (upd H p (.dK []))
def tDNewT : TE := fun _ H Q => ∀ p, H p = none → Q (.ref p) (upd H p (.dT []))
section
variable {X : Cx} {pos : Pos}
theorem pe_dnewK : PE X (.Dict [] [] pos) tDNewK := fun pins s σ H Q I h =>
  wpAny_Dict_empty ⟨.ref s.heap.objs.size, _, I.laid (a := s.heap.objs.size) (o := .dK []) (t' := s.toks) (fun _ _ q => Heap.get?_push_of_some _ q) (Nat.le_refl _) (dk_empty s.heap I.big), rfl, h _ (I.hok.fresh (Nat.le_refl _))⟩
end
def tPairs : List (TE × TE) → St → Hp → (List (V × V) → Hp → Prop) → Prop
  | [], _, H, Q => Q [] H
  | (tk, tv) :: r, σ, H, Q => tk σ H fun x H1 => tv σ H1 fun y H2 => tPairs r σ H2 fun ps H3 => Q ((x, y) :: ps) H3
abbrev VV : List (V × V) → List (Value × Value) → Prop := Paired fun p q => RelV p.1 q.1 ∧ RelV p.2 q.2
def PPs (X : Cx) (pos : Pos) (keys : List (Option Expr)) (values : List Expr) (trs : List (TE × TE)) : Prop :=
  ∀ (pins : List (Addr × Obj)) (s : Shared) (σ : St) (H : Hp) (Q : List (V × V) → Hp → Prop), Inv X pins σ H s → tPairs trs σ H Q →
    wpAny (model X.prog X.w) X.A (evalPairs (pairTrees keys values X.env pos)) (fun vs s' => ∃ ps H', Inv X pins σ H' s' ∧ VV ps vs ∧ Q ps H') X.xe s
theorem pps_nil {X : Cx} {pos : Pos} : PPs X pos [] [] [] := fun pins s σ H Q I h => pairTrees_nil_walk ⟨[], H, I, .nil, h⟩
theorem pps_cons {X : Cx} {pos : Pos} {k v : Expr} {ks : List (Option Expr)} {vs : List Expr} {tk tv : TE} {trs : List (TE × TE)} (hk : PE X k tk) (hv : PE X v tv) (hr : PPs X pos ks vs trs) :
    PPs X pos (some k :: ks) (v :: vs) ((tk, tv) :: trs) := fun pins s σ H Q I h =>
  pairTrees_cons_walk (thn (hk pins s σ H _ I h) fun u s1 ⟨x, H1, I1, rx, q1⟩ => thn (hv pins s1 σ H1 _ I1 q1) fun w2 s2 ⟨y, H2, I2, ry, q2⟩ =>
    thn (hr pins s2 σ H2 _ I2 q2) fun ws s3 ⟨ps, H3, I3, rel, q3⟩ => ⟨(x, y) :: ps, H3, I3, .cons ⟨rx, ry⟩ rel, q3⟩)
def mergeK (kvs more : List (Key × V)) : List (Key × V) := more.foldl (fun acc kv => putK acc kv.1 kv.2) kvs
theorem KV.merge : ∀ {more : List (Key × V)} {rs : List (Key × Value)} {kvs : List (Key × V)} {vs : List (Key × Value)}, KV more rs → KV kvs vs → KV (mergeK kvs more) (merged vs rs) := by
  intro more rs kvs vs r
  unfold KV at r
  induction r generalizing kvs vs with
  | nil => intro q; exact q
  | @cons p q ps qs h t ih =>
    intro r0
    have e : KV (putK kvs p.1 p.2) (stored vs q.1 q.2) := by
      have := r0.put p.1 h.2
      rw [← h.1]; exact this
    exact ih e
theorem length_mergeK : ∀ (more kvs : List (Key × V)), (mergeK kvs more).length ≤ kvs.length + more.length
  | [], kvs => by show kvs.length ≤ kvs.length + 0; omega
  | p :: r, kvs => by
    have h1 := length_mergeK r (putK kvs p.1 p.2)
    have h2 := length_putK kvs p.1 p.2
    show (mergeK (putK kvs p.1 p.2) r).length ≤ _
    rw [List.length_cons]; omega
theorem carries_of {P : Program} {w : World} : ∀ {kvs : List (Key × V)} {ws : List (Value × Value)}, VV (kvs.map fun kv => (kV kv.1, kv.2)) ws → ∃ rs, Carries (mixKind P w) ws rs ∧ KV kvs rs
  | [], _, r => by rw [List.map_nil] at r; cases r; exact ⟨[], True.intro, .nil⟩
  | p :: kvs, _, r => by
    rw [List.map_cons] at r
    cases r with
    | @cons a b as bs h t =>
      obtain ⟨rs, c, q⟩ := carries_of (P := P) (w := w) t
      obtain ⟨b1, b2⟩ := b
      exact ⟨(p.1, b2) :: rs, ⟨kV_is h.1, rfl, c⟩, .cons ⟨rfl, h.2⟩ q⟩
def tDisp (trs : List (TE × TE)) : TE := fun σ H Q => ∀ p, H p = none → tPairs trs σ (upd H p (.dK [])) fun ps H2 => H2 p = some (.dK []) ∧ ∃ kvs : List (Key × V), ps = kvs.map (fun kv => (kV kv.1, kv.2)) ∧ kvs.length ≤ 15 ∧ Q (.ref p) (upd H2 p (.dK (mergeK [] kvs)))
theorem pe_disp {X : Cx} {pos : Pos} {keys : List (Option Expr)} {values : List Expr} {trs : List (TE × TE)} (h : PPs X pos keys values trs) (hall : keys.all (·.isSome) = true) (hl : keys.length = values.length) (h0 : keys ≠ [])
    (h15 : keys.length ≤ 15) : PE X (.Dict keys values pos) (tDisp trs) := by
  intro pins s σ H Q I q
  have hn := I.hok.fresh (Nat.le_refl s.heap.objs.size)
  have I1 := I.laid (a := s.heap.objs.size) (o := .dK []) (h' := s.heap.push { cls := .type "dict", data := .dict #[] }) (t' := s.toks) (fun _ _ q => Heap.get?_push_of_some _ q) (Nat.le_refl _) (dk_empty s.heap I.big)
  refine wpAny_Dict_walk (knd := mixKind X.prog X.w) hall hl h0 h15 (thn (h pins _ σ _ _ I1 (q _ hn)) fun ws s2 ⟨ps, H2, I2, rel, e, kvs, ep, lk, q2⟩ => ?_)
  subst ep
  obtain ⟨rs, c, rk⟩ := carries_of (P := X.prog) (w := X.w) rel
  obtain ⟨z, hd, vs0, r0, dd⟩ := dk_of I2.hok e
  cases r0
  refine ⟨rs, c, dd, fun h' dd' hs => ⟨.ref s.heap.objs.size, _, ?_, rfl, q2⟩⟩
  have hz : (mergeK [] kvs).length ≤ sizeLine := by
    have h1 := length_mergeK kvs []
    rw [List.length_nil] at h1
    rw [sizeLine_eq]; omega
  have he : ∃ q, h'.get? s.heap.objs.size = some q := let ⟨q, _, _, hq, _⟩ := dd'; ⟨q, hq⟩
  exact d_write I2 (by rw [e]; exact True.intro) hs he (dk_new hz hd (rk.merge .nil) dd')
structure M1 (X : Cx) (o : Expr) (m : Str) (apos : Pos) (e : Expr) (cpos : Pos) : Prop where
  base : attributeBase o m X.env (eval o X.env) = eval o X.env
  few : ((backTo cpos (starEach [e] X.env)).all (fun x => !x.1) && (backToKw cpos (keywordEach [] X.env)).all (fun x => x.1.isSome)
    && decide (([e] : List Expr).length + ([] : List Keyword).length + (if ([] : List Keyword).isEmpty then 0 else 1) < 30)) = true
  line : (apos.endLine == cpos.line) = true
  trees : backTo cpos (starEach [e] X.env) = [(false, eval e X.env)]
structure M2 (X : Cx) (o : Expr) (m : Str) (apos : Pos) (e f : Expr) (cpos : Pos) : Prop where
  base : attributeBase o m X.env (eval o X.env) = eval o X.env
  few : ((backTo cpos (starEach [e, f] X.env)).all (fun x => !x.1) && (backToKw cpos (keywordEach [] X.env)).all (fun x => x.1.isSome)
    && decide (([e, f] : List Expr).length + ([] : List Keyword).length + (if ([] : List Keyword).isEmpty then 0 else 1) < 30)) = true
  line : (apos.endLine == cpos.line) = true
  trees : backTo cpos (starEach [e, f] X.env) = [(false, eval e X.env), (false, eval f X.env)]
def IsD (H : Hp) (a : Addr) : Prop := (∃ kvs, Rd H a (.dK kvs)) ∨ ∃ kvs, Rd H a (.dT kvs)
section
variable {X : Cx} {pins : List (Addr × Obj)} {σ : St} {H : Hp} {s : Shared} {a : Addr} {y d : V} {u r : Value} {o : Option V} {A : Around} {E : Value → Shared → Prop}
end
def tDGet1 (td ty : TE) : TE := fun σ H Q => td σ H fun x H1 => ∃ a, x = .ref a ∧ IsD H1 a ∧ ty σ H1 fun y H2 => ∃ o, DGet H2 a y o ∧ Q (o.getD .non) H2
def tDGet2 (td ty tx : TE) : TE := fun σ H Q => td σ H fun x H1 => ∃ a, x = .ref a ∧ IsD H1 a ∧ ty σ H1 fun y H2 => tx σ H2 fun z H3 => ∃ o, DGet H3 a y o ∧ Q (o.getD z) H3
def tDPop1 (td ty : TE) : TE := fun σ H Q => td σ H fun x H1 => ∃ a, x = .ref a ∧ IsD H1 a ∧ ty σ H1 fun y H2 => ∃ kvs k v, H2 a = some (.dK kvs) ∧ y = kV k ∧ valV kvs k = some v ∧ Q v (upd H2 a (.dK (dropK kvs k)))
def tDPop2 (td ty tx : TE) : TE := fun σ H Q => td σ H fun x H1 => ∃ a, x = .ref a ∧ IsD H1 a ∧ ty σ H1 fun y H2 => tx σ H2 fun z H3 => ∃ kvs k, H3 a = some (.dK kvs) ∧ y = kV k ∧
  (∀ v, valV kvs k = some v → Q v (upd H3 a (.dK (dropK kvs k)))) ∧ (valV kvs k = none → Q z H3)
section
variable {X : Cx} {o e f : Expr} {apos cpos : Pos} {td ty tx : TE}
end
section
variable {X : Cx} {pins : List (Addr × Obj)} {σ : St} {H : Hp} {s : Shared} {a : Addr} {kvs : List (Key × V)} {A : Around} {E : Value → Shared → Prop}
end
section
variable {X : Cx} {pins : List (Addr × Obj)} {σ : St} {H : Hp} {s : Shared} {a : Addr} {y : V} {u : Value} {A : Around} {E : Value → Shared → Prop}
end
end L2
namespace Att
open PySem PySem.W PySem.Calls PyProof.Rows
theorem ints_of_wellAll {P : Params} {h : Heap} : ∀ (ns : List Int) (vs : List Value), WellAll P h vs (ns.map WData.int) → IntsAre vs ns := by
  intro ns
  induction ns with
  | nil =>
    intro vs w
    rw [List.map_nil] at w
    cases w
    exact .nil
  | cons n ns ih =>
    intro vs w
    rw [List.map_cons] at w
    cases w with
    | cons a b =>
      cases a
      exact .cons _ _ (ih _ b)
theorem script_of {l : OpenLaw} {n : Nat} (hn : l.most = some n) {P : Params} {h : Heap} {args : List WData} {vals : List Value}
    (hpre : l.row.toRowW.claim.pre args = true) (hwl : WellAll P h vals args) :
    ∃ a vs ns, vals = [Value.ref a] ∧ args = [WData.list (ns.map WData.int)] ∧ h.get? a = some { cls := .type "list", data := .seq vs.toArray } ∧ IntsAre vs ns ∧ ns.length ≤ n := by
  have hsh : WShape.hasAll [] args [.list .int] = true := (pre_splitW hpre).1
  have hc : l.pre.holds [] { args := args } = true := (pre_splitW hpre).2
  obtain ⟨d, r, rfl, h1, h2⟩ := hasAllW_cons hsh
  obtain rfl := hasAllW_nil h2
  obtain ⟨xs, rfl, h3⟩ := hasW_list h1
  obtain ⟨ns, rfl⟩ := items_int h3
  have hlen : ns.length ≤ n := by
    unfold OpenLaw.pre at hc
    have h4 : (WTm.not (.lt (.lit (.int (n : Int))) (.len (.arg 0)))).holds [] { args := [.list (ns.map .int)] } = true := by
      have h4 := (holds_andW hc).1
      rw [hn] at h4
      exact h4
    have h5 := condW_of h4 (w_not (w_lt w_lit (w_len_list (w_arg rfl))))
    rw [List.length_map] at h5
    refine Nat.le_of_not_lt fun q => ?_
    have q' : (n : Int) < ((ns.length : Nat) : Int) := by omega
    first
      | (rw [decide_eq_true q'] at h5; exact absurd h5 (by decide))
      | (simp at h5; omega)
  cases hwl with
  | cons w1 w2 =>
    cases w2
    cases w1 with
    | list ho hall => exact ⟨_, _, ns, rfl, rfl, ho, ints_of_wellAll ns _ hall, hlen⟩
theorem post_true (l : OpenLaw) (args : List WData) : l.row.toRowW.claim.post args (.bool true) args = true :=
  postW_of (r := l.row.toRowW) (X := (true == true))
    (show WShape.has [] (.bool true) .bool = true by first | rfl | decide | simp [WShape.has, WShape.arms, WShape.armsAll])
    (show (WTm.eq .res (.lit (.bool true))).value [] { args := args, res := some (.bool true), after := args } = some (.bool (true == true)) from w_eq_bool (w_res rfl) w_lit) rfl
theorem attach_call {l : OpenLaw} {n : Nat} {q : Program} {loose : List Str} {XP : (Str → Option Value) → Heap → Prop} {YP : World → Heap → Prop} {d : DefRec}
    (hn : l.most = some n) (hdf : d.params.defaults = [])
    (call : ∀ (w : World) (s₀ s₁ : Shared) (mg mb : Str → Option Value) (fa : Addr) (o : Obj) (pm cd doc : Value) (a : Addr) (vs : List Value) (ns : List Int),
      Ground q loose [] XP w s₀ mg mb s₁.heap → YP w s₁.heap →
      s₁.heap.get? fa = some o → o.data = .func (docDef d.name d.params d.body d.scope pm cd doc) → s₁.heap.CodeRec cd d.name → mg d.name = some (.ref fa) →
      s₁.heap.get? a = some { cls := .type "list", data := .seq vs.toArray } → IntsAre vs ns → ns.length ≤ n → s₁.gens = #[] →
      codeAny (model l.prog w) callerA (.call (.ref fa) ⟨[.ref a], []⟩) (fun r s' => r = .ok (.ret (.bool true)) ∧ OldK s₁.heap s'.heap ∧ s'.os = s₁.os ∧ AllBare s'.gens) s₁) :
    WalkO q loose XP YP l.row.toRowW d [] (fun f vs => PySem.call f vs) := by
  intro w s₀ s₁ mg mb G Y fa o pm cd doc dV kV ho hd hcd hD hmg hg args vals as hpre hlay hrd hwl hlo
  obtain rfl : dV = .none := Dflts.none hD hdf
  obtain rfl : kV = .none := Dflts.noKw hD
  obtain ⟨a, vs, ns, rfl, rfl, hobj, hints, hlen⟩ := script_of hn hpre hwl
  refine enter_call (codeAny_mono (call w s₀ s₁ mg mb fa o pm cd doc a vs ns G Y ho (fd_plain hd) hcd hmg hobj hints hlen hg) fun r s' hq => ?_)
  obtain ⟨rfl, h2, h3, h4⟩ := hq
  exact ⟨.inl ⟨.bool true, .bool true, [], rfl, fun _ => rfl, .bool true, post_true l _, fun _ => ⟨List.Pairwise.nil, fun _ hm => (nomatch hm)⟩⟩, h2, h3, h4⟩
section
variable {prog : Program} {w : World} {A : Around} {E : Value → Shared → Prop} {s : Shared} {K : Frag}
def noObjs (h : Heap) : Heap := { h with objs := #[] }
def ledger (h : Heap) (L d : Addr) : List (Addr × Obj) := (List.range h.objs.size).filterMap fun a => if a = L ∨ a = d then none else (h.get? a).map fun o => (a, o)
end
end Att
namespace L2
open PySem PySem.Spec PyProof.Rows
theorem vals_ints : ∀ {vs : List Value} {ns : List Int}, IntsAre vs ns → Vals (ns.map V.int) vs
  | _, _, .nil => .nil
  | _, _, .cons n t h => .cons ⟨t, rfl⟩ (vals_ints h)
def Only (H : Hp) : Prop := ∀ b, H b = none ∨ ∃ o xs, H b = some (.frz o (.lst xs))
theorem law_call {P : Program} {w : World} {K : PySem.W.Frag} {mg mb : Str → Option Value} {CX : CXT} {k : Nat} {fa a : Addr} {fd : FuncData} {x : Str} {sp : Sp} {s₁ : Shared} {vs : List Value} {ns : List Int}
    (KX : K.In s₁.heap) (hns : s₁.heap.Ns mainGlobals mg) (hb : s₁.heap.Ns builtinsNs mb) (hbb : ∀ x : Str, x ≠ "__name__" → mb x = bootBuiltins x) (hlim : s₁.heap.NoLimit) (hg : s₁.gens = #[])
    (ha : s₁.heap.get? a = some { cls := .type "list", data := .seq vs.toArray }) (hi : IntsAre vs ns) (hl : ns.length ≤ sizeLine) (hr : Room k callerA)
    (F : ∀ base : Heap, K.In base → base.Ns mainGlobals mg → FnOk P w K mg base CX k fa fd [x] sp) (hbind : ∀ (s : Shared) (u : Value), BindsTo s fd ⟨[u], []⟩ [(x, u)])
    (hsp : ∀ H : Hp, Only H → SqL K H a (ns.map V.int) → sp [.ref a] H (fun v _ => v = .bl true) fun _ _ _ => False)
    (hCX : ∀ H e s', CX [] H s₁ (fun _ _ _ => False) e s' → False) :
    codeAny (model P w) callerA (.call (.ref fa) ⟨[.ref a], []⟩) (fun r s' => r = .ok (.ret (.bool true)) ∧ OldK s₁.heap s'.heap ∧ s'.os = s₁.os ∧ AllBare s'.gens) s₁ := by
  have rv := vals_ints hi
  have lenV := hi.length
  have core : ∀ H : Hp, Only H → SqL K H a (ns.map V.int) → HOk P w H s₁.heap → (∀ b, H b ≠ none → b = a) → (H a ≠ none → K.lookup a = none) →
      codeAny (model P w) callerA (.call (.ref fa) ⟨[.ref a], []⟩) (fun r s' => r = .ok (.ret (.bool true)) ∧ OldK s₁.heap s'.heap ∧ s'.os = s₁.os ∧ AllBare s'.gens) s₁ := by
    intro H hO hS hok hA hK
    have base_of : ∀ {b : Addr} {o : Obj}, s₁.heap.get? b = some o → H b = none → (hidT s₁.heap H).get? b = some o := fun e n => hidT_get e n
    have noA : ∀ {b : Addr} {o : Obj} {es : Array DictEntry} {ep : Nat}, s₁.heap.get? b = some o → o.data = .dict es ep → H b = none := fun {b o es ep} e d => by
      cases q : H b with
      | none => rfl
      | some u =>
        have e' : b = a := hA b (by rw [q]; simp)
        subst e'
        rw [ha] at e; cases e
        have d' : Data.seq vs.toArray _ = Data.dict es ep := d
        cases d'
    have nsK : ∀ {b : Addr} {m : Str → Option Value}, s₁.heap.Ns b m → (hidT s₁.heap H).Ns b m := fun {b m} ⟨o, es, ep, e, d, r⟩ => ⟨o, es, ep, base_of e (noA e d), d, r⟩
    have hKb : K.In (hidT s₁.heap H) := fun b o e => base_of (KX b o e) (by
      cases q : H b with
      | none => rfl
      | some u =>
        have e' : b = a := hA b (by rw [q]; simp)
        subst e'
        rw [hK (by rw [q]; simp)] at e; cases e)
    have hM : Mod K mg (hidT s₁.heap H) := ⟨hKb, nsK hns, ⟨mb, nsK hb, hbb⟩, let ⟨mc, h1, h2⟩ := hlim; ⟨mc, nsK h1, h2⟩⟩
    have e0 : Env0 P w K mg (hidT s₁.heap H) callerA [] s₁ H := ⟨rfl, hM, fun b o e => of_hidT e, Nat.le_of_eq (hidT_size _ _), trivial, fun b hb => absurd (show b ∈ ([] : List Addr) from hb) (by simp), hok, .of_eq hg⟩
    refine codeAny_mono ((F _ hKb (nsK hns)).run callerA [] s₁ H ⟨[.ref a], []⟩ [.ref a] [.ref a] _ _ hr e0 (hbind s₁ (.ref a)) (.cons rfl .nil) (hsp H hO hS)) fun r s' h => ?_
    cases r with
    | error e => exact (hCX H e s' h).elim
    | ok fl =>
      cases fl with
      | next => exact False.elim h
      | brk => exact False.elim h
      | cont => exact False.elim h
      | ret u =>
        obtain ⟨v, H', os, bare, un, hok', r', q⟩ := h
        have q' : v = .bl true := q
        subst q'
        obtain rfl : u = Value.bool true := r'
        refine ⟨rfl, OldK.of_keep fun b o e => ?_, os, bare⟩
        cases q : H b with
        | none => exact un.keep b o e q (by intro z; exact absurd (show b ∈ ([] : List Addr) from z) (by simp)) (by simp)
        | some u =>
          rcases hO b with z | ⟨ob, xs, z⟩
          · rw [q] at z; cases z
          · have z2 := un.frzs b ob _ z
            obtain ⟨e1, _⟩ := hok b _ z
            obtain ⟨e2, _⟩ := hok' b _ z2
            rw [e] at e1; cases e1
            exact e2
  cases hk : K.lookup a with
  | some o =>
    have e := KX a o hk
    rw [ha] at e
    cases e
    refine core (fun _ => none) (fun _ => .inl rfl) (.inr ⟨_, vs.toArray, _, hk, rfl, rfl, rfl, by rw [List.size_toArray, lenV]; exact hl, by simpa using rv⟩) (fun b u z => by have z' : (none : Option HO) = some u := z; cases z') (fun b z => absurd rfl z) fun z => absurd rfl z
  | none =>
    refine core (fun b => if b = a then some (.frz { cls := .type "list", data := .seq vs.toArray } (.lst (ns.map V.int))) else none) (fun b => ?_) (.inl (.inr ⟨{ cls := .type "list", data := .seq vs.toArray }, if_pos rfl⟩)) (fun b u z => ?_) (fun b z => ?_) fun _ => hk
    · by_cases hb : b = a
      · exact .inr ⟨_, _, if_pos hb⟩
      · exact .inl (if_neg hb)
    · by_cases hb : b = a
      · have z' := (if_pos hb).symm.trans z
        cases z'
        subst hb
        exact ⟨ha, by rw [List.length_map]; exact hl, vs, _, rv, ha⟩
      · have z' := (if_neg hb).symm.trans z
        cases z'
    · by_cases hb : b = a
      · exact hb
      · exact absurd (if_neg hb) z
end L2
namespace L2
open PySem PySem.Spec PyProof.Rows
abbrev KOf {K : PySem.W.Frag} {h : Heap} (_ : K.In h) : PySem.W.Frag := K
theorem walk_of {l : PySem.W.OpenLaw} {n k : Nat} {q : Program} {loose : List Str} {XP : (Str → Option Value) → Heap → Prop} {YP : World → Heap → Prop} {d : DefRec} {K : Params → PySem.W.Frag} {CX : World → CXT} {sp : World → Sp} {x : Str}
    (hn : l.most = some n) (hn2 : n ≤ sizeLine) (hdf : d.params.defaults = []) (hr : Room k callerA)
    (hY : ∀ (w : World) (h : Heap), YP w h → (K w.params).In h)
    (F : ∀ (w : World) (mg : Str → Option Value) (fa : Addr) (h : Heap), (K w.params).In h → h.Ns mainGlobals mg → mg d.name = some (.ref fa) →
      ∃ fd : FuncData, (∀ (s : Shared) (u : Value), BindsTo s fd ⟨[u], []⟩ [(x, u)]) ∧
        ∀ base : Heap, (K w.params).In base → base.Ns mainGlobals mg → FnOk l.prog w (K w.params) mg base (CX w) k fa fd [x] (sp w))
    (hsp : ∀ (w : World) (H : Hp) (a : Addr) (ns : List Int), ns.length ≤ n → Only H → SqL (K w.params) H a (ns.map V.int) → sp w [.ref a] H (fun v _ => v = .bl true) fun _ _ _ => False)
    (hCX : ∀ (w : World) (H : Hp) (s : Shared) (e : Value) (s' : Shared), CX w [] H s (fun _ _ _ => False) e s' → False) :
    PySem.W.WalkO q loose XP YP l.row.toRowW d [] (fun f vs => PySem.call f vs) := by
  refine Att.attach_call hn hdf fun w s₀ s₁ mg mb fa o pm cd doc a vs ns G Y ho hd hcd hmg hobj hints hlen hg => ?_
  have KX := hY w _ Y
  obtain ⟨fd, hb, hF⟩ := F w mg fa _ KX G.T.g hmg
  exact law_call KX G.T.g G.T.b G.T.builtins G.T.nolimit hg hobj hints (Nat.le_trans hlen hn2) hr hF hb (fun H hO hS => hsp w H a ns hlen hO hS) fun H e s' => hCX w H s₁ e s'
theorem walk_ofK {l : PySem.W.OpenLaw} {n k : Nat} {q : Program} {loose : List Str} {XP : (Str → Option Value) → Heap → Prop} {YP : World → Heap → Prop} {d : DefRec} {K : Params → PySem.W.Frag} {CX : CXT} {sp : PySem.W.Frag → Sp} {x : Str}
    (hn : l.most = some n) (hn2 : n ≤ sizeLine) (hdf : d.params.defaults = []) (hr : Room k callerA)
    (hY : ∀ (w : World) (h : Heap), YP w h → (K w.params).In h)
    (F : ∀ (w : World) (mg : Str → Option Value) (fa : Addr) (h : Heap), (K w.params).In h → h.Ns mainGlobals mg → mg d.name = some (.ref fa) →
      ∃ fd : FuncData, (∀ (s : Shared) (u : Value), BindsTo s fd ⟨[u], []⟩ [(x, u)]) ∧
        ∀ base : Heap, (K w.params).In base → base.Ns mainGlobals mg → FnOk l.prog w (K w.params) mg base CX k fa fd [x] (sp (K w.params)))
    (hsp : ∀ (K : PySem.W.Frag) (H : Hp) (a : Addr) (ns : List Int), ns.length ≤ n → Only H → SqL K H a (ns.map V.int) → sp K [.ref a] H (fun v _ => v = .bl true) fun _ _ _ => False)
    (hCX : ∀ (H : Hp) (s : Shared) (e : Value) (s' : Shared), CX [] H s (fun _ _ _ => False) e s' → False) :
    PySem.W.WalkO q loose XP YP l.row.toRowW d [] (fun f vs => PySem.call f vs) :=
  walk_of (K := K) (CX := fun _ => CX) (sp := fun w => sp (K w.params)) hn hn2 hdf hr hY F (fun w H a ns h1 h2 h3 => hsp (K w.params) H a ns h1 h2 h3) fun _ H s e s' => hCX H s e s'
end L2
namespace L2
open PySem PySem.Spec PyProof.Rows
def inClass (s : Stmt) (j : Nat) : Stmt := match s with
  | .ClassDef _ _ _ body _ _ _ _ _ _ _ => body.getD j (.Pass ⟨0, 0, 0, 0⟩)
  | _ => .Pass ⟨0, 0, 0, 0⟩
def defArgs (s : Stmt) : Arguments := match s with
  | .FunctionDef _ a _ _ _ _ _ _ _ _ => a
  | _ => { posonlyargs := [], args := [], vararg := none, kwonlyargs := [], kw_defaults := [], kwarg := none, defaults := [] }
def defBody (s : Stmt) : List Stmt := match s with
  | .FunctionDef _ _ b _ _ _ _ _ _ _ => b
  | _ => []
def defScope (s : Stmt) : Scope := match s with
  | .FunctionDef _ _ _ _ _ _ sc _ _ _ => sc
  | _ => { kind := .function, names := [], isGenerator := false, isCoroutine := false }
abbrev CX0 : CXT := fun _ _ _ _ _ _ => False
abbrev E0 : XK := fun _ _ _ => False
theorem pass0 {X : Cx} : Passes CX0 X E0 := fun _ _ _ _ _ _ _ h => h.elim
structure Fun (K : PySem.W.Frag) (x qual : Str) (st : Stmt) (f : Addr) (fd : FuncData) : Prop where
  ex : ∃ (oc : Value) (od : Option Addr) (kV doc pm : Value) (an : Option Addr) (cdv ct : Value) (osl : Array (Option Value)),
    fd = PySem.W.fnOf x qual (defArgs st) (defBody st) (defScope st) .none kV doc pm an cdv ct ∧ K.lookup f = some ⟨oc, od, .func fd, osl⟩ ∧ PySem.W.codeIn K cdv qual = true
  kp : PySem.W.keepIn K (.ref f) = true
section
variable {P : Program} {w : World} {K : PySem.W.Frag} {mg : Str → Option Value} {base : Heap}
theorem Fun.ok {x qual : Str} {st : Stmt} {f : Addr} {fd : FuncData} {N ps : List Str} {k : Nat} {sp : Sp} (F : Fun K x qual st f fd) (S : FnScope N ps (defScope st)) (len : ∀ vs H Q E, sp vs H Q E → vs.length = ps.length)
    (hbody : ∀ (cdv : Value) (A : Around) (outer : List Env) (s : Shared) (H : Hp) (vs : List V) (Q : VK) (E : XK), Room k (A.deeper (envOfC qual (defScope st) s.heap.objs.size f cdv)) → sp vs H Q E →
      ∃ t, PSs (cxOf CX0 P w K mg base N qual (defScope st) f cdv A outer s H E).nox (defBody st) t ∧ t { nx := fun _ H' => Q .non H', rt := Q } (start N vs) H) : FnOk P w K mg base CX0 (k + 1) f fd ps sp := by
  obtain ⟨oc, od, kV, doc, pm, an, cdv, ct, osl, rfl, lk, hcd⟩ := F.ex
  refine fn_of lk hcd S len fun A outer s H vs Q E hr hsp => ?_
  obtain ⟨t, h, q⟩ := hbody cdv A outer s H vs Q E hr hsp
  exact ⟨t, h.nox, q⟩
theorem Fun.binds {x qual : Str} {st : Stmt} {f : Addr} {fd : FuncData} {ps : List Str} (F : Fun K x qual st f fd)
    (h : ∀ (kV doc pm : Value) (an : Option Addr) (cdv ct : Value) (us : List Value), us.length = ps.length → bindArgs (PySem.W.fnOf x qual (defArgs st) (defBody st) (defScope st) .none kV doc pm an cdv ct) ⟨us, []⟩ = pure (ps.zip us)) : Binds K fd ps [] := by
  obtain ⟨oc, od, kV, doc, pm, an, cdv, ct, osl, rfl, lk, hcd⟩ := F.ex
  exact .all (h kV doc pm an cdv ct)
theorem fun_mk {x qual : Str} {st : Stmt} {f : Addr} {oc : Value} {od an : Option Addr} {osl : Array (Option Value)} {kV doc pm cdv ct : Value} (l : K.lookup f = some ⟨oc, od, .func (PySem.W.fnOf x qual (defArgs st) (defBody st) (defScope st) .none kV doc pm an cdv ct), osl⟩)
    (c : PySem.W.codeIn K cdv qual = true) (k : PySem.W.keepIn K (.ref f) = true) : Fun K x qual st f (PySem.W.fnOf x qual (defArgs st) (defBody st) (defScope st) .none kV doc pm an cdv ct) := ⟨⟨oc, od, kV, doc, pm, an, cdv, ct, osl, rfl, l, c⟩, k⟩
end
theorem hu_of {A : Around} {k : Nat} (hr : Room k A) : A.units + 1 < cLine := Nat.lt_of_le_of_lt (Nat.add_le_add_left (by decide : 1 ≤ 64) _) hr.units
section
variable {X : Cx}
theorem pv (i : Nat) {x : Str} {pos : Pos} (hN : X.N[i]? = some x := by rfl) (hv : Vis X.env.scope x := by first | exact Or.inl rfl | exact Or.inr (Or.inl rfl) | exact Or.inr (Or.inr rfl)) (hd : (x == ("__debug__" : Str)) = false := by decide)
    (hcd : (x == ("__classdict__" : Str)) = false := by decide) : PE X (.Name x pos) (tVar i) := pe_var hN hv hd hcd
end
theorem iteF {A B : Prop} (h : B) : if false = true then A else B := by
  rw [if_neg Bool.false_ne_true]
  exact h
theorem iteT {A B : Prop} (h : A) : if true = true then A else B := by
  rw [if_pos rfl]
  exact h
theorem ite2 {c A B : Prop} [Decidable c] (h1 : c → A) (h2 : ¬ c → B) : if c then A else B := by
  by_cases h : c
  · rw [if_pos h]
    exact h1 h
  · rw [if_neg h]
    exact h2 h
def Same (H H' : Hp) : Prop := ∀ b o, H b = some o → H' b = some o
theorem Same.refl (H : Hp) : Same H H := fun _ _ h => h
theorem Same.trans {H H1 H2 : Hp} (a : Same H H1) (b : Same H1 H2) : Same H H2 := fun c o h => b c o (a c o h)
theorem Same.free {H H' : Hp} (e : Same H H') {l : Addr} (h : H' l = Option.none) : H l = Option.none := by
  cases q : H l with
  | none => rfl
  | some o =>
    rw [e l o q] at h
    cases h
theorem Same.seq {K : PySem.W.Frag} {H H' : Hp} {a : Addr} {xs : List V} (e : Same H H') (h : SqL K H a xs) : SqL K H' a xs := by
  rcases h with (h | ⟨o, h⟩) | h
  · exact .inl (.inl (e _ _ h))
  · exact .inl (.inr ⟨o, e _ _ h⟩)
  · exact .inr h
section
variable {κ : Type} [DecidableEq κ]
end
end L2
set_option linter.all false
namespace UM
def stp (b : Bool) : Int := if b then 1 else -1
def tot (R : List Bool) : Int := (R.map stp).sum
def hts : Int → List Bool → List Int
  | h, [] => [h]
  | h, b :: r => h :: hts (h + stp b) r
theorem tot_cons (b : Bool) (r : List Bool) : tot (b :: r) = stp b + tot r := by simp [tot]
theorem hts_length (h : Int) (R : List Bool) : (hts h R).length = R.length + 1 := by
  induction R generalizing h with
  | nil => rfl
  | cons b r ih => show (hts (h + stp b) r).length + 1 = _; rw [ih]; rfl
theorem hts_ne (h : Int) (R : List Bool) : hts h R ≠ [] := by
  intro e
  have := hts_length h R
  rw [e] at this
  simp at this
theorem hts_last (h : Int) (R : List Bool) : (hts h R)[(hts h R).length - 1]? = some (h + tot R) := by
  induction R generalizing h with
  | nil => simp [hts, tot]
  | cons b r ih =>
    have e : (hts h (b :: r)).length - 1 = (hts (h + stp b) r).length - 1 + 1 := by
      rw [hts_length, hts_length]; simp
    rw [e]
    show (hts (h + stp b) r)[(hts (h + stp b) r).length - 1]? = _
    rw [ih, tot_cons]
    congr 1
    omega
abbrev Mv := Bool × Bool
def bk (m : Mv) : Mv := (!m.1, !m.2)
theorem bk_bk (m : Mv) : bk (bk m) = m := by obtain ⟨a, b⟩ := m; simp [bk]
def push (m : Mv) : List Mv → List Mv
  | [] => [m]
  | x :: r => if x = bk m then r else m :: x :: r
def red (w : List Mv) : List Mv := w.foldr push []
def Red : List Mv → Prop
  | [] => True
  | [_] => True
  | x :: y :: r => y ≠ bk x ∧ Red (y :: r)
def kept (w : List Mv) : List Mv := w.foldl (fun st m => push m st) []
end UM
set_option linter.all false
namespace UM
def plc (xs : List Int) (i : Int) : Option Int := if 0 ≤ i then xs[i.toNat]? else none
def eqo : Option Int → Option Int → Bool
  | some a, some b => a == b
  | _, _ => false
def alike (xs ys : List Int) (i j : Int) : Bool := eqo (plc xs i) (plc ys j)
def all4 : List Mv := [(true, true), (true, false), (false, true), (false, false)]
def mvs (xs ys : List Int) (i j : Int) : List Mv := all4.filter fun m => alike xs ys (i + stp m.1) (j + stp m.2)
theorem plc_nat (xs : List Int) (i : Nat) : plc xs i = xs[i]? := by unfold plc; rw [if_pos (by omega)]; rfl
theorem plc_some {xs : List Int} {i : Int} (h0 : 0 ≤ i) (h1 : i < xs.length) : ∃ x, plc xs i = some x ∧ xs[i.toNat]? = some x := by
  unfold plc
  rw [if_pos h0]
  exact ⟨xs[i.toNat], List.getElem?_eq_getElem (by omega), List.getElem?_eq_getElem (by omega)⟩
def clm (top : Int) : Int → List Int → List Bool
  | h, [] => List.replicate (top - h).toNat true
  | h, c :: r => if h = 0 ∨ (h < top ∧ c % 2 = 0) then true :: clm top (h + 1) r else false :: clm top (h - 1) r
structure CH (xs : List Int) (top : Int) : Prop where
  top1 : 1 ≤ top
  len : 2 ≤ xs.length
  first : xs[0]? = some 0
  last : xs[xs.length - 1]? = some top
  lo : ∀ x ∈ xs, 0 ≤ x
  hi : ∀ x ∈ xs, x ≤ top
  nb : ∀ (k : Nat) x y, xs[k]? = some x → xs[k + 1]? = some y → y = x + 1 ∨ y = x - 1
theorem hts_head (h : Int) (R : List Bool) : (hts h R)[0]? = some h := by cases R <;> rfl
def Nbs (h top : Int) (l r : Option Int) (e0 e1 : Prop) : Prop :=
  (l = none ∧ r = some (h + 1) ∧ h = 0 ∧ e0 ∧ ¬ e1) ∨ (l = some (h - 1) ∧ r = none ∧ h = top ∧ e1 ∧ ¬ e0) ∨
    ((¬ e0 ∧ ¬ e1) ∧ (l = some (h + 1) ∧ h ≠ top ∨ l = some (h - 1) ∧ h ≠ 0) ∧ (r = some (h + 1) ∧ h ≠ top ∨ r = some (h - 1) ∧ h ≠ 0))
def b2n (b : Bool) : Nat := if b then 1 else 0
theorem eqo_n (a : Option Int) : eqo none a = false := by cases a <;> rfl
theorem eqo_n' (a : Option Int) : eqo a none = false := by cases a <;> rfl
end UM
set_option linter.all false
namespace UM
abbrev Pr := Int × Int
def adv (p : Pr) (m : Mv) : Pr := (p.1 + stp m.1, p.2 + stp m.2)
theorem adv_bk (p : Pr) (m : Mv) : adv (adv p m) (bk m) = p := by
  obtain ⟨i, j⟩ := p
  obtain ⟨a, b⟩ := m
  cases a <;> cases b <;> simp [adv, bk, stp] <;> omega
theorem adv_bk' (p : Pr) (m : Mv) : adv (adv p (bk m)) m = p := by
  have := adv_bk p (bk m)
  rwa [bk_bk] at this
def alk (xs ys : List Int) (p : Pr) : Bool := alike xs ys p.1 p.2
theorem plc_in {xs : List Int} {i x : Int} (h : plc xs i = some x) : 0 ≤ i ∧ i < xs.length := by
  unfold plc at h
  by_cases q : 0 ≤ i
  · rw [if_pos q] at h
    obtain ⟨h1, _⟩ := List.getElem?_eq_some_iff.mp h
    exact ⟨q, by omega⟩
  · rw [if_neg q] at h
    cases h
theorem alike_in {xs ys : List Int} {i j : Int} (h : alike xs ys i j = true) : (0 ≤ i ∧ i < xs.length) ∧ (0 ≤ j ∧ j < ys.length) := by
  unfold alike at h
  cases e : plc xs i with
  | none => rw [e, eqo_n] at h; cases h
  | some x =>
    cases e' : plc ys j with
    | none => rw [e', eqo_n'] at h; cases h
    | some y => exact ⟨plc_in e, plc_in e'⟩
def wlk (xs ys : List Int) : Pr → List Mv → Option Pr
  | p, [] => some p
  | p, m :: r => if alk xs ys (adv p m) = true then wlk xs ys (adv p m) r else none
abbrev Dc := List (Pr × Option Mv)
abbrev ks (D : Dc) : List Pr := D.map (·.1)
inductive GD (xs ys : List Int) : Dc → Prop
  | base : GD xs ys [((0, 0), none)]
  | snoc {D : Dc} {p : Pr} {m : Mv} : GD xs ys D → p ∈ ks D → alk xs ys (adv p m) = true → adv p m ∉ ks D → GD xs ys (D ++ [(adv p m, some m)])
theorem ks_snoc (D : Dc) (p : Pr) (o : Option Mv) : ks (D ++ [(p, o)]) = ks D ++ [p] := by simp [ks]
theorem GD.foot {xs ys : List Int} {D : Dc} (g : GD xs ys D) : (0, 0) ∈ ks D := by
  induction g with
  | base => exact List.mem_cons_self
  | snoc _ _ _ _ ih => rw [ks_snoc]; exact List.mem_append_left _ ih
theorem GD.nodup {xs ys : List Int} {D : Dc} (g : GD xs ys D) : (ks D).Nodup := by
  induction g with
  | base => simp [ks]
  | snoc _ _ _ hn ih =>
    rw [ks_snoc]
    refine List.nodup_append.mpr ⟨ih, by simp, ?_⟩
    intro a ha b hb e
    rw [List.mem_singleton] at hb
    subst e hb
    exact hn ha
theorem GD.alk {xs ys : List Int} {D : Dc} (g : GD xs ys D) (h0 : alk xs ys (0, 0) = true) : ∀ p ∈ ks D, alk xs ys p = true := by
  induction g with
  | base =>
    intro p hp
    have : p = (0, 0) := by simpa [ks] using hp
    rw [this]; exact h0
  | snoc _ _ ha _ ih =>
    intro p hp
    rw [ks_snoc] at hp
    rcases List.mem_append.mp hp with h | h
    · exact ih p h
    · rw [List.mem_singleton] at h
      rw [h]; exact ha
def dlk (D : Dc) (p : Pr) : Option (Option Mv) := (D.find? fun e => decide (e.1 = p)).map (·.2)
theorem dlk_none {D : Dc} {p : Pr} : dlk D p = none ↔ p ∉ ks D := by
  unfold dlk ks
  rw [Option.map_eq_none_iff, List.find?_eq_none]
  constructor
  · intro h hm
    obtain ⟨e, he, q⟩ := List.mem_map.mp hm
    exact h e he (decide_eq_true q)
  · intro h e he q
    exact h (List.mem_map.mpr ⟨e, he, of_decide_eq_true q⟩)
theorem dlk_left {D E : Dc} {p : Pr} (h : p ∈ ks D) : dlk (D ++ E) p = dlk D p := by
  unfold dlk
  rw [List.find?_append]
  cases e : D.find? (fun e => decide (e.1 = p)) with
  | none =>
    exfalso
    have : dlk D p = none := by unfold dlk; rw [e]; rfl
    exact dlk_none.mp this h
  | some a => rfl
theorem dlk_right {D : Dc} {p : Pr} {o : Option Mv} (h : p ∉ ks D) : dlk (D ++ [(p, o)]) p = some o := by
  have e : D.find? (fun e => decide (e.1 = p)) = none := by
    have := dlk_none.mpr h
    unfold dlk at this
    exact Option.map_eq_none_iff.mp this
  unfold dlk
  rw [List.find?_append, e]
  simp
theorem ixl {a b : List Pr} {x : Pr} (h : x ∈ a) : (a ++ b).idxOf x = a.idxOf x := by rw [List.idxOf_append, if_pos h]
theorem GD.back {xs ys : List Int} {D : Dc} (g : GD xs ys D) {p : Pr} (hp : p ∈ ks D) (h0 : p ≠ (0, 0)) : ∃ m, dlk D p = some (some m) ∧ adv p (bk m) ∈ ks D ∧ (ks D).idxOf (adv p (bk m)) < (ks D).idxOf p := by
  induction g with
  | base =>
    exfalso
    exact h0 (by simpa [ks] using hp)
  | @snoc D q m g hq ha hn ih =>
    by_cases hm : p ∈ ks D
    · obtain ⟨n, h1, h2, h3⟩ := ih hm
      refine ⟨n, ?_, ?_, ?_⟩
      · rw [dlk_left hm]; exact h1
      · rw [ks_snoc]; exact List.mem_append_left _ h2
      · rw [ks_snoc, ixl h2, ixl hm]; exact h3
    · rw [ks_snoc] at hp
      have e : p = adv q m := by
        rcases List.mem_append.mp hp with h | h
        · exact absurd h hm
        · exact List.mem_singleton.mp h
      subst e
      refine ⟨m, ?_, ?_, ?_⟩
      · exact dlk_right hn
      · rw [ks_snoc, adv_bk]; exact List.mem_append_left _ hq
      · rw [ks_snoc, adv_bk, ixl hq, List.idxOf_append, if_neg hn]
        have := List.idxOf_lt_length_of_mem hq
        omega
theorem nodup_sub {α : Type} [DecidableEq α] : ∀ {a b : List α}, a.Nodup → (∀ x ∈ a, x ∈ b) → a.length ≤ b.length
  | [], b, _, _ => Nat.zero_le _
  | x :: a, b, h, s => by
    have hx : x ∈ b := s x List.mem_cons_self
    have h' := List.nodup_cons.mp h
    have := nodup_sub (a := a) (b := b.erase x) h'.2 fun y hy => (List.mem_erase_of_ne fun e => h'.1 (by rw [← e]; exact hy)).mpr (s y (List.mem_cons_of_mem _ hy))
    rw [List.length_erase_of_mem hx] at this
    have hb : 0 < b.length := List.length_pos_of_mem hx
    rw [List.length_cons]
    omega
def prs (xs ys : List Int) : List Pr := ((List.range xs.length).map fun i => ((List.range ys.length).map fun j => (((i : Nat) : Int), ((j : Nat) : Int)))).flatten
theorem mem_prs {xs ys : List Int} {p : Pr} : p ∈ prs xs ys ↔ (0 ≤ p.1 ∧ p.1 < xs.length) ∧ (0 ≤ p.2 ∧ p.2 < ys.length) := by
  unfold prs
  obtain ⟨i, j⟩ := p
  simp only [List.mem_flatten, List.mem_map, List.mem_range]
  constructor
  · rintro ⟨l, ⟨a, ha, rfl⟩, hl⟩
    obtain ⟨b, hb, e⟩ := List.mem_map.mp hl
    rw [List.mem_range] at hb
    cases e
    exact ⟨⟨by omega, by omega⟩, ⟨by omega, by omega⟩⟩
  · rintro ⟨⟨h1, h2⟩, h3, h4⟩
    refine ⟨_, ⟨i.toNat, by omega, rfl⟩, List.mem_map.mpr ⟨j.toNat, List.mem_range.mpr (by omega), ?_⟩⟩
    rw [Prod.mk.injEq]
    constructor <;> omega
def cnt (xs ys : List Int) : Nat := ((prs xs ys).filter (alk xs ys)).length
theorem GD.len {xs ys : List Int} {D : Dc} (g : GD xs ys D) (h0 : UM.alk xs ys (0, 0) = true) : D.length ≤ cnt xs ys := by
  have := nodup_sub (b := (prs xs ys).filter (UM.alk xs ys)) g.nodup fun p hp => by
    have ha := g.alk h0 p hp
    exact List.mem_filter.mpr ⟨mem_prs.mpr (alike_in ha), ha⟩
  rw [List.length_map] at this
  exact this
def Clo (xs ys : List Int) (K : List Pr) : Prop := ∀ p ∈ K, ∀ m, alk xs ys (adv p m) = true → adv p m ∈ K
def cm (xs ys : List Int) (K : List Pr) (m : Mv) : Nat := (K.filter fun p => alk xs ys (adv p m)).length
def Clm (R : List Bool) : Prop := ∀ x ∈ hts 0 R, 0 ≤ x ∧ x ≤ tot R
theorem alk00 (R S : List Bool) : alk (hts 0 R) (hts 0 S) (0, 0) = true := by
  unfold alk alike
  have h1 : plc (hts 0 R) 0 = some 0 := (plc_nat _ 0).trans (hts_head 0 R)
  have h2 : plc (hts 0 S) 0 = some 0 := (plc_nat _ 0).trans (hts_head 0 S)
  rw [h1, h2]
  rfl
end UM
set_option linter.all false
namespace UM
def ht (L : List Bool) (x : Int) : Int := (hts 0 L).getD x.toNat 0
def stAt (L : List Bool) (x : Int) : Bool := L.getD x.toNat false
def gone (L : List Bool) : Int → List Bool → List Bool
  | _, [] => []
  | p, true :: w => stAt L p :: gone L (p + 1) w
  | p, false :: w => (!stAt L (p - 1)) :: gone L (p - 1) w
def Wd (L : List Bool) (p : Int) (w : List Bool) : Prop := ∀ x ∈ hts p w, 0 ≤ x ∧ x ≤ L.length
def trc : Pr → List Mv → List Pr
  | p, [] => [p]
  | p, m :: r => p :: trc (adv p m) r
def cc (R : List Bool) (h : Int) : Nat := (hts 0 R).count h
def flz (R : List Bool) : Nat := R.count false
def pls (R : List Bool) (h : Int) : List Int := ((List.range (R.length + 1)).map fun n => ((n : Nat) : Int)).filter fun x => decide (ht R x = h)
def prod (a b : List Int) : List Pr := (a.map fun x => b.map fun y => (x, y)).flatten
inductive US (W : List Bool) : List (List Bool) → List (List Bool) → Prop
  | nil : US W [] []
  | cons {c w : List Bool} {cs ws : List (List Bool)} : hts 0 W = (hts 0 w).map (ht c) → Wd c 0 w → tot w = c.length → US W cs ws → US W (c :: cs) (w :: ws)
end UM
set_option linter.all false
namespace UM
def abt (R : List Bool) : List Bool := (R.map not).reverse
def Rng (R : List Bool) : Prop := tot R = 0 ∧ ∀ x ∈ hts 0 R, 0 ≤ x
def fl2 (m : Mv) : Mv := (m.1, !m.2)
def sw (m : Mv) : Mv := (m.2, m.1)
def drw : Int → List Int → List Bool
  | h, [] => List.replicate h.toNat false
  | h, c :: r => if h = 0 ∨ c % 2 = 0 then true :: drw (h + 1) r else false :: drw (h - 1) r
end UM
set_option Elab.async false
set_option linter.all false
set_option maxRecDepth 100000
set_option maxHeartbeats 4000000
namespace L2
open PySem PySem.Spec PyProof.Rows
def sg (c : Nat) : V := .str ⟨#[c]⟩
def Its (z : Str) : It := ⟨fun i _ => i < z.cps.size, fun i H v H' => H' = H ∧ ∃ c, z.cps[i]? = some c ∧ v = sg c, fun i _ => i = z.cps.size⟩
theorem go_str {M : Model} {A : Around} {E : Value → Shared → Prop} {s : Shared} {tg : Expr} {it : Addr} {z : Str} {t : Tok} {Q : Unit → Shared → Prop} (hQ : Q () s) :
    wpAny M A (letOwnedTupleGo tg (.ref it) (.str z t)) Q E s := by
  unfold letOwnedTupleGo
  cases tg <;> exact wpAny_pure hQ
theorem turn_str {P : Program} {w : World} {K : PySem.W.Frag} {tg : Expr} {it : Addr} {z : Str} {t : Tok} {ty : String}
    (W : ∀ A' : Around, A'.handled = none → Walks P w A' it [it] [it] z.cps.size (SignAt z) (fun i h => h.IsStrIter it ty z t i))
    (sf : ∀ (A : Around) (i : Nat) (s : Shared) (Q : Value → Shared → Prop) (E : Value → Shared → Prop), s.heap.IsStrIter it ty z t i → Q (.ref it) s → wpAny (model P w) A (pyIter (.ref it)) Q E s) :
    Turn P w K tg (Its z) [it] it (fun i h => h.IsStrIter it ty z t i) where
  mem := by simp
  obj := fun i h st b hb => by
    have e : b = it := by simpa using hb
    subst e
    obtain ⟨o, e, c, d⟩ := st
    exact ⟨o, e, fun v z => by rw [d] at z; cases z⟩
  keep := fun i h h' st k => by
    obtain ⟨o, e, r⟩ := st
    exact ⟨o, k it (by simp) o e, r⟩
  item := by
    intro X hP hw hK hc i pins s σ H E I hf st hg
    subst hP hw hK
    obtain ⟨f0, f1, f2, f3, f4, f5⟩ := hf it (by simp)
    refine (W X.A (I.ok.hd hc)).item i s _ _ hg st fun v h' tk hv st' kk => ?_
    obtain ⟨c, u, hcx, rfl⟩ := hv
    have I1 : Inv X pins σ H { s with heap := h', toks := tk } := I.turned (fun b o hb e => kk b o (by simpa using hb) e) f0 f1 f3 f4 f5
    exact ⟨_, rfl, go_str ⟨sg c, H, I1, ⟨_, rfl⟩, ⟨rfl, c, hcx, rfl⟩, st', fun b hb => (hf b hb).1⟩⟩
  done := by
    intro X hP hw hK hc i pins s σ H E I hf st hg
    subst hP hw hK
    obtain ⟨f0, f1, f2, f3, f4, f5⟩ := hf it (by simp)
    have hg : i = z.cps.size := hg
    subst hg
    exact (W X.A (I.ok.hd hc)).done s _ _ st fun h' tk kk => ⟨rfl, I.turned (fun b o hb e => kk b o (by simpa using hb) e) f0 f1 f3 f4 f5⟩
  self := fun A i s Q E st h => sf A i s Q E st h
def iStr (tl : TE) : TI := fun σ H R => tl σ H fun x H1 => ∃ z, x = .str z ∧ R (Its z) H1
theorem pi_str {X : Cx} {tg l : Expr} {tl : TE} (hl : PE X l tl) : PI X tg l (iStr tl) := by
  intro pins s σ H R I h
  refine thn (hl pins s σ H _ I h) fun v s1 ⟨x, H1, I1, r1, q1⟩ => ?_
  obtain ⟨z, e, q⟩ := q1
  subst e
  obtain ⟨t, rfl⟩ := r1
  have fp : ∀ b, b ∈ [s1.heap.objs.size] → FpOk X pins H1 b := fun b hb => by
    have e : b = s1.heap.objs.size := by simpa using hb
    subst e
    exact I1.fpOk (Nat.le_refl _) (I1.hok.fresh (Nat.le_refl _))
  cases ha : z.cps.all (· < 128)
  · exact wpAny_pyIter_wide ha ⟨s1.heap.objs.size, [s1.heap.objs.size], _, _, H1, rfl, I1.kept (t' := s1.toks) fun b o e => Heap.get?_push_of_some _ e,
      turn_str (ty := "str_iterator") (fun A' hA => Walks.strWide hA _ z t) (fun _ _ _ _ _ st h => wpAny_pyIter_striter_wide st h), ⟨_, Heap.get?_push_size _ rfl, rfl, rfl⟩, fp, q⟩
  · exact wpAny_pyIter_ascii ha ⟨s1.heap.objs.size, [s1.heap.objs.size], _, _, H1, rfl, I1.kept (t' := s1.toks) fun b o e => Heap.get?_push_of_some _ e,
      turn_str (ty := "str_ascii_iterator") (fun A' hA => Walks.strAscii hA _ z t) (fun _ _ _ _ _ st h => wpAny_pyIter_striter_ascii st h), ⟨_, Heap.get?_push_size _ rfl, rfl, rfl⟩, fp, q⟩
structure ItOf (J : It) (xs : List V) (G : Hp → Prop) : Prop where
  go : ∀ i H, i < xs.length → G H → J.go i H
  yld : ∀ i H x H', G H → J.yld i H x H' → i < xs.length → H' = H ∧ xs[i]? = some x
  stop : ∀ H, G H → J.stop xs.length H
theorem ItOf.list (K : PySem.W.Frag) (a : Addr) (xs : List V) : ItOf (Itl K a) xs (fun H => SqL K H a xs) where
  go := fun i H hi g => ⟨xs, xs[i], g, by simp [hi]⟩
  yld := fun i H x H' g y hi => ⟨y.1, y.2 xs g⟩
  stop := fun H g => ⟨xs, g, Nat.le_refl _⟩
theorem ItOf.tup (K : PySem.W.Frag) (a : Addr) (xs : List V) : ItOf (Itt K a) xs (fun H => SqT K H a xs) where
  go := fun i H hi g => ⟨xs, xs[i], g, by simp [hi]⟩
  yld := fun i H x H' g y hi => ⟨y.1, y.2 xs g⟩
  stop := fun H g => ⟨xs, g, Nat.le_refl _⟩
def rngV (lo : Int) (n : Nat) : List V := (List.range n).map fun (i : Nat) => V.int (lo + (i : Int))
def sgs (z : Str) : List V := z.cps.toList.map sg
theorem ItOf.str (z : Str) : ItOf (Its z) (sgs z) (fun _ => True) where
  go := fun i H hi _ => by show i < z.cps.size; simpa [sgs] using hi
  yld := fun i H x H' _ y hi => by
    obtain ⟨e, c, hc, hx⟩ := y
    refine ⟨e, ?_⟩
    subst hx
    simp [sgs, List.getElem?_map, hc]
  stop := fun H _ => by show (sgs z).length = z.cps.size; simp [sgs]
theorem for_each {J : It} {xs : List V} {G : Hp → Prop} (hJ : ItOf J xs G) {g : TG} {tb : TS} {D : Ends} {σ : St} {H : Hp} (Pv : List V → St → Hp → Prop)
    (h0 : Pv xs σ H) (hl : ∀ r σ H, Pv r σ H → G H)
    (hs : ∀ x r σ H, Pv (x :: r) σ H → g x σ H fun σ2 H2 => tb { D with nx := Pv r, ct := Pv r, bk := D.nx } σ2 H2) (hd : ∀ σ H, Pv [] σ H → D.nx σ H) :
    ∃ W : Nat → Nat → St → Hp → Prop, (∃ m, W 0 m σ H) ∧ ∀ i m σ H, W i m σ H →
      (J.stop i H ∧ D.nx σ H) ∨ (J.go i H ∧ ∃ N : St → Hp → Prop, (∀ σ' H', N σ' H' → ∃ m', m' < m ∧ W (i + 1) m' σ' H') ∧ ∀ x H', J.yld i H x H' → g x σ H' fun σ2 H2 => tb { D with nx := N, ct := N, bk := D.nx } σ2 H2) := by
  refine ⟨fun i m σ H => m = xs.length - i ∧ i ≤ xs.length ∧ Pv (xs.drop i) σ H, ⟨xs.length, by simp, Nat.zero_le _, by simpa using h0⟩, ?_⟩
  rintro i m σ H ⟨rfl, hi, p⟩
  have q := hl _ σ H p
  by_cases hlt : i < xs.length
  · have ed : xs.drop i = xs[i] :: xs.drop (i + 1) := List.drop_eq_getElem_cons hlt
    refine .inr ⟨hJ.go i H hlt q, Pv (xs.drop (i + 1)), fun σ' H' p' => ⟨xs.length - (i + 1), by omega, rfl, hlt, p'⟩, fun x H' y => ?_⟩
    obtain ⟨e, yx⟩ := hJ.yld i H x H' q y hlt
    subst e
    rw [List.getElem?_eq_getElem hlt] at yx
    cases yx
    rw [ed] at p
    exact hs _ _ σ _ p
  · have e : i = xs.length := by omega
    subst e
    exact .inl ⟨hJ.stop H q, hd σ H (by simpa using p)⟩
section
variable {prog : Program} {w : World} {A : Around} {R : Result → Shared → Prop} {s : Shared}
theorem compLoop_any {elt target iter : Expr} {ifs : List Expr} {scope : Scope} {pos : Pos} {it acc : Value} {env : Env} (I : Nat → Shared → Prop)
    (turn : ∀ n s, I n s → wpAny (model prog w) A (pyNext it) (fun r s₁ => match r with
      | none => R (.ok .next) s₁
      | some v => wpAny (model prog w) A (letOwnedTupleGo target it v) (fun _ s₁' => wpAny (model prog w) A (assign target env v) (fun _ s₂ =>
          wpAny (model prog w) A (forIn ifs true fun c r => if r = true then do let ok ← isTrue c env (eval c env); pure (ForInStep.yield ok) else pure (ForInStep.yield r)) (fun ok s₃ =>
            if ok = true then wpAny (model prog w) A (eval elt env) (fun x s₄ =>
              wpAny (model prog w) A (call (.builtin "list.append") [acc, x]) (fun _ s₅ => ∃ m, m < n ∧ I m s₅) (fun _ _ => False) s₄) (fun _ _ => False) s₃
            else ∃ m, m < n ∧ I m s₃) (fun _ _ => False) s₂) (fun _ _ => False) s₁') (fun _ _ => False) s₁) (fun _ _ => False) s)
    (n : Nat) (h : I n s) :
    codeAny (model prog w) A (.compLoop (.ListComp elt [⟨target, iter, ifs, 0⟩] scope pos) 0 it acc env) R s := by
  refine codeAny_loop rfl I (fun n s hI => ?_) n h
  show wpAny _ A ((compTurn (.ListComp elt [⟨target, iter, ifs, 0⟩] scope pos) 0 it acc env).onRaise (fun x => do noteFrame x env; theTreesLotGoes x)) _ _ s
  refine wpAny_noted ?_
  rw [compTurn_list]
  refine wpAny_bind (wpAny_standAt (wpAny_bind (wpAny_mono (turn n s hI) (fun r s₁ h₁ => ?_) fun _ _ h' => h'.elim)))
  cases r with
  | none => exact wpAny_pure h₁
  | some v =>
    refine wpAny_bind (wpAny_mono h₁ (fun _ s₁' h₁' => ?_) fun _ _ h' => h'.elim)
    refine wpAny_bind (wpAny_mono h₁' (fun _ s₂ h₂ => wpAny_bind (wpAny_mono h₂ (fun ok s₃ h₃ => ?_) fun _ _ h' => h'.elim)) fun _ _ h' => h'.elim)
    cases ok with
    | false => exact wpAny_pure ⟨rfl, h₃⟩
    | true =>
      exact wpAny_bind (wpAny_bind (wpAny_mono h₃ (fun x s₄ h₄ => wpAny_bind (wpAny_mono h₄ (fun _ s₅ h₅ => wpAny_pure (wpAny_pure ⟨rfl, h₅⟩)) fun _ _ h' => h'.elim)) fun _ _ h' => h'.elim))
end
theorem closure_go {env : Env} : ∀ (names : List (Str × NameKind)) (acc : List (Str × Addr)), (∀ y ∈ names, y.2 = .free → ∃ c, env.cells.lookup y.1 = some c) → (∀ n c, acc.lookup n = some c → env.cells.lookup n = some c) →
    ∃ cl : List (Str × Addr), (forIn names acc fun x (cs : List (Str × Addr)) => if (x.2 == NameKind.free) = true then (do let a ← cellOf env x.1; pure (ForInStep.yield ((x.1, a) :: cs))) else pure (ForInStep.yield cs) : Sem (List (Str × Addr))) = pure cl ∧
      (∀ n c, cl.lookup n = some c → env.cells.lookup n = some c) ∧ (∀ n, (acc.lookup n).isSome = true → (cl.lookup n).isSome = true) ∧ ∀ y ∈ names, y.2 = .free → (cl.lookup y.1).isSome = true := by
  intro names
  induction names with
  | nil => intro acc _ ha; exact ⟨acc, rfl, ha, fun _ h => h, fun y hy => nomatch hy⟩
  | cons y r ih =>
    intro acc h ha
    obtain ⟨n, k⟩ := y
    rw [List.forIn_cons]
    by_cases hk : k = .free
    · subst hk
      obtain ⟨c, hc⟩ := h (n, .free) List.mem_cons_self rfl
      have hc : env.cells.lookup n = some c := hc
      obtain ⟨cl, e, h1, h2, h3⟩ := ih ((n, c) :: acc) (fun y hy => h y (List.mem_cons_of_mem _ hy)) (fun m d hm => by
        rw [List.lookup_cons] at hm
        cases q : (m == n) with
        | true => rw [q] at hm; have e : m = n := beq_iff_eq.mp q; subst e; cases hm; exact hc
        | false => rw [q] at hm; exact ha m d hm)
      have hin : ((cl.lookup n).isSome) = true := h2 n (by rw [List.lookup_cons, beq_self_eq_true]; rfl)
      refine ⟨cl, ?_, h1, fun m hm => h2 m ?_, fun y hy hf => ?_⟩
      · have e0 : cellOf env n = pure c := by unfold cellOf; rw [hc]
        simp only [beq_self_eq_true, if_true]
        rw [e0, pure_bind, pure_bind]
        exact e
      · rw [List.lookup_cons]
        cases q : (m == n) with
        | true => rfl
        | false => exact hm
      · rcases List.mem_cons.mp hy with rfl | hy
        · exact hin
        · exact h3 y hy hf
    · have hb : (k == NameKind.free) = false := by simpa using hk
      obtain ⟨cl, e, h1, h2, h3⟩ := ih acc (fun y hy => h y (List.mem_cons_of_mem _ hy)) ha
      refine ⟨cl, ?_, h1, h2, fun y hy hf => ?_⟩
      · simp only [hb, Bool.false_eq_true, if_false]
        rw [pure_bind]
        exact e
      · rcases List.mem_cons.mp hy with rfl | hy
        · exact absurd hf hk
        · exact h3 y hy hf
theorem closureFor_of {scope : Scope} {env : Env} (h : ∀ y ∈ scope.names, y.2 = .free → ∃ c, env.cells.lookup y.1 = some c) :
    ∃ cl, closureFor scope env = pure cl ∧ (∀ n c, cl.lookup n = some c → env.cells.lookup n = some c) ∧ ∀ y ∈ scope.names, y.2 = .free → (cl.lookup y.1).isSome = true := by
  obtain ⟨cl, e, h1, _, h3⟩ := closure_go scope.names [] h (fun n c q => nomatch q)
  refine ⟨cl, ?_, h1, h3⟩
  have e2 : closureFor scope env = (forIn scope.names ([] : List (Str × Addr)) fun x (cs : List (Str × Addr)) => if (x.2 == NameKind.free) = true then (do let a ← cellOf env x.1; pure (ForInStep.yield ((x.1, a) :: cs))) else pure (ForInStep.yield cs) : Sem (List (Str × Addr))) >>= fun cs => pure cs := rfl
  rw [e2, e]
  rfl
theorem lookup_relabel {env : Env} {x : Str} : ∀ {names : List (Str × NameKind)},
    (names.map fun (n, k) => if (k == NameKind.free && env.scope.kind == .function && env.kindOf n == some .cell) then (n, NameKind.cell) else (n, k)).lookup x = names.lookup x ∨
    (names.lookup x = some .free ∧ (names.map fun (n, k) => if (k == NameKind.free && env.scope.kind == .function && env.kindOf n == some .cell) then (n, NameKind.cell) else (n, k)).lookup x = some .cell)
  | [] => .inl rfl
  | (n, k) :: r => by
    have ih := @lookup_relabel env x r
    rw [List.map_cons]
    by_cases hc : (k == NameKind.free && env.scope.kind == .function && env.kindOf n == some .cell) = true
    · dsimp only
      rw [if_pos hc, List.lookup_cons, List.lookup_cons]
      cases hx : x == n with
      | true =>
        rw [Bool.and_eq_true, Bool.and_eq_true] at hc
        have e : k = .free := by simpa using hc.1.1
        subst e
        exact .inr ⟨rfl, rfl⟩
      | false => exact ih
    · dsimp only
      rw [if_neg hc, List.lookup_cons, List.lookup_cons]
      cases hx : x == n with
      | true => exact .inl rfl
      | false => exact ih
def cxC (X : Cx) (N' : List Str) (sc : Scope) (cl : List (Str × Addr)) (C : Addr) (s : Shared) (H : Hp) (fp : List Addr) : Cx where
  prog := X.prog
  w := X.w
  K := X.K
  mg := X.mg
  base := X.base
  A := X.A
  N := N'
  s₀ := s
  H₀ := H
  env := compEnvC sc cl C X.env
  outer := X.stack
  stack := X.stack
  ex := fp
  fn := fun _ => false
  calm := X.calm
  pn := []
  xe := fun _ _ => False
structure CompOk (N : List Str) (dsc sc : Scope) (x : Str) (ns : List Str) (ix : List Nat) : Prop where
  kind : sc.kind = .function
  cell : ∀ y ∈ sc.names, y.2 ≠ .cell
  loc : ∀ y ∈ sc.names, y.2 = .local → sc.names.lookup y.1 = some .local
  tgt : sc.names.lookup x = some .local
  free : ∀ y ∈ sc.names, y.2 = .free → dsc.names.lookup y.1 = some .cell ∨ dsc.names.lookup y.1 = some .free
  from_ : ns.map some = ix.map fun i => N[i]?
  frk : ∀ n ∈ ns, sc.names.lookup n = some .free
  nd : (x :: ns).Nodup
def freeSt (σ : St) (ix : List Nat) : St := none :: ix.map fun i => (σ[i]?).join
theorem comp_start {X : Cx} {sc : Scope} {x : Str} {ns : List Str} {ix : List Nat} {cl : List (Str × Addr)} {pins : List (Addr × Obj)} {σ : St} {H : Hp} {s s4 : Shared} {fp : List Addr} (c : CompOk X.N X.env.scope sc x ns ix)
    (I : Inv X pins σ H s) (hfp : ∀ b ∈ fp, FpOk X pins H b) (hfl : ∀ b ∈ fp, b < s.heap.objs.size) (h1 : ∀ n d, cl.lookup n = some d → X.env.cells.lookup n = some d) (h2 : ∀ y ∈ sc.names, y.2 = .free → (cl.lookup y.1).isSome = true)
    (hos : s4.os = s.os) (hg : s4.gens = s.gens) {m : Str → Option Value} (hn : s4.heap.Ns s.heap.objs.size m) (kk : ∀ b o, s.heap.get? b = some o → s4.heap.get? b = some o) :
    Inv (cxC X (x :: ns) sc cl s.heap.objs.size s H fp) [] (freeSt σ ix) H s4 := by
  have rl : ∀ y k, (relabel sc X.env).names.lookup y = some k → k = .cell ∨ k = .free → sc.names.lookup y = some .free := fun y k e hk => by
    rcases @lookup_relabel X.env y sc.names with q | ⟨q, _⟩
    · have e' : sc.names.lookup y = some k := by rw [← q]; exact e
      rcases hk with rfl | rfl
      · exact absurd rfl (c.cell _ (PySem.mem_of_lookup e'))
      · exact e'
    · exact q
  refine ⟨⟨I.ok.mod, c.kind, I.ok.glob, I.ok.blt, Nat.le_refl _, fun y z d a b => I.ok.inj y z d (h1 y d a) (h1 z d b), fun y hy => ?_, fun y d hf _ => absurd hf Bool.false_ne_true, I.ok.hd, I.ok.frames, .inl rfl, fun b hb => ⟨Nat.ne_of_lt (hfl b hb), fun y d e => (hfp b hb).2.2.2.2.1 y d (h1 y d e)⟩,
    I.bs, Nat.le_trans I.ok.bsz I.sz, fun b o e hb => ?_, fun b hb z => ?_, I.stack, I.stkFree⟩, hos, by rw [hg]; exact I.bare, Un.kept kk, ⟨m, hn, fun i y v e1 e2 e3 => ?_⟩, fun y d e => ?_, I.fresh, fun y d e => I.freeC y d (h1 y d e), fun p hp => absurd hp (by show p ∉ ([] : List (Addr × Obj)) ++ []; simp), I.hok.kept kk, ?_⟩
  · have hy : (relabel sc X.env).names.lookup y = some .cell ∨ (relabel sc X.env).names.lookup y = some .free := hy
    have hf : sc.names.lookup y = some .free := hy.elim (fun e => rl y _ e (.inl rfl)) fun e => rl y _ e (.inr rfl)
    exact Option.isSome_iff_exists.mp (h2 _ (PySem.mem_of_lookup hf) rfl)
  · rcases (hfp b hb).2.2.2.1 with z | z
    · exact I.ok.noex b o e z
    · exact absurd (Nat.lt_of_lt_of_le (Nat.lt_of_lt_of_le (Heap.lt_size e) I.ok.bsz) z) (Nat.lt_irrefl _)
  · rcases List.mem_cons.mp (I.stkSub b z) with q | q
    · exact (hfp b hb).2.1 q
    · exact (hfp b hb).2.2.1 q
  · cases i with
    | zero => exact absurd (show some (none : Option V) = some (some v) from e2) (by simp)
    | succ j =>
      have e1 : ns[j]? = some y := e1
      have e2 : (ix.map fun i => (σ[i]?).join)[j]? = some (some v) := e2
      have e4 : (ns.map some)[j]? = some (some y) := by rw [List.getElem?_map, e1]; rfl
      rw [c.from_, List.getElem?_map] at e4
      rw [List.getElem?_map] at e2
      cases hi : ix[j]? with
      | none => rw [hi] at e4; cases e4
      | some k =>
        rw [hi] at e4 e2
        have e4 : X.N[k]? = some y := Option.some.inj e4
        have e2 : (σ[k]?).join = some v := Option.some.inj e2
        have e5 : σ[k]? = some (some v) := by
          cases q : σ[k]? with
          | none => rw [q] at e2; cases e2
          | some z => rw [q] at e2; rw [show z = some v from e2]
        have hfr := c.frk y (List.mem_of_getElem? e1)
        have hkf := c.free (y, .free) (PySem.mem_of_lookup hfr) rfl
        obtain ⟨m0, hn0, hl0⟩ := I.loc
        obtain ⟨u, ru, lu⟩ := hl0 k y v e4 e5 (hkf.elim (fun z => .inr (.inl z)) fun z => .inr (.inr z))
        refine ⟨u, ru, .inr ⟨?_, ?_⟩⟩
        · show (relabel sc X.env).names.lookup y = some .cell ∨ (relabel sc X.env).names.lookup y = some .free
          rcases @lookup_relabel X.env y sc.names with q | ⟨_, q⟩
          · exact .inr (q.trans hfr)
          · exact .inl q
        · rcases lu with ⟨lk, _⟩ | ⟨_, d, e, z⟩
          · rcases hkf with q | q <;> · have q : X.env.kindOf y = _ := q; rw [lk] at q; cases q
          · obtain ⟨d', e'⟩ := Option.isSome_iff_exists.mp (h2 (y, .free) (PySem.mem_of_lookup hfr) rfl)
            have e'' := h1 y d' e'
            rw [e] at e''
            cases e''
            refine ⟨d, e', ?_⟩
            obtain ⟨o, ho, hd⟩ := z
            exact ⟨o, kk d o ho, hd⟩
  · obtain ⟨v, o, ho, hd⟩ := I.cell y d (h1 y d e)
    exact ⟨v, o, kk d o ho, hd⟩
  · have e := congrArg List.length c.from_
    rw [List.length_map, List.length_map] at e
    show (freeSt σ ix).length = (x :: ns).length
    unfold freeSt
    rw [List.length_cons, List.length_cons, List.length_map, e]
def PIfs (X : Cx) (ifs : List Expr) (t : TT) : Prop :=
  ∀ (pins : List (Addr × Obj)) (s : Shared) (σ : St) (H : Hp) (Q : Bool → Hp → Prop), Inv X pins σ H s → t σ H Q →
    wpAny (model X.prog X.w) X.A (forIn ifs true fun c r => if r = true then do let ok ← isTrue c X.env (eval c X.env); pure (ForInStep.yield ok) else pure (ForInStep.yield r)) (TP X pins σ Q) X.xe s
def tYes : TT := fun _ H Q => Q true H
theorem pifs_nil {X : Cx} : PIfs X [] tYes := fun _ _ _ H _ I h => wpAny_tests_nil ⟨H, I, h⟩
theorem pifs_one {X : Cx} {c : Expr} {t : TT} (hc : PT X c t) : PIfs X [c] t := fun pins s σ H Q I h => wpAny_tests_one (hc pins s σ H Q I h)
def CompW (J : It) (σ0 : St) (tt : TT) (te : TE) (Q : VK) (D : Addr) (H1 : Hp) : Prop :=
  ∃ W : Nat → Nat → List V → Hp → Prop, (∃ m, W 0 m [] (upd H1 D (.lst []))) ∧ ∀ i m ys H2, W i m ys H2 →
    H2 D = some (.lst ys) ∧ ((J.stop i H2 ∧ Q (.ref D) H2) ∨ (J.go i H2 ∧ ys.length < sizeLine ∧ ∀ x H3, J.yld i H2 x H3 →
      tt (σ0.set 0 (some x)) H3 fun b H5 => if b = true then te (σ0.set 0 (some x)) H5 fun y H6 => H6 D = some (.lst ys) ∧ ∃ m', m' < m ∧ W (i + 1) m' (ys ++ [y]) (upd H6 D (.lst (ys ++ [y])))
        else ∃ m', m' < m ∧ W (i + 1) m' ys H5))
def tComp (wi : TI) (ix : List Nat) (tt : TT) (te : TE) : TE := fun σ H Q => wi σ H fun J H1 => ∀ D, H1 D = none → CompW J (freeSt σ ix) tt te Q D H1
section
variable {X : Cx} {elt iter : Expr} {x : Str} {px : Pos} {ifs : List Expr} {sc : Scope} {pos : Pos} {ns : List Str} {ix : List Nat} {wi : TI} {tt : TT} {te : TE}
theorem comp_block (c : CompOk X.N X.env.scope sc x ns ix) (hc : X.calm = true) (hi : PI X (.Name x px) iter wi)
    (ht : ∀ cl C s H fp, PIfs (cxC X (x :: ns) sc cl C s H fp) ifs tt) (he : ∀ cl C s H fp, PE (cxC X (x :: ns) sc cl C s H fp) elt te)
    {pins : List (Addr × Obj)} {s : Shared} {σ : St} {H : Hp} {Q : VK} {use : Option (Value → Sem Unit)} {QQ : Value → Shared → Prop} (I : Inv X pins σ H s) (h : tComp wi ix tt te σ H Q)
    (fin : ∀ (D C : Addr) (s5 : Shared) (m : Str → Option Value) (H5 : Hp), s5.heap.Ns C m → Q (.ref D) H5 → FpOk X pins H5 C → Inv X pins σ H5 s5 →
      compPost (model X.prog X.w) X.A X.xe use QQ (.ref D) C (.ok .next) s5)
    (hs : ∀ x, foldedSetIterable iter X.env x = pure x) :
    wpAny (model X.prog X.w) X.A (comprehension (.ListComp elt [⟨.Name x px, iter, ifs, 0⟩] sc pos) sc X.env (firstIterPos [⟨.Name x px, iter, ifs, 0⟩] pos) (newList []) false (eval iter X.env) use) QQ X.xe s := by
  have hcl0 : ∀ y ∈ sc.names, y.2 = .free → ∃ d, X.env.cells.lookup y.1 = some d := fun y hy hf => I.ok.has y.1 (c.free y hy hf)
  obtain ⟨cl, ecl, h1, h2⟩ := closureFor_of hcl0
  refine wpAny_comprehension_free (use := use) rfl hs ecl c.kind c.loc (wpAny_mono (hi pins s σ H _ I h) (fun xv s₁ q₁ => wpAny_mono q₁ (fun it s₂ q₂ => ?_) fun _ _ e => e) fun _ _ e => e)
  obtain ⟨ita, fp, tn, J, H2, e, I2, T, st2, f2, hW⟩ := q₂
  subst e
  have hfl2 : ∀ b ∈ fp, b < s₂.heap.objs.size := fun b hb => by
    obtain ⟨o, e, _⟩ := T.obj _ _ st2 b hb
    exact Heap.lt_size e
  refine wpAny_newObj_type ?_
  generalize hs3 : ({ s₂ with heap := s₂.heap.push { cls := .type "list", dict := none, data := .seq ([] : List Value).toArray } } : Shared) = s3
  have I3 : Inv X pins σ (upd H2 s₂.heap.objs.size (.lst [])) s3 := by
    rw [← hs3]
    exact I2.lnew (ys := []) (t' := s₂.toks) .nil (Nat.zero_le _)
  have hsz3 : s3.heap.objs.size = s₂.heap.objs.size + 1 := by rw [← hs3]; exact Heap.size_push ..
  have kk3 : ∀ b o, s₂.heap.get? b = some o → s3.heap.get? b = some o := fun b o e => by rw [← hs3]; exact Heap.get?_push_of_some _ e
  have hD : H2 s₂.heap.objs.size = none := I2.fresh
  generalize hDn : s₂.heap.objs.size = D at *
  have fD : ∀ b ∈ fp, b ≠ D := fun b hb => Nat.ne_of_lt (hfl2 b hb)
  have f3 : ∀ b ∈ fp, FpOk X pins (upd H2 D (.lst [])) b := fun b hb => ⟨by rw [upd_ne (fD b hb)]; exact (f2 b hb).1, (f2 b hb).2⟩
  have hfl3 : ∀ b ∈ fp, b < s3.heap.objs.size := fun b hb => Nat.lt_of_lt_of_le (hfl2 b hb) (by rw [hsz3]; exact Nat.le_succ _)
  have st3 : tn 0 s3.heap := T.keep _ _ _ st2 fun b _ o e => kk3 b o e
  refine wpAny_newFunctionEnv c.cell (by intro y hy; simp at hy) (fun h₁ hns₁ hsb₁ => ?_) c.kind
  have kk4 : ∀ b o, s3.heap.get? b = some o → h₁.get? b = some o := fun b o e => (hsb₁.2 b (Nat.ne_of_lt (Heap.lt_size e))).trans (Heap.get?_push_of_some _ e)
  have I4 := comp_start (s4 := { s3 with heap := h₁, toks := s3.toks + ([] : List (Str × Value)).length }) c I3 f3 hfl3 h1 h2 rfl rfl hns₁ kk4
  have st4 : tn 0 h₁ := T.keep _ _ _ st3 fun b _ o e => kk4 b o e
  obtain ⟨W, ⟨m0, w0⟩, turn⟩ := hW D hD
  have hDC : s3.heap.objs.size ≠ D := by omega
  have fpf : ∀ {H' : Hp}, (∀ b ∈ fp, H' b = none) → ∀ b ∈ fp, FpOk (cxC X (x :: ns) sc cl s3.heap.objs.size s3 (upd H2 D (.lst [])) fp) [] H' b := fun hn b hb =>
    ⟨hn b hb, Nat.ne_of_lt (hfl3 b hb), fun z => (List.mem_cons.mp (I3.stkSub b z)).elim (f3 b hb).2.1 (f3 b hb).2.2.1, .inl hb, fun y d e => (f3 b hb).2.2.2.2.1 y d (h1 y d e), fun p hp => absurd hp (by show p ∉ ([] : List (Addr × Obj)) ++ []; simp)⟩
  have loop : ∀ s4 : Shared, s4 = { s3 with heap := h₁, toks := s3.toks + ([] : List (Str × Value)).length } →
      codeAny (model X.prog X.w) X.A (.compLoop (.ListComp elt [⟨.Name x px, iter, ifs, 0⟩] sc pos) 0 (.ref ita) (.ref D) (compEnvC sc cl s3.heap.objs.size X.env)) (compPost (model X.prog X.w) X.A X.xe use QQ (.ref D) s3.heap.objs.size) s4 := by
    rintro s4 rfl
    refine compLoop_any (fun n s' => ∃ i ys H', Inv (cxC X (x :: ns) sc cl s3.heap.objs.size s3 (upd H2 D (.lst [])) fp) [] (freeSt σ ix) H' s' ∧ tn i s'.heap ∧ (∀ b ∈ fp, H' b = none) ∧ W i n ys H') ?_ m0
      ⟨0, [], _, I4, st4, fun b hb => (f3 b hb).1, w0⟩
    rintro n s5 ⟨i, ys, H5, I5, st5, fr5, w5⟩
    obtain ⟨hD5, w5⟩ := turn i n ys H5 w5
    rcases w5 with ⟨stop, qn⟩ | ⟨go, hlen, step⟩
    · refine thn (T.done (cxC X (x :: ns) sc cl s3.heap.objs.size s3 (upd H2 D (.lst [])) fp) rfl rfl rfl hc i [] s5 _ H5 _ I5 (fpf fr5) st5 stop) fun r s6 ⟨hr, I6⟩ => ?_
      subst hr
      obtain ⟨m, hn6, _⟩ := I6.loc
      have un6 : Un (frs X.stack) fp (upd H2 D (.lst [])) H5 s3.heap s6.heap := I6.base
      have hch : ∀ b ∈ fp, (b ∈ X.ex ∨ X.s₀.heap.objs.size ≤ b) ∧ b ≠ X.env.locals ∧ (∀ x c, X.env.cells.lookup x = some c → c ≠ b) ∧ ∀ p ∈ X.pn ++ pins, p.1 ≠ b := fun b hb =>
        ⟨(f3 b hb).2.2.2.1, (f3 b hb).2.1, (f3 b hb).2.2.2.2.1, (f3 b hb).2.2.2.2.2⟩
      exact fin D s3.heap.objs.size s6 m H5 hn6 qn (I3.fpOk (Nat.le_refl _) I6.free) (I3.call' I6.os un6 I6.hok I6.bare hch)
    · refine thn (T.item (cxC X (x :: ns) sc cl s3.heap.objs.size s3 (upd H2 D (.lst [])) fp) rfl rfl rfl hc i [] s5 _ H5 _ I5 (fpf fr5) st5 go) fun r s6 ⟨u, hr, h6⟩ => ?_
      subst hr
      refine thn h6 fun _ s7 ⟨y, H7, I7, r7, y7, st7, fr7⟩ => ?_
      have I7' := I7.pinned (fpf fr7) (T.obj _ _ st7)
      have hN : (cxC X (x :: ns) sc cl s3.heap.objs.size s3 (upd H2 D (.lst [])) fp).N.Nodup := c.nd
      have hx0 : (cxC X (x :: ns) sc cl s3.heap.objs.size s3 (upd H2 D (.lst [])) fp).env.scope.names.lookup x = some .local := lookup_relabel_local c.tgt
      refine wpAny_assign_Name (store_ok (i := 0) I7' hN rfl (.inl hx0) r7 (fun s8 I8 => ?_) (.inr hx0))
      have again : ∀ {s' : Shared} {H' : Hp} {ys' : List V}, Inv (cxC X (x :: ns) sc cl s3.heap.objs.size s3 (upd H2 D (.lst [])) fp) ([] ++ pinsAt fp s7.heap) ((freeSt σ ix).set 0 (some y)) H' s' → (∃ m', m' < n ∧ W (i + 1) m' ys' H') →
          ∃ m', m' < n ∧ ∃ i ys H', Inv (cxC X (x :: ns) sc cl s3.heap.objs.size s3 (upd H2 D (.lst [])) fp) [] (freeSt σ ix) H' s' ∧ tn i s'.heap ∧ (∀ b ∈ fp, H' b = none) ∧ W i m' ys H' := fun {s' H' ys'} J ⟨m', hm, hw⟩ => by
        refine ⟨m', hm, i + 1, ys', H', J.unpinned.weak (by simp) (fun k v e => ?_), T.keep _ _ _ st7 fun b hb o e => (J.pin (b, o) (List.mem_append_right _ (List.mem_append_right _ (mem_pinsAt hb e)))).1, fun b hb => ?_, hw⟩
        · cases k with
          | zero => exact absurd (show some (none : Option V) = some (some v) from e) (by simp)
          | succ k => exact e
        · obtain ⟨o, e, d⟩ := T.obj _ _ st7 b hb
          exact (J.pin (b, o) (List.mem_append_right _ (List.mem_append_right _ (mem_pinsAt hb e)))).2.1
      refine thn (ht cl s3.heap.objs.size s3 _ fp _ s8 _ H7 _ I8 (step y H7 y7)) fun ok s9 ⟨H9, I9, q9⟩ => ?_
      cases ok with
      | false =>
        have q9 : ∃ m', m' < n ∧ W (i + 1) m' ys H9 := by rw [if_neg Bool.false_ne_true] at q9; exact q9
        exact again I9 q9
      | true =>
        rw [if_pos rfl] at q9
        refine thn (he cl s3.heap.objs.size s3 _ fp _ s9 _ H9 _ I9 q9) fun yv s10 ⟨z, H10, I10, r10, hD10, q10⟩ => ?_
        have ap := mt_append (X := cxC X (x :: ns) sc cl s3.heap.objs.size s3 (upd H2 D (.lst [])) fp) _ s10 _ H10 (.ref D) [z] (.ref D) [yv] (fun _ H' => ∃ m', m' < n ∧ W (i + 1) m' (ys ++ [z]) H') I10 rfl (.cons r10 .nil) ⟨D, ys, z, rfl, rfl, hD10, hlen, q10⟩
        exact thn ap fun _ s11 ⟨_, H11, I11, _, q11⟩ => again I11 q11
  exact codeAny_compStart_list (loop _ rfl) (T.self _ 0 _ _ _ st4 (loop _ rfl))
theorem pe_comp {N : List Str} {dsc : Scope} (c : CompOk N dsc sc x ns ix) (hc : X.calm = true) (hi : PI X (.Name x px) iter wi)
    (ht : ∀ cl C s H fp, PIfs (cxC X (x :: ns) sc cl C s H fp) ifs tt) (he : ∀ cl C s H fp, PE (cxC X (x :: ns) sc cl C s H fp) elt te)
    (hs : ∀ x, foldedSetIterable iter X.env x = pure x := by intro _; rfl) (h1 : X.N = N := by rfl) (h2 : X.env.scope = dsc := by rfl) : PE X (.ListComp elt [⟨.Name x px, iter, ifs, 0⟩] sc pos) (tComp wi ix tt te) := by
  subst h1 h2
  intro pins s σ H Q I h
  rw [eval_ListComp]
  refine comp_block (use := none) (QQ := EP X pins σ Q) c hc hi ht he I h (fun D C s5 m H5 hn q fC I5 => ?_) hs
  exact ⟨m, hn, fun h' sb => ⟨.ref D, H5, I5.turned (t' := s5.toks) (fun b o hb e => (sb.2 b hb).trans e) fC.1 fC.2.1 fC.2.2.2.1 fC.2.2.2.2.1 fC.2.2.2.2.2, rfl, q⟩⟩
end
end L2
set_option Elab.async false
set_option linter.all false
set_option maxRecDepth 100000
set_option maxHeartbeats 4000000
namespace L2
open PySem PySem.Spec PyProof.Rows
theorem Same.upd {H H1 H2 : Hp} {D : Addr} {o : HO} (s : Same H H1) (n : H D = none) (e : H2 = upd H1 D o) : Same H H2 := fun b u h => by
  rw [e, upd_ne (ne_of_none h n)]
  exact s b u h
theorem same_upd {H : Hp} {D : Addr} {o : HO} (n : H D = none) : Same H (L2.upd H D o) := (Same.refl H).upd n rfl
theorem comp_map {J : It} {xs : List V} {G : Hp → Prop} (hJ : ItOf J xs G) {σ0 : St} {te : TE} {Q : VK} {H1 : Hp} (f : V → V) (hz : xs.length ≤ sizeLine) (hG : ∀ H', Same H1 H' → G H')
    (he : ∀ x, x ∈ xs → ∀ H2, Same H1 H2 → ∀ R : VK, (∀ H3, Same H2 H3 → R (f x) H3) → te (σ0.set 0 (some x)) H2 R)
    (hQ : ∀ D H2, H1 D = none → Same H1 H2 → H2 D = some (.lst (xs.map f)) → Q (.ref D) H2) : ∀ D, H1 D = none → CompW J σ0 tYes te Q D H1 := by
  intro D hD
  refine ⟨fun i m ys H => m = xs.length - i ∧ i ≤ xs.length ∧ Same H1 H ∧ H D = some (.lst ys) ∧ ys = (xs.take i).map f, ⟨xs.length, by simp, Nat.zero_le _, same_upd hD, upd_same, by simp⟩, ?_⟩
  rintro i m ys H ⟨rfl, hi, s, e, rfl⟩
  refine ⟨e, ?_⟩
  by_cases hlt : i < xs.length
  · refine .inr ⟨hJ.go i H hlt (hG H s), by rw [List.length_map, List.length_take]; omega, fun x H3 y => ?_⟩
    obtain ⟨e3, yx⟩ := hJ.yld i H x H3 (hG H s) y hlt
    subst e3
    unfold tYes
    dsimp only
    rw [if_pos rfl]
    refine he x (List.mem_of_getElem? yx) _ s _ fun H6 s6 => ⟨s6 _ _ e, _, (by omega : xs.length - (i + 1) < xs.length - i), rfl, hlt, (s.trans s6).upd hD rfl, upd_same, ?_⟩
    rw [List.take_succ, yx, List.map_append]
    rfl
  · have ei : i = xs.length := by omega
    subst ei
    rw [List.take_length] at e
    exact .inl ⟨hJ.stop H (hG H s), hQ D H hD s e⟩
theorem comp_filter {J : It} {xs : List V} {G : Hp → Prop} (hJ : ItOf J xs G) {σ0 : St} {tt : TT} {te : TE} {Q : VK} {H1 : Hp} (p : V → Bool) (f : V → V) (hz : xs.length ≤ sizeLine) (hG : ∀ H', Same H1 H' → G H')
    (ht : ∀ x, x ∈ xs → ∀ H2, Same H1 H2 → ∀ R : Bool → Hp → Prop, (∀ H3, Same H2 H3 → R (p x) H3) → tt (σ0.set 0 (some x)) H2 R)
    (he : ∀ x, x ∈ xs → p x = true → ∀ H2, Same H1 H2 → ∀ R : VK, (∀ H3, Same H2 H3 → R (f x) H3) → te (σ0.set 0 (some x)) H2 R)
    (hQ : ∀ D H2, H1 D = none → Same H1 H2 → H2 D = some (.lst ((xs.filter p).map f)) → Q (.ref D) H2) : ∀ D, H1 D = none → CompW J σ0 tt te Q D H1 := by
  intro D hD
  refine ⟨fun i m ys H => m = xs.length - i ∧ i ≤ xs.length ∧ Same H1 H ∧ H D = some (.lst ys) ∧ ys = ((xs.take i).filter p).map f, ⟨xs.length, by simp, Nat.zero_le _, same_upd hD, upd_same, by simp⟩, ?_⟩
  rintro i m ys H ⟨rfl, hi, s, e, rfl⟩
  refine ⟨e, ?_⟩
  by_cases hlt : i < xs.length
  · have hle : (((xs.take i).filter p).map f).length < sizeLine := by
      have h1 := List.length_filter_le p (xs.take i)
      rw [List.length_map]
      rw [List.length_take] at h1
      omega
    refine .inr ⟨hJ.go i H hlt (hG H s), hle, fun x H3 y => ?_⟩
    obtain ⟨e3, yx⟩ := hJ.yld i H x H3 (hG H s) y hlt
    subst e3
    have hx := List.mem_of_getElem? yx
    have less : xs.length - (i + 1) < xs.length - i := by omega
    refine ht x hx _ s _ fun H5 s5 => ?_
    cases hp : p x with
    | true =>
      rw [if_pos rfl]
      refine he x hx hp _ (s.trans s5) _ fun H6 s6 => ⟨s6 _ _ (s5 _ _ e), _, less, rfl, hlt, ((s.trans s5).trans s6).upd hD rfl, upd_same, ?_⟩
      rw [List.take_succ, yx, List.filter_append, List.map_append]
      simp [hp]
    | false =>
      rw [if_neg Bool.false_ne_true]
      refine ⟨_, less, rfl, hlt, s.trans s5, s5 _ _ e, ?_⟩
      rw [List.take_succ, yx, List.filter_append]
      simp [hp]
  · have ei : i = xs.length := by omega
    subst ei
    rw [List.take_length] at e
    exact .inl ⟨hJ.stop H (hG H s), hQ D H hD s e⟩
section
variable {X : Cx}
def rCount : V → List V → Hp → VK → Prop := fun x vs H Q => ∃ z y, x = .str z ∧ vs = [.str y] ∧ Q (.int (Txt.count z y)) H
theorem mt_count : MtR X "str.count" rCount := by
  intro pins s σ H x vs v us Q I rx rv h
  obtain ⟨z, y, rfl, rfl, q⟩ := h
  obtain ⟨t, rfl⟩ := rx
  obtain ⟨u, rfl, t', rfl⟩ := vals1 rv
  exact SC.count ⟨.int _, H, I.tok _, ⟨_, rfl⟩, q⟩
theorem strsAre_of {ss : List Str} : ∀ {us : List Value}, Vals (ss.map V.str) us → StrsAre us ss := by
  induction ss with
  | nil => intro us r; rw [List.map_nil] at r; cases r; exact .nil
  | cons n ns ih =>
    intro us r
    rw [List.map_cons] at r
    cases r with
    | cons r1 r2 =>
      obtain ⟨t, e⟩ := r1
      subst e
      exact .cons n t (ih r2)
def rJoin (K : PySem.W.Frag) : V → List V → Hp → VK → Prop := fun x vs H Q => ∃ z p ys, x = .str z ∧ vs = [.ref p] ∧ SqL K H p (ys.map V.str) ∧ (ys.map (·.length)).sum + ys.length * z.length ≤ 16777216 ∧ Q (.str (Txt.join z ys)) H
theorem mt_join : MtR X "str.join" (rJoin X.K) := by
  intro pins s σ H x vs v us Q I rx rv h
  obtain ⟨z, p, ys, rfl, rfl, hq, hok, q⟩ := h
  obtain ⟨t, rfl⟩ := rx
  obtain ⟨u, rfl, ru⟩ := vals1 rv
  cases ru
  obtain ⟨its, r, pl, hz⟩ := I.list hq
  exact join_list pl.isList (strsAre_of (by simpa using r)) hok fun t' k => ⟨.str _, H, I.tok _, ⟨_, rfl⟩, q⟩
def tx (l : List Nat) : Str := ⟨l.toArray⟩
theorem tx_length (l : List Nat) : (tx l).length = l.length := by simp [tx, Str.length]
theorem sgs_tx (l : List Nat) : sgs (tx l) = l.map sg := by simp [sgs, tx]
theorem tx_append (a b : List Nat) : tx a ++ tx b = tx (a ++ b) := by
  show Str.append (tx a) (tx b) = tx (a ++ b)
  simp [Str.append, tx]
theorem join_nil : ∀ ss : List (List Nat), Txt.join ⟨#[]⟩ (ss.map tx) = tx ss.flatten := by
  intro ss
  show Builtin.Str.glued _ _ = _
  rw [StrLaws.glued_eq_join]
  induction ss with
  | nil => rfl
  | cons a r ih =>
    cases r with
    | nil => simp [Str.join]
    | cons b r =>
      show tx a ++ (⟨#[]⟩ : Str) ++ Str.join ⟨#[]⟩ ((b :: r).map tx) = _
      rw [ih, show (⟨#[]⟩ : Str) = tx [] from rfl, tx_append, tx_append]
      simp
theorem occ_one_go (x : Str) (c : Nat) : ∀ (k i : Nat) (st : Array Nat × Nat), i + k = x.length + 1 → st.2 ≤ i → st.1.size ≤ i →
    (forIn (List.range' i k) st (StrLaws.occBody x ⟨#[c]⟩ x.length (x.length + 1))).run.fst.size = st.1.size + (x.cps.toList.drop i).count c
  | 0, i, st, h, _, _ => by
    have e : x.cps.toList.drop i = [] := List.drop_eq_nil_of_le (by simp [Str.length] at h ⊢; omega)
    rw [e]
    rfl
  | k + 1, i, st, h, h1, h2 => by
    have hxl : x.length = x.cps.toList.length := by simp [Str.length]
    rw [List.range'_succ, List.forIn_cons]
    unfold StrLaws.occBody
    by_cases hc : x.cps.toList[i]? = some c
    · obtain ⟨a, b⟩ := (StrLaws.subAt_one x c i).mpr hc
      rw [if_pos ⟨⟨⟨by omega, h1⟩, a⟩, b⟩]
      have ih := occ_one_go x c k (i + 1) (st.1.push i, i + (⟨#[c]⟩ : Str).length) (by omega) (Nat.le_refl _) (by simp; omega)
      obtain ⟨hlt, he⟩ := List.getElem?_eq_some_iff.mp hc
      rw [List.drop_eq_getElem_cons hlt, he, List.count_cons_self]
      refine Eq.trans ih ?_
      rw [Array.size_push]
      omega
    · rw [if_neg fun q => hc ((StrLaws.subAt_one x c i).mp ⟨q.1.2, q.2⟩)]
      have ih := occ_one_go x c k (i + 1) (st.1, st.2) (by omega) (Nat.le_succ_of_le h1) (Nat.le_succ_of_le h2)
      refine Eq.trans ih ?_
      congr 1
      by_cases hlt : i < x.cps.toList.length
      · rw [List.drop_eq_getElem_cons hlt, List.count_cons_of_ne]
        intro z
        exact hc (by rw [List.getElem?_eq_getElem hlt, z])
      · rw [List.drop_eq_nil_of_le (by omega), List.drop_eq_nil_of_le (by omega)]
theorem count_one (l : List Nat) (c : Nat) : Txt.count (tx l) (tx [c]) = (l.count c : Nat) := by
  show (((Builtin.Str.occurrences (tx l) (tx [c]) 0 (tx l).length ((tx l).length + 1)).length : Nat) : Int) = _
  rw [StrLaws.occ_eq, Array.length_toList]
  have h := occ_one_go (tx l) c ((tx l).length + 1) 0 (#[], 0) (by omega) (Nat.le_refl _) (Nat.le_refl _)
  have e : (tx l).length + 1 - 0 = (tx l).length + 1 := rfl
  rw [e, show tx [c] = (⟨#[c]⟩ : Str) from rfl, h]
  simp [tx]
def revS (z : Str) : Str := ⟨z.cps.toList.reverse.toArray⟩
theorem sliceBy_rev (z : Str) (u : Tok) : Txt.sliceBy z none none (-1, u) = revS z := by
  have h := step_rev_list z u
  generalize Txt.sliceBy z none none (-1, u) = y at h
  obtain ⟨⟨l⟩⟩ := y
  have h : l = (List.range z.length).map fun k => z.cps.getD (z.length - 1 - k) 0 := h
  unfold revS
  rw [h]
  congr 2
  apply List.ext_getElem
  · simp [Str.length]
  · intro i h1 h2
    simp [Str.length] at h1
    have : z.cps.size - 1 - i < z.cps.size := by omega
    simp [Str.length, List.getElem_reverse, this]
def tRev (K : PySem.W.Frag) (te : TE) : TE := fun σ H Q => te σ H fun x H1 => (∃ z, x = .str z ∧ z.length ≤ sizeLine ∧ Q (.str (revS z)) H1) ∨ ∃ a xs, x = .ref a ∧ SqL K H1 a xs ∧ ∀ p, H1 p = none → Q (.ref p) (upd H1 p (.lst xs.reverse))
theorem pe_rev {e : Expr} {te : TE} {p1 p2 p3 pos : Pos} {j : Nat} (he : PE X e te) : PE X (.Subscript e (.Slice none none (some (.UnaryOp .USub (.Constant (.int 1) j p1) p2)) p3) pos) (tRev X.K te) := by
  intro pins s σ H Q I h
  refine Subscript_ (thn (he pins s σ H _ I h) fun v s1 ⟨x, H1, I1, r1, q1⟩ => ?_)
  refine wpAny_Slice ?_
  rw [evalPart_none, evalPart_some]
  refine wpAny_pure (wpAny_pure ?_)
  refine thn (pe_un (X := X) (pos := p2) un_neg (pe_int (X := X) (i := 1) (j := j) (pos := p1)) pins s1 σ H1 (fun y H2 => y = .int (-1) ∧ H2 = H1) I1 ⟨1, rfl, rfl, rfl⟩) fun vk s2 ⟨y, H2, I2, r2, ey, eH⟩ => ?_
  subst ey eH
  obtain ⟨tk, rfl⟩ := r2
  have I4 : Inv X pins σ H2 { s2 with heap := s2.heap.push { cls := .type "slice", data := .fields #[.none, .none, .int (-1) tk] } } := I2.kept (t' := s2.toks) fun b ob q => Heap.get?_push_of_some _ q
  rcases q1 with ⟨z, rfl, hz, q⟩ | ⟨a, xs, rfl, hx, q⟩
  · obtain ⟨t, rfl⟩ := r1
    refine tail_any (ops := [.ref s2.heap.objs.size, .str z t]) (typeIs_str _ _ _) F.slot_str_getitem.lookup ?_ (by with_unfolding_all rfl)
    refine wpAny_getItem_str_slice (l := none) (u := none) (st := some (-1, tk)) ⟨_, Heap.get?_push_size _ rfl, rfl, rfl⟩ rfl ?_
    refine post_val_or_str ⟨Nat.le_trans (Txt.sliceBy_le z _ _ (-1, tk) (by show (-1 : Int) ≠ 0; decide)) hz, fun t' c => ⟨.str (revS z), H2, I4.tok _, ⟨t', ?_⟩, q⟩⟩
    show Value.str (Txt.sliceBy z none none (-1, tk)) t' = _
    rw [sliceBy_rev]
  · cases r1
    obtain ⟨its, r, ht, hz⟩ := I4.list hx
    have hlen := r.length
    refine tail_any ht.isList.typeIs slot_list_getitem.lookup ?_ (by with_unfolding_all rfl)
    refine wpAny_getItem_list_slice ht.isList (vl := .none) (vu := .none) (vs := .int (-1) tk) ⟨_, Heap.get?_push_size _ rfl, rfl, rfl⟩ .none .none (.int (-1) tk) (by decide) ?_ (by rw [List.size_toArray] <;> omega)
    rw [PySem.W.krv_pick]
    refine ⟨.ref _, _, I4.laid (t' := s2.toks) (o := .lst xs.reverse) (fun b ob q => Heap.get?_push_of_some _ q) (Nat.le_refl _) ?_, rfl, q _ I4.fresh⟩
    exact ⟨by rw [List.length_reverse]; exact hz, _, 0, r.reverse, Heap.get?_push_size _ rfl⟩
theorem range_all (bs : List Bool) : (List.range bs.length).all (fun i => bs.getD i false) = bs.all id := by
  rw [Bool.eq_iff_iff, List.all_eq_true, List.all_eq_true]
  constructor
  · intro h b hb
    obtain ⟨i, hi, rfl⟩ := List.mem_iff_getElem.mp hb
    have := h i (List.mem_range.mpr hi)
    simpa [List.getD, hi] using this
  · intro h i hi
    rw [List.mem_range] at hi
    have := h bs[i] (List.getElem_mem hi)
    simpa [List.getD, hi] using this
theorem truth_bools {A : Around} {bs : List Bool} {its : List Value} (r : Vals (bs.map V.bl) its) : TruthOf X.prog X.w A (fun i v => its.toArray[i]? = some v) fun i => bs.getD i false := by
  intro i v s Q E hv hQ
  have hv : its[i]? = some v := by simpa using hv
  have hl := r.length
  rw [List.length_map] at hl
  have hi : i < bs.length := by have := (List.getElem?_eq_some_iff.mp hv).1; omega
  obtain ⟨u, hu, ru⟩ := r.get (i := i) (x := V.bl bs[i]) (by rw [List.getElem?_map, List.getElem?_eq_getElem hi]; rfl)
  rw [hv] at hu
  cases hu
  cases ru
  refine wpAny_truthy_bool ?_
  have e : bs.getD i false = bs[i] := by simp [List.getD, hi]
  rw [← e]
  exact hQ
def rAny (K : PySem.W.Frag) : List V → Hp → VK → Prop := fun xs H Q => ∃ p, ∃ bs : List Bool, xs = [.ref p] ∧ SqL K H p (bs.map V.bl) ∧ Q (.bl (bs.any id)) H
def rAll (K : PySem.W.Frag) : List V → Hp → VK → Prop := fun xs H Q => ∃ p, ∃ bs : List Bool, xs = [.ref p] ∧ SqL K H p (bs.map V.bl) ∧ Q (.bl (bs.all id)) H
theorem call_all (hc : X.calm = true) : CallR X (.builtin "all") (rAll X.K) := by
  intro pins s σ H xs us Q I r h
  obtain ⟨p, bs, rfl, hq, q⟩ := h
  obtain ⟨u, rfl, ru⟩ := vals1 r
  cases ru
  obtain ⟨its, rv, pl, hz⟩ := I.list hq
  have hl := rv.length
  rw [List.length_map] at hl
  have hne : p ≠ s.heap.objs.size := Nat.ne_of_lt (let ⟨_, _, e, _⟩ := pl; Heap.lt_size e)
  have f := I.fpOk (Nat.le_refl _) I.fresh
  refine call_all_walk (wpAny_pyIter_list pl.isList ⟨s.heap.objs.size, _, _, _, _, _, fun i => bs.getD i false, rfl, Walks.list (A := X.A.in1) (I.ok.hd hc) _ p hne its.toArray, ⟨⟨_, Heap.get?_push_size _ rfl, rfl, rfl⟩, pl.isList.at fun o e => Heap.get?_push_of_some _ e⟩, truth_bools rv, fun h' tk kk => ?_⟩)
  have I1 : Inv X pins σ H { s with heap := s.heap.push { cls := .type "list_iterator", data := .fields #[.ref p, .int 0 0] } } := I.kept (t' := s.toks) fun b o e => Heap.get?_push_of_some _ e
  refine ⟨.bl (bs.all id), H, I1.turned (fun b o hb e => kk b o (by simpa using hb) e) f.1 f.2.1 f.2.2.2.1 f.2.2.2.2.1 f.2.2.2.2.2, ?_, q⟩
  show Value.bool _ = Value.bool _
  rw [← range_all, List.size_toArray, ← hl]
def rLen (K : PySem.W.Frag) : List V → Hp → VK → Prop := fun xs H Q => ∃ x n, xs = [x] ∧ LenV K x H n ∧ Q (.int n) H
theorem call_lenV : CallR X (.builtin "len") (rLen X.K) := call_len
def rIsI (K : PySem.W.Frag) : List V → Hp → VK → Prop := fun xs H Q => ∃ x n t b, xs = [x, .ty n] ∧ TyOf K H x t ∧ PySem.W.kitOne K t (.type n) = some b ∧ Q (.bl b) H
theorem call_isinst : CallR X (.builtin "isinstance") (rIsI X.K) := by
  intro pins s σ H xs us Q I r h
  obtain ⟨x, n, t, b, rfl, ty, e, q⟩ := h
  obtain ⟨u, w', rfl, ru, rw'⟩ := vals2 r
  cases rw'
  exact isinst_ok I ru ty e fun tk => ⟨.bl b, H, I.tok _, rfl, q⟩
def eqL : List V → List V → Bool
  | [], [] => true
  | x :: xs, y :: ys => eqV x y && eqL xs ys
  | _, _ => false
theorem eqL_len : ∀ {xs ys : List V}, xs.length ≠ ys.length → eqL xs ys = false
  | [], [], h => absurd rfl h
  | [], _ :: _, _ => rfl
  | _ :: _, [], _ => rfl
  | x :: xs, y :: ys, h => by
    show (eqV x y && eqL xs ys) = false
    rw [eqL_len (xs := xs) (ys := ys) (by simpa using h), Bool.and_false]
theorem eqL_all : ∀ {xs ys : List V}, xs.length = ys.length → eqL xs ys = (List.range xs.length).all fun i => (match xs[i]?, ys[i]? with | some x, some y => eqV x y | _, _ => true)
  | [], [], _ => rfl
  | [], _ :: _, h => by cases h
  | _ :: _, [], h => by cases h
  | x :: xs, y :: ys, h => by
    show (eqV x y && eqL xs ys) = _
    rw [eqL_all (xs := xs) (ys := ys) (by simpa using h), List.length_cons, List.range_succ_eq_map, List.all_cons, List.all_map]
    rfl
theorem flat_ints (a : List Int) : (a.map V.int).all flatV = true := by simp [List.all_map, flatV]
theorem flat_bls (a : List Bool) : (a.map V.bl).all flatV = true := by simp [List.all_map, flatV]
theorem eqAt_items {A : Around} {s : Shared} {xs ys : List V} {us ws : List Value} (r : Vals xs us) (q : Vals ys ws) (fx : xs.all flatV = true) (fy : ys.all flatV = true) :
    ∀ j (h1 : j < us.toArray.size) (h2 : j < ws.toArray.size), SeqAt.EqAt A s us.toArray[j] ws.toArray[j] (match xs[j]?, ys[j]? with | some x, some y => eqV x y | _, _ => true) := by
  intro j h1 h2
  have h1 : j < us.length := by simpa using h1
  have h2 : j < ws.length := by simpa using h2
  have k1 : j < xs.length := by rw [r.length]; exact h1
  have k2 : j < ys.length := by rw [q.length]; exact h2
  obtain ⟨u, hu, ru⟩ := r.get (List.getElem?_eq_getElem k1)
  obtain ⟨v, hv, rv⟩ := q.get (List.getElem?_eq_getElem k2)
  rw [List.getElem?_eq_getElem h1] at hu
  rw [List.getElem?_eq_getElem h2] at hv
  cases hu
  cases hv
  rw [List.getElem?_eq_getElem k1, List.getElem?_eq_getElem k2]
  have f1 := List.all_eq_true.mp fx _ (List.getElem_mem k1)
  have f2 := List.all_eq_true.mp fy _ (List.getElem_mem k2)
  simpa using eqAt_V (A := A) (s := s) ru rv f1 f2
def rEqF (K : PySem.W.Frag) (neg : Bool) : R2 := fun x y H Q => ∃ p q xs ys, x = .ref p ∧ y = .ref q ∧ SqL K H p xs ∧ SqL K H q ys ∧ xs.all flatV = true ∧ ys.all flatV = true ∧ Q (.bl (if neg then !eqL xs ys else eqL xs ys)) H
theorem op_eqF (hu : X.A.units < cLine) : OpR X (compareOp .Eq) (rEqF X.K false) := by
  intro pins s σ H x y v u Q I rx ry h
  obtain ⟨p, q, xs, ys, rfl, rfl, hx, hy, fx, fy, k⟩ := h
  cases rx
  cases ry
  obtain ⟨us, r, pl, _⟩ := I.list hx
  obtain ⟨ws, r', pl', _⟩ := I.list hy
  have e1 := r.length
  have e2 := r'.length
  by_cases hl : xs.length = ys.length
  · refine SeqAt.eq_listAt pl.isList pl'.isList (by simp; omega) hu (eqAt_items r r' fx fy) ⟨.bl (eqL xs ys), H, I, ?_, k⟩
    show Value.bool _ = Value.bool _
    rw [eqL_all hl, List.size_toArray, ← e1]
  · refine SeqAt.eq_list_lengthsAt pl.isList pl'.isList (by simp; omega) hu ⟨.bl false, H, I, rfl, ?_⟩
    rw [eqL_len hl] at k
    exact k
theorem op_neF (hu : X.A.units < cLine) : OpR X (compareOp .NotEq) (rEqF X.K true) := by
  intro pins s σ H x y v u Q I rx ry h
  obtain ⟨p, q, xs, ys, rfl, rfl, hx, hy, fx, fy, k⟩ := h
  cases rx
  cases ry
  obtain ⟨us, r, pl, _⟩ := I.list hx
  obtain ⟨ws, r', pl', _⟩ := I.list hy
  have e1 := r.length
  have e2 := r'.length
  by_cases hl : xs.length = ys.length
  · refine SeqAt.RcNeAt.lists pl.isList pl'.isList (by simp; omega) hu (eqAt_items r r' fx fy) X.prog X.w X.xe _ ⟨.bl (!eqL xs ys), H, I, ?_, k⟩
    show Value.bool _ = Value.bool _
    rw [eqL_all hl, List.size_toArray, ← e1]
  · refine SeqAt.RcNeAt.lists_lengths pl.isList pl'.isList (by simp; omega) hu X.prog X.w X.xe _ ⟨.bl true, H, I, rfl, ?_⟩
    rw [eqL_len hl] at k
    exact k
def GTab (P : Program) (w : World) (K : PySem.W.Frag) (a : Addr) (D : List (Str × PyData)) : Prop := ∀ h : Heap, K.In h → StrTab P w h a (D.map fun p => (PyData.str p.1, p.2))
def rIxG (P : Program) (w : World) (K : PySem.W.Frag) : R2 := fun x y H Q => ∃ a D k z, x = .ref a ∧ y = .str k ∧ GTab P w K a D ∧ PySem.Spec.lookup (.str k) (D.map fun p => (PyData.str p.1, p.2)) = some (.str z) ∧ Q (.str z) H
theorem ix_gtab : IxR X (rIxG X.prog X.w X.K) := by
  intro value slice pins s σ H x y v u Q I rx ry h hs
  obtain ⟨a, D, k, z, rfl, rfl, hT, hl, q⟩ := h
  cases rx
  obtain ⟨t, rfl⟩ := ry
  obtain ⟨lo, kvs, hd, hf⟩ := hT _ I.kIn
  obtain ⟨v, hv, hfl⟩ := hf.of_lookup PyProof.V.same_str hl
  obtain ⟨tv, rfl⟩ := hfl.str_inv
  exact tail_any hd.typeIs F.slot_dict_getitem.lookup (wpAny_getItem_of (strKind_is X.prog X.w k t) hd.mapOf hv ⟨.str z, H, I.tok _, ⟨_, rfl⟩, q⟩) hs
end
end L2
set_option Elab.async false
set_option linter.all false
set_option maxRecDepth 100000
set_option maxHeartbeats 4000000
namespace L2
open PySem PySem.Spec PyProof.Rows
theorem iteFe {c : Bool} {A B : Prop} (h : c = false) (q : B) : if c = true then A else B := by rw [h, if_neg Bool.false_ne_true]; exact q
theorem iteTe {c : Bool} {A B : Prop} (h : c = true) (q : A) : if c = true then A else B := by rw [h, if_pos rfl]; exact q
theorem flat_one (l : List Nat) : (l.map fun c => [c]).flatten = l := by
  induction l with
  | nil => rfl
  | cons c r ih => rw [List.map_cons, List.flatten_cons, ih]; rfl
theorem len_ones (l : List Nat) : ((l.map fun c => tx [c]).map (·.length)).sum = l.length := by
  induction l with
  | nil => rfl
  | cons c r ih =>
    rw [List.map_cons, List.map_cons, List.sum_cons, ih, tx_length, List.length_cons]
    simp
    omega
theorem smallM {n : Nat} (h : n ≤ 16000000) : n < sizeLine := Nat.lt_of_le_of_lt h (by decide)
theorem bigM {n : Nat} (h : n ≤ 16000000) : n ≤ sizeLine := Nat.le_of_lt (smallM h)
theorem empty_tx : (Str.ofString "") = tx [] := by decide +kernel
theorem join_sgs {K : PySem.W.Frag} {H : Hp} {D : Addr} {l : List Nat} {Q : VK} (e : H D = some (.lst (l.map sg))) (hl : l.length ≤ 16000000) (q : Q (.str (tx l)) H) : rJoin K (.str (Str.ofString "")) [.ref D] H Q := by
  refine ⟨_, D, l.map fun c => tx [c], rfl, rfl, SqL.of ?_, ?_, ?_⟩
  · rw [e, List.map_map]; rfl
  · rw [len_ones, List.length_map, empty_tx, tx_length]
    simp
    omega
  · have e1 := join_nil (l.map fun c => [c])
    rw [List.map_map, flat_one] at e1
    rw [empty_tx]
    have e2 : Txt.join (tx []) (l.map fun c => tx [c]) = tx l := e1
    rw [e2]
    exact q
theorem eqL_self {xs : List V} (h : xs.all flatV = true) : eqL xs xs = true := by
  induction xs with
  | nil => rfl
  | cons x r ih =>
    rw [List.all_cons, Bool.and_eq_true] at h
    show (eqV x x && eqL r r) = true
    rw [ih h.2, Bool.and_true]
    have h1 := h.1
    cases x <;> first | rfl | (simp [flatV] at h1; done) | (simp [eqV]; done)
theorem atI_end {α : Type} {xs : List α} {v : α} (h : xs[xs.length - 1]? = some v) : atI xs (-1) = some v := by
  have hl : 0 < xs.length := by
    cases xs with
    | nil => cases h
    | cons a r => exact Nat.succ_pos _
  unfold atI ixN
  rw [if_neg (by omega), if_pos (by omega)]
  show xs[((-1 : Int) + xs.length).toNat]? = some v
  rw [show ((-1 : Int) + xs.length).toNat = xs.length - 1 by omega]
  exact h
end L2
set_option Elab.async false
set_option linter.all false
set_option maxRecDepth 100000
set_option maxHeartbeats 4000000
namespace L2
open PySem PySem.Spec PyProof.Rows
def Exc (h : Heap) (H : Hp) (g : Heap) (e : Addr) (cls : Value) (hd : Option Addr) : Prop :=
  H e = none ∧ g.get? e = none ∧ ∃ oe vs, h.get? e = some oe ∧ oe.cls = cls ∧ oe.dict = none ∧ oe.data = .fields vs ∧ vs[2]? = some Value.none ∧
    (match hd with
     | none => vs[1]? = some Value.none
     | some T => vs[1]? = some (.ref T) ∧ T ≠ e ∧ H T = none ∧ g.get? T = none ∧ ∃ oT ts, h.get? T = some oT ∧ oT.data = .fields ts ∧ 3 < ts.size)
structure Touch (fr : List Addr) (H : Hp) (g : Heap) (h h' : Heap) : Prop where
  keep : ∀ b o, h.get? b = some o → (g.get? b ≠ none ∨ H b ≠ none) → b ∉ fr → h'.get? b = some o
  slot : ∀ b o, h.get? b = some o → (g.get? b ≠ none ∨ H b ≠ none) → ∃ sl, h'.get? b = some { o with slots := sl }
  there : ∀ b o, h.get? b = some o → ∃ o', h'.get? b = some o'
theorem Touch.refl {fr : List Addr} {H : Hp} {g : Heap} {h : Heap} : Touch fr H g h h := ⟨fun _ _ e _ _ => e, fun _ o e _ => ⟨o.slots, e⟩, fun _ o e => ⟨o, e⟩⟩
theorem Touch.trans {fr : List Addr} {H : Hp} {g : Heap} {h h1 h2 : Heap} (a : Touch fr H g h h1) (b : Touch fr H g h1 h2) : Touch fr H g h h2 where
  keep := fun c o e k nf => b.keep c o (a.keep c o e k nf) k nf
  slot := fun c o e k => by
    obtain ⟨sl, e1⟩ := a.slot c o e k
    obtain ⟨sl', e2⟩ := b.slot c _ e1 k
    exact ⟨sl', e2⟩
  there := fun c o e => by
    obtain ⟨o1, e1⟩ := a.there c o e
    exact b.there c o1 e1
theorem dict_mapF (o : Obj) (f : Array Value → Array Value) : (o.mapFields f).dict = o.dict := by
  obtain ⟨c, d, dt, sl⟩ := o
  cases dt <;> rfl
theorem Touch.of_push {fr : List Addr} {H : Hp} {g : Heap} (h : Heap) (o : Obj) : Touch fr H g h (h.push o) :=
  ⟨fun _ _ e _ _ => Heap.get?_push_of_some o e, fun _ u e _ => ⟨u.slots, Heap.get?_push_of_some o e⟩, fun _ u e => ⟨u, Heap.get?_push_of_some o e⟩⟩
theorem touch_set {fr : List Addr} {H : Hp} {g : Heap} {h : Heap} {a : Addr} {o : Obj} {vs : Array Value} {f : Array Value → Array Value} (ho : h.get? a = some o) (hd : o.data = .fields vs) (na : g.get? a = none) (nH : H a = none) :
    Touch fr H g h (h.update a (Obj.mapFields f)) := by
  have self := Heap.get?_update_self (Obj.mapFields f) ho (Obj.isFreed_of_fields (Obj.data_mapFields hd f))
  have ne : ∀ b, (g.get? b ≠ none ∨ H b ≠ none) → a ≠ b := fun b k z => by
    subst z
    rcases k with k | k
    · exact k na
    · exact k nH
  refine ⟨fun b u e k _ => (Heap.get?_update_other h _ (ne b k)).trans e, fun b u e k => ⟨u.slots, (Heap.get?_update_other h _ (ne b k)).trans e⟩, fun b u e => ?_⟩
  by_cases q : a = b
  · subst q
    exact ⟨_, self⟩
  · exact ⟨u, (Heap.get?_update_other h _ q).trans e⟩
section
variable {M : Model} {A : Around} {E : Value → Shared → Prop} {s : Shared} {base : Heap} {env : Env} {outer : List Env} {L e : Addr} {cls head : Value} {H : Hp} {g : Heap} {Q : Unit → Shared → Prop}
theorem entry_ok {oe : Obj} {vs : Array Value} {b : Bool} (hfr : A.frames = some (env :: outer)) (hl : s.heap.FunFrames base (env :: outer)) (hf : env.frame = some L) (he : s.heap.get? e = some oe) (hdi : oe.dict = none) (hd : oe.data = .fields vs)
    (h2 : vs[2]? = some Value.none) (nH : H e = none) (ne : g.get? e = none) (hH : ∀ b, s.heap.objs.size ≤ b → H b = none) (hn : ∀ b, s.heap.objs.size ≤ b → g.get? b = none)
    (h : ∀ h' T, Touch (frs (env :: outer)) H g s.heap h' → Exc h' H g e oe.cls (some T) → Q () { s with heap := h' }) :
    wpAny M A (do
      let fr ← frameOf env
      let pl ← entryPlaceOf L b
      let x ← EntryCells.newEntry head fr .none (rawInt L) .none pl
      setField (.ref e) 1 x) Q E s := by
  have hnf : e ∉ (env :: outer).filterMap (·.frame) := fun hm => by
    obtain ⟨_, o, ho, q⟩ := hl.mem hm
    rw [he] at ho
    cases ho
    exact q vs hd
  have h1 : 1 < vs.size := by
    have := (Array.getElem?_eq_some_iff.mp h2).1
    omega
  refine wpAny_bind (wpAny_frameOf_fun hfr hl hf fun k hg => ?_)
  refine wpAny_bind (wpAny_entryPlaceOf fun pl hp => ?_)
  unfold EntryCells.newEntry newFields
  refine wpAny_bind (wpAny_newObj_type ?_ (hp.sizeOk5 _ _ _ _ _))
  have e1 : k.get? e = some oe := (hg.2.1 e hnf).trans he
  have sz : k.objs.size = s.heap.objs.size := hg.1
  have eT : k.objs.size ≠ e := Nat.ne_of_gt (Heap.lt_size e1)
  refine wpAny_setField (Heap.get?_push_of_some _ e1) hd h1 (h _ k.objs.size (Touch.trans (h1 := k) ?_ (Touch.trans (Touch.of_push k _) (touch_set (Heap.get?_push_of_some _ e1) hd ne nH))) ?_)
  · refine ⟨fun b o q _ nf => (hg.2.1 b nf).trans q, fun b o q _ => hg.2.2 b o q, fun b o q => ?_⟩
    obtain ⟨sl, z⟩ := hg.2.2 b o q
    exact ⟨_, z⟩
  · refine ⟨nH, ne, _, _, Heap.get?_update_self _ (Heap.get?_push_of_some _ e1) (Obj.isFreed_of_fields (Obj.data_mapFields hd _)), Obj.cls_mapFields _ _, (dict_mapF _ _).trans hdi, Obj.data_mapFields hd _, ?_, ?_, eT, hH _ (by omega), hn _ (by omega), _, _,
      (Heap.get?_update_other _ _ (Ne.symm eT)).trans (Heap.get?_push_size k rfl), rfl, ?_⟩
    · rw [Array.getElem?_setIfInBounds_ne (by decide)]
      exact h2
    · simp [h1]
    · simp only [List.size_toArray, List.length_append, List.length_cons, List.length_nil]
      omega
theorem note_ok {hd : Option Addr} (hfr : A.frames = some (env :: outer)) (hl : s.heap.FunFrames base (env :: outer)) (hf : env.frame = some L) (x : Exc s.heap H g e cls hd) (hH : ∀ b, s.heap.objs.size ≤ b → H b = none) (hn : ∀ b, s.heap.objs.size ≤ b → g.get? b = none)
    (h : ∀ h' T, Touch (frs (env :: outer)) H g s.heap h' → Exc h' H g e cls (some T) → Q () { s with heap := h' }) : wpAny M A (noteFrame (.ref e) env) Q E s := by
  obtain ⟨nH, ne, oe, vs, he, rfl, hdi, hda, h2, r⟩ := id x
  unfold noteFrame
  simp only [hf]
  cases hd with
  | none =>
    have r : vs[1]? = some Value.none := r
    refine wpAny_bind (wpAny_field he hda r ?_)
    rw [if_neg (by decide)]
    exact entry_ok hfr hl hf he hdi hda h2 nH ne hH hn h
  | some T =>
    obtain ⟨r1, r2, r3, r4, oT, ts, hT, dT, r5⟩ := r
    refine wpAny_bind (wpAny_field he hda r1 ?_)
    rw [if_pos (show (Value.ref T != Value.none) = true from rfl)]
    refine wpAny_bind (wpAny_field hT dT (x := ts[3]) (by simp [r5]) ?_)
    by_cases q : (ts[3] == rawInt L) = true
    · rw [if_pos q]
      exact wpAny_pure (h s.heap T Touch.refl x)
    · rw [if_neg q]
      refine wpAny_bind (wpAny_setField hT dT r5 ?_)
      have sz : (s.heap.update T (Obj.mapFields (·.setIfInBounds 3 Value.none))).objs.size = s.heap.objs.size := Heap.size_after_update ..
      refine entry_ok hfr (hl.of_keeps fun b o hb hnf => ⟨o, ?_, rfl⟩) hf ((Heap.get?_update_other _ _ r2).trans he) hdi hda h2 nH ne (fun b hb => hH b (by rw [sz] at hb; exact hb)) (fun b hb => hn b (by rw [sz] at hb; exact hb)) fun h' T' t x' => h h' T' (Touch.trans (touch_set hT dT r4 r3) t) x'
      refine (Heap.get?_update_other _ _ ?_).trans hb
      rintro rfl
      rw [hT] at hb
      cases hb
      exact hnf ts dT
theorem flight_ok {T : Addr} {fl : Option Addr} {fr : List Addr} (x : Exc s.heap H g e cls (some T)) (h : ∀ h', Touch fr H g s.heap h' → h'.objs.size = s.heap.objs.size → Exc h' H g e cls (some T) → Q () { s with heap := h' }) :
    wpAny M A (setFlight (.ref e) fl) Q E s := by
  obtain ⟨nH, ne, oe, vs, he, rfl, hdi, hda, h2, r1, r2, r3, r4, oT, ts, hT, dT, r5⟩ := x
  unfold setFlight
  refine wpAny_bind (wpAny_field he hda r1 ?_)
  rw [if_pos (show (Value.ref T != Value.none) = true from rfl)]
  refine wpAny_setField hT dT r5 (h _ (touch_set hT dT r4 r3) (Heap.size_after_update ..) ?_)
  exact ⟨nH, ne, oe, vs, (Heap.get?_update_other _ _ r2).trans he, rfl, hdi, hda, h2, r1, r2, r3, r4, _, _, Heap.get?_update_self _ hT (Obj.isFreed_of_fields (Obj.data_mapFields dT _)), Obj.data_mapFields dT _, by simp [r5]⟩
theorem leave_ok {hd : Option Addr} (hfr : A.frames = some (env :: outer)) (hl : s.heap.FunFrames base (env :: outer)) (hf : env.frame = some L) (x : Exc s.heap H g e cls hd) (hH : ∀ b, s.heap.objs.size ≤ b → H b = none) (hn : ∀ b, s.heap.objs.size ≤ b → g.get? b = none)
    (h : ∀ h' T, Touch (frs (env :: outer)) H g s.heap h' → Exc h' H g e cls (some T) → Q () { s with heap := h' }) : wpAny M A (leaving env (.ref e)) Q E s := by
  unfold leaving
  exact wpAny_bind (note_ok hfr hl hf x hH hn fun h1 T t1 x1 => flight_ok x1 fun h2 t2 _ x2 => h h2 T (t1.trans t2) x2)
end
end L2
set_option Elab.async false
set_option linter.all false
set_option maxRecDepth 100000
set_option maxHeartbeats 4000000
namespace L2
open PySem PySem.Spec PyProof.Rows
theorem ObjOk.obj {P : Program} {w : World} {H : Hp} {h : Heap} {a : Addr} {o : HO} (x : ObjOk P w H h a o) : ∃ u, h.get? a = some u := by
  cases o with
  | lst xs => obtain ⟨_, _, _, _, e⟩ := x; exact ⟨_, e⟩
  | tup xs => obtain ⟨_, _, _, ⟨_, e, _⟩⟩ := x; exact ⟨_, e⟩
  | dK kvs => obtain ⟨_, _, _, _, o, _, _, e, _⟩ := x; exact ⟨_, e⟩
  | dT kvs => obtain ⟨_, _, _, _, o, _, _, e, _⟩ := x; exact ⟨_, e⟩
  | set S n => obtain ⟨o, _, _, _, e, _⟩ := x; exact ⟨_, e⟩
  | ins C dx fs => obtain ⟨_, _, _, e, _⟩ := x; exact ⟨_, e⟩
  | own y => exact x
  | xd fs => obtain ⟨_, ⟨_, _, _, e, _⟩, _⟩ := x; exact ⟨_, e⟩
  | rng lo hi => obtain ⟨_, _, _, e⟩ := x; exact ⟨_, e⟩
  | frz ob u => obtain ⟨e, _⟩ := x; exact ⟨_, e⟩
  | tbl ps => exact ⟨_, (show h.get? a = some _ from x)⟩
  | met f y => exact ⟨_, (show h.get? a = some _ from x)⟩
  | ext φ => exact x.2.1
theorem HOk.none_of {P : Program} {w : World} {H : Hp} {h : Heap} {a : Addr} (x : HOk P w H h) (e : h.get? a = none) : H a = none := by
  cases q : H a with
  | none => rfl
  | some o =>
    obtain ⟨u, z⟩ := (x a o q).obj
    rw [e] at z
    cases z
theorem HOk.touch {P : Program} {w : World} {H : Hp} {g h h' : Heap} {fr : List Addr} (x : HOk P w H h) (t : Touch fr H g h h') (hf : ∀ b ∈ fr, H b = none) : HOk P w H h' := fun a o e =>
  (x a o e).stay (fun b u hb q => by
    have nn : H b ≠ none := by
      rcases hb with rfl | hb
      · rw [e]; exact fun z => nomatch z
      · rw [hb]; exact fun z => nomatch z
    exact t.keep b u q (.inr nn) fun z => nn (hf b z)) (fun _ q => q) fun _ _ q => q
structure InG (X : Cx) (pins : List (Addr × Obj)) (g : Heap) : Prop where
  s0 : ∀ b o, X.s₀.heap.get? b = some o → b ∉ X.ex → g.get? b ≠ none
  L : g.get? X.env.locals ≠ none
  C : ∀ x c, X.env.cells.lookup x = some c → g.get? c ≠ none
  pn : ∀ p ∈ X.pn ++ pins, g.get? p.1 ≠ none
theorem some_ne {α : Type} {o : Option α} {u : α} (e : o = some u) : o ≠ none := by rw [e]; exact fun z => nomatch z
theorem Inv.inG {X : Cx} {pins : List (Addr × Obj)} {σ : St} {H : Hp} {s : Shared} (I : Inv X pins σ H s) : InG X pins s.heap where
  s0 := fun b o e hx => let ⟨_, q⟩ := I.base.there b o e hx; some_ne q
  L := by
    obtain ⟨m, ⟨o, _, _, ho, _⟩, _⟩ := I.loc
    exact some_ne ho
  C := fun x c e => by
    obtain ⟨v, o, ho, _⟩ := I.cell x c e
    exact some_ne ho
  pn := fun p hp => some_ne (I.pin p hp).1
theorem Inv.touch {X : Cx} {pins : List (Addr × Obj)} {σ : St} {H H' : Hp} {s : Shared} {g h' : Heap} (I : Inv X pins σ H s) (G : InG X pins g) (t : Touch (frs X.stack) H g s.heap h') (hok : HOk X.prog X.w H' h')
    (free : ∀ b, g.get? b ≠ none → H b = none → H' b = none) (same : ∀ b o, H b = some o → H' b = some o) : Inv X pins σ H' { s with heap := h' } := by
  have sub : ∀ b, b ≠ X.env.locals → b ∉ X.fs → b ∉ frs X.stack := fun b h1 h2 z => (List.mem_cons.mp (I.stkSub b z)).elim h1 h2
  have neL : ∀ b o, X.s₀.heap.get? b = some o → b ≠ X.env.locals := fun b o e => Nat.ne_of_lt (Nat.lt_of_lt_of_le (Heap.lt_size e) I.ok.above)
  have cellK : ∀ x c, X.env.cells.lookup x = some c → ∀ v, s.heap.IsCell c v → h'.IsCell c v := fun x c e v ⟨o, ho, hd⟩ => by
    obtain ⟨sl, q⟩ := t.slot c o ho (.inl (G.C x c e))
    exact ⟨_, q, hd⟩
  refine ⟨I.ok, I.os, I.bare, ⟨fun b o e n hb hx => ?_, fun b o e n hb hx => ?_, fun b o e n hx => ?_, fun b o e hx => ?_, fun b xs e => same b _ (I.base.tups b xs e), fun b o u e => same b _ (I.base.frzs b o u e), fun b ps e => ?_⟩, ?_, fun x c e => ?_, ?_, fun x c e => ?_, fun p hp => ?_, hok, I.len⟩
  · exact t.keep b o (I.base.keep b o e n hb hx) (.inl (G.s0 b o e hx)) (sub b (neL b o e) hb)
  · obtain ⟨sl, q⟩ := I.base.slot b o e n hb hx
    obtain ⟨sl', q'⟩ := t.slot b _ q (.inl (G.s0 b o e hx))
    exact ⟨sl', q'⟩
  · exact free b (G.s0 b o e hx) (I.base.free b o e n hx)
  · obtain ⟨o', q⟩ := I.base.there b o e hx
    exact t.there b o' q
  · obtain ⟨more, q⟩ := I.base.tbls b ps e
    exact ⟨more, same b _ q⟩
  · obtain ⟨m, ⟨o, es, ep, ho, r⟩, hl⟩ := I.loc
    obtain ⟨sl, q⟩ := t.slot _ o ho (.inl G.L)
    refine ⟨m, ⟨_, es, ep, q, r⟩, fun i x v e1 e2 e3 => ?_⟩
    obtain ⟨u, ru, l⟩ := hl i x v e1 e2 e3
    refine ⟨u, ru, ?_⟩
    rcases l with l | ⟨k, c, e, z⟩
    · exact .inl l
    · exact .inr ⟨k, c, e, cellK x c e _ z⟩
  · obtain ⟨v, z⟩ := I.cell x c e
    exact ⟨v, cellK x c e v z⟩
  · exact free _ G.L I.free
  · exact free c (G.C x c e) (I.freeC x c e)
  · obtain ⟨e, n, ne, nf, d⟩ := I.pin p hp
    exact ⟨t.keep p.1 p.2 e (.inl (G.pn p hp)) (sub p.1 ne nf), free p.1 (G.pn p hp) n, ne, nf, d⟩
def CXf (P : Program) (w : World) : CXT := fun outer H s E e s' => ∃ a cls T H', e = .ref a ∧ s'.os = s.os ∧ AllBare s'.gens ∧ Un (frs outer) [] H H' s.heap s'.heap ∧ HOk P w H' s'.heap ∧ Exc s'.heap H' s.heap a cls (some T) ∧ E cls none H'
def Lets (X : Cx) (E : XK) : Prop := ∀ (pins : List (Addr × Obj)) (σ : St) (H : Hp) (s : Shared) (g : Heap) (a : Addr) (cls : Value) (hd : Option Addr),
  Inv X pins σ H s → InG X pins g → (∀ b, s.heap.get? b = none → g.get? b = none) → Exc s.heap H g a cls hd → E cls none H → X.xe (.ref a) s
theorem Exc.mono {h g g' : Heap} {H : Hp} {e : Addr} {cls : Value} {hd : Option Addr} (x : Exc h H g e cls hd) (k : ∀ b, g.get? b = none → g'.get? b = none) : Exc h H g' e cls hd := by
  obtain ⟨h1, h2, oe, vs, h3, h4, h5, h6, h7, h8⟩ := x
  refine ⟨h1, k _ h2, oe, vs, h3, h4, h5, h6, h7, ?_⟩
  cases hd with
  | none => exact h8
  | some T =>
    obtain ⟨q1, q2, q3, q4, q5⟩ := h8
    exact ⟨q1, q2, q3, k _ q4, q5⟩
theorem get_none_ge {h : Heap} {b : Addr} (e : h.objs.size ≤ b) : h.get? b = none := Heap.get?_none_of_le e
theorem lets_def {P : Program} {w : World} {K : PySem.W.Frag} {mg : Str → Option Value} {base : Heap} {N : List Str} {qual : Str} {scope : Scope} {f : Addr} {cd : Value} {A : Around} {outer : List Env} {s₀ : Shared} {H₀ : Hp} {E : XK} :
    Lets (cxOf (CXf P w) P w K mg base N qual scope f cd A outer s₀ H₀ E) E := by
  intro pins σ H s g a cls hd I G hg x hE
  refine leave_ok (H := H) (g := g) I.ok.frames I.stack rfl x (fun b hb => I.hok.fresh hb) (fun b hb => hg b (get_none_ge hb)) fun h' T t x' => ?_
  have J := I.touch G t (I.hok.touch t I.stkFree) (fun _ _ n => n) (fun _ _ q => q)
  refine ⟨a, cls, T, H, rfl, J.os, J.bare, J.base, J.hok, x'.mono fun b hb => ?_, hE⟩
  cases q : s₀.heap.get? b with
  | none => rfl
  | some o => exact absurd hb (G.s0 b o q (fun z => nomatch z))
theorem passes_of {X : Cx} {P : Program} {w : World} {E : XK} (hP : X.prog = P) (hw : X.w = w) (L : Lets X E) : Passes (CXf P w) X E := by
  subst hP hw
  rintro pins σ H s e s' I ⟨a, cls, T, H', rfl, os, bare, un, hok, x, hE⟩
  refine L pins σ H' s' s.heap a cls (some T) (I.call' os un hok bare fun b z => nomatch z) I.inG (fun b hb => ?_) x hE
  cases q : s.heap.get? b with
  | none => rfl
  | some o =>
    obtain ⟨o', z⟩ := un.there b o q (by simp)
    rw [hb] at z
    cases z
theorem passN {X : Cx} {P : Program} {w : World} : Passes (CXf P w) X E0 := fun _ _ _ _ _ _ _ ⟨_, _, _, _, _, _, _, _, _, _, h⟩ => h.elim
end L2
set_option Elab.async false
set_option linter.all false
set_option maxRecDepth 100000
set_option maxHeartbeats 4000000
namespace L2
open PySem PySem.Spec PyProof.Rows
abbrev bmV : List Value := [.type "ValueError", .type "Exception", .type "BaseException", .type "object"]
theorem exc_obj {K : PySem.W.Frag} {h : Heap} {C : Addr} {bmB : List Value} {nid : String} (X : K.In h) (q : PySem.W.excIn K C bmB nid = true) :
    ∃ bm N nm qn bs hdct sn sub ab col dd k0 k1 k2 k3 k5 mN, h.get? C = some (excClassObj nm qn C N bs bm hdct sn sub ab col dd k0 k1 k2 k3 k5 nid) ∧ h.Ns N mN ∧ mN "__init__" = none ∧ OwnTail h bmB bm := by
  unfold PySem.W.excIn at q
  split at q
  · next dd cd sl ho =>
    split at q
    · next C1 bm k0 k1 k2 k3 nw k5 hm hs =>
      rw [Bool.and_eq_true, Bool.and_eq_true, Bool.and_eq_true, Bool.and_eq_true, Bool.and_eq_true] at q
      obtain ⟨⟨⟨⟨⟨q1, q2⟩, q3⟩, q4⟩, q5⟩, q6⟩ := q
      have q1 := beq_iff_eq.mp q1
      have q2 := beq_iff_eq.mp q2
      have q3 : cd.hasDel = false := by simpa using q3
      have q6 := beq_iff_eq.mp q6
      subst q1 q2
      obtain ⟨v1, v2, v3, v4, v5, v6, v7, v8, v9, v10, v11⟩ := cd
      have e1 : v3 = .ref C1 :: bm := hm
      have e2 : v11 = false := q3
      have e3 : sl = #[k0, k1, k2, k3, some (.builtin nw), k5] := by
        cases sl
        exact congrArg Array.mk hs
      subst e1 e2 e3
      exact ⟨bm, v4, v1, v5, v2, v6, v7, v8, v9, v10, dd, k0, k1, k2, k3, k5, _, X _ _ ho, .of_isNs (PySem.W.isNs_of_in X q5), PySem.W.nsMap_none_of_in X q5 q6, PySem.W.tail_of_in X q4⟩
    · cases q
  · cases q
def tRaise (E : XK) (C : Addr) (t : TA) : TS := fun _ σ H => t σ H fun vs H1 => vs.length ≤ sizeLine ∧ E (.ref C) none H1
theorem ps_raise {X : Cx} {x : Str} {C : Addr} {e : Expr} {es : List Expr} {t : TA} {E : XK} {np cpos pos : Pos} (L : Lets X E) (hc : X.calm = true) (hg : Gl X x) (hm : X.mg x = some (.ref C)) (hC : PySem.W.excIn X.K C bmV "ValueError.__new__" = true)
    (ha : PA X (e :: es) t) (hst : starEach (e :: es) X.env = (false, eval e X.env) :: starEach es X.env := by rfl) (hpl : (backTo cpos (starEach (e :: es) X.env)).any (·.1) = false := by rfl) (hd : (x == ("__debug__" : Str)) = false := by decide) :
    PS X (.Raise (some (.Call (.Name x np) (e :: es) [] cpos)) none pos) (tRaise E C t) := by
  intro pins s σ H D I h
  have oC := exc_obj (h := X.base) I.ok.mod.kin hC
  obtain ⟨bm, N, nm, qn, bs, hdct, sn, sub, ab, col, dd, k0, k1, k2, k3, k5, mN, hCo, hN, hni, T⟩ := oC
  refine wpAny_Raise_call_subT (C := C) (nm := nm) (q := qn) (N := N) (bs := bs) (bm := bm) (hdct := hdct) (sn := sn) (sub := sub) (ab := ab) (col := col) (dd := dd) (k0 := k0) (k1 := k1) (k2 := k2) (k3 := k3) (k5 := k5)
    PySem.F.excBase_ValueError (mN := mN) (T.hasType PySem.F.excBase_ValueError.hasBase) (I.ok.hd hc) hpl hni (ld_glob I hg hm ⟨rfl, ?_⟩ hd)
  have q := ha cpos pins s σ H _ I h
  rw [hst] at q ⊢
  refine Calls.evalArgs_plain (thn q fun us s2 ⟨vs, H1, I1, r, z, hE⟩ => ⟨rfl, by rw [← r.length]; exact z, I1.bk _ _ hCo, hN.keeps I1.bk, T.keeps I1.bk, fun h' a hx => ?_⟩)
  obtain ⟨tp, he, hnt, _⟩ := hx.there
  have I2 : Inv X pins σ H1 { s2 with heap := h' } := I1.kept (t' := s2.toks) hx.keeps
  refine L pins σ H1 _ s2.heap a (.ref C) none I2 I1.inG (fun b hb => ?_) ⟨I1.hok.none_of hx.new, hx.new, _, _, he, rfl, rfl, rfl, rfl, rfl⟩ hE
  cases w : s2.heap.get? b with
  | none => rfl
  | some o =>
    have hb : h'.get? b = none := hb
    rw [hx.keeps b o w] at hb
    cases hb
end L2
set_option Elab.async false
set_option linter.all false
set_option maxRecDepth 100000
set_option maxHeartbeats 4000000
namespace L2
open PySem PySem.Spec PyProof.Rows
def excO (a : Addr) (cls : Value) : HO := .ext fun h => ∃ oe vs, h.get? a = some oe ∧ oe.cls = cls ∧ oe.dict = none ∧ oe.data = .fields vs ∧ vs[2]? = some Value.none
abbrev Cx.inTry (X : Cx) (pn : List (Addr × Obj)) (xe : Value → Shared → Prop) : Cx := { X with pn := pn, xe := xe }
abbrev Cx.inSuite (X : Cx) (pn : List (Addr × Obj)) (a : Addr) : Cx := { X with A := X.A.mark (some (.ref a)), calm := false, pn := pn, xe := fun _ _ => False }
section
variable {X : Cx} {pins : List (Addr × Obj)} {σ : St} {H : Hp} {s : Shared} {xe : Value → Shared → Prop} {a : Addr}
theorem Inv.toTry (I : Inv X pins σ H s) (xe : Value → Shared → Prop) : Inv (X.inTry (X.pn ++ pins) xe) [] σ H s :=
  ⟨⟨I.ok.mod, I.ok.kind, I.ok.glob, I.ok.blt, I.ok.above, I.ok.inj, I.ok.has, I.ok.cab, I.ok.hd, I.ok.frames, I.ok.stk, I.ok.exf, I.ok.bs, I.ok.bsz, I.ok.noex, I.ok.exfs, I.ok.funs, I.ok.frf⟩,
    I.os, I.bare, I.base, I.loc, I.cell, I.free, I.freeC, fun p hp => I.pin p (by simpa using hp), I.hok, I.len⟩
theorem Inv.ofTry {pins' : List (Addr × Obj)} (ok : X.Ok) (I : Inv (X.inTry (X.pn ++ pins) xe) pins' σ H s) : Inv X pins σ H s :=
  ⟨ok, I.os, I.bare, I.base, I.loc, I.cell, I.free, I.freeC, fun p hp => I.pin p (List.mem_append_left _ hp), I.hok, I.len⟩
theorem Inv.toSuite (I : Inv X pins σ H s) (a : Addr) : Inv (X.inSuite (X.pn ++ pins) a) [] σ H s :=
  ⟨⟨I.ok.mod, I.ok.kind, I.ok.glob, I.ok.blt, I.ok.above, I.ok.inj, I.ok.has, I.ok.cab, (fun z => nomatch z), I.ok.frames, I.ok.stk, I.ok.exf, I.ok.bs, I.ok.bsz, I.ok.noex, I.ok.exfs, I.ok.funs, I.ok.frf⟩,
    I.os, I.bare, I.base, I.loc, I.cell, I.free, I.freeC, fun p hp => I.pin p (by simpa using hp), I.hok, I.len⟩
theorem Inv.ofSuite (ok : X.Ok) (I : Inv (X.inSuite (X.pn ++ pins) a) [] σ H s) : Inv X pins σ H s :=
  ⟨ok, I.os, I.bare, I.base, I.loc, I.cell, I.free, I.freeC, fun p hp => I.pin p (by simpa using hp), I.hok, I.len⟩
def Thr (X : Cx) (pins : List (Addr × Obj)) (E : XK) : Value → Shared → Prop := fun e s' => ∃ a cls hd H' g σ', e = .ref a ∧ Inv X pins σ' H' s' ∧ InG X pins g ∧ (∀ b, s'.heap.get? b = none → g.get? b = none) ∧ Exc s'.heap H' g a cls hd ∧ E cls none H'
theorem lets_try {E : XK} (ok : X.Ok) : Lets (X.inTry (X.pn ++ pins) (Thr X pins E)) E := by
  intro pins' σ H s g a cls hd I G hg x hE
  exact ⟨a, cls, hd, H, g, σ, rfl, I.ofTry ok, ⟨G.s0, G.L, G.C, fun p hp => G.pn p (List.mem_append_left _ hp)⟩, hg, x, hE⟩
theorem SP.ofTry {D : Ends} {f : Flow} {s' : Shared} (ok : X.Ok) (h : SP (X.inTry (X.pn ++ pins) xe) [] D f s') : SP X pins D f s' := by
  cases f with
  | next => obtain ⟨σ', H', I, q⟩ := h; exact ⟨σ', H', I.ofTry ok, q⟩
  | brk => obtain ⟨σ', H', I, q⟩ := h; exact ⟨σ', H', I.ofTry ok, q⟩
  | cont => obtain ⟨σ', H', I, q⟩ := h; exact ⟨σ', H', I.ofTry ok, q⟩
  | ret u => obtain ⟨v, σ', H', I, r, q⟩ := h; exact ⟨v, σ', H', I.ofTry ok, r, q⟩
theorem Inv.forget {h' : Heap} {m' : Str → Option Value} {t' : Nat} (I : Inv X pins σ H s) (hn : h'.Ns X.env.locals m') (hs : Heap.SameBut X.env.locals s.heap h') : Inv X pins (List.replicate X.N.length none) H { s with heap := h', toks := t' } := by
  have neL : ∀ b o, X.s₀.heap.get? b = some o → b ≠ X.env.locals := fun b o e => Nat.ne_of_lt (Nat.lt_of_lt_of_le (Heap.lt_size e) I.ok.above)
  refine ⟨I.ok, I.os, I.bare, ⟨fun b o e n hb hx => (hs.2 b (neL b o e)).trans (I.base.keep b o e n hb hx), fun b o e n hb hx => ?_, I.base.free, fun b o e hx => ?_, I.base.tups, I.base.frzs, I.base.tbls⟩, ⟨m', hn, fun i x v _ e2 _ => ?_⟩, fun x c e => ?_, I.free, I.freeC, fun p hp => ?_, fun b u e => ?_, by simp⟩
  · obtain ⟨sl, q⟩ := I.base.slot b o e n hb hx
    exact ⟨sl, (hs.2 b (neL b o e)).trans q⟩
  · obtain ⟨o', q⟩ := I.base.there b o e hx
    exact ⟨o', (hs.2 b (neL b o e)).trans q⟩
  · rw [List.getElem?_replicate] at e2
    split at e2 <;> cases e2
  · obtain ⟨v, z⟩ := I.cell x c e
    exact ⟨v, z.sameBut hs (I.cne x c e)⟩
  · obtain ⟨e, n, ne, nf, d⟩ := I.pin p hp
    exact ⟨(hs.2 p.1 ne).trans e, n, ne, nf, d⟩
  · refine (I.hok b u e).stay (fun c v hc q => (hs.2 c ?_).trans q) (fun _ q => q) fun _ _ q => q
    rintro rfl
    rcases hc with rfl | hc
    · rw [I.free] at e
      cases e
    · rw [I.free] at hc
      cases hc
theorem HOk.caught {P : Program} {w : World} {g h : Heap} {cls : Value} {hd : Option Addr} (x : HOk P w H h) (e : Exc h H g a cls hd) : HOk P w (upd H a (excO a cls)) h := by
  obtain ⟨hn, _, oe, vs, h1, h2, h3, h4, h5, _⟩ := e
  intro b u q
  by_cases hb : b = a
  · subst hb
    rw [upd_same] at q
    cases q
    refine ⟨⟨oe, vs, h1, h2, h3, h4, h5⟩, ⟨oe, h1⟩, ?_⟩
    rintro k1 k2 ⟨oe', vs', z1, z2⟩ k
    exact ⟨oe', vs', k _ z1, z2⟩
  · rw [upd_ne hb] at q
    exact (x b u q).stay (fun c v _ z => z) (fun c z => by rw [upd_ne (ne_of_none z hn)]; exact z) fun c xs z => by rw [upd_ne (ne_of_none z hn)]; exact z
end
def tTry (K : PySem.W.Frag) (c : Value) (i len : Nat) (E : XK) (tb : TS) (ts : Addr → TS) : TS := fun D σ H => tb D σ H ∧ ∀ cls H', E cls none H' → PySem.W.exmOne K cls c = some true ∧
  ∀ a, H' a = none → ts a { nx := fun _ _ => False, rt := D.rt } ((List.replicate len (none : Option V)).set i (some (.ref a))) (upd H' a (excO a cls))
theorem ps_try {X : Cx} {body suite : List Stmt} {b₀ : Stmt} {x n : Str} {i : Nat} {c : Value} {E : XK} {tb : TS} {ts : Addr → TS} {np hpos pos : Pos} (hN : X.N.Nodup) (hi : X.N[i]? = some n) (hl : X.env.scope.names.lookup n = some .local)
    (hst : X.stack = X.env :: X.outer) (hf : X.env.frame = some X.env.locals) (hg : Gl X x) (hm : X.mg x = some c) (hb : ∀ pn xe, Lets (X.inTry pn xe) E → PSs (X.inTry pn xe) body tb) (hs : ∀ pn a, PSs (X.inSuite pn a) (b₀ :: suite) (ts a))
    (hd : (x == ("__debug__" : Str)) = false := by decide) : PS X (.Try body [.ExceptHandler (some (.Name x np)) (some n) (b₀ :: suite) hpos] [] [] pos) (tTry X.K c i X.N.length E tb ts) := by
  rintro pins s σ H D I ⟨h1, h2⟩
  refine wpAny_Try_except (wpAny_mono (hb _ _ (lets_try (pins := pins) I.ok) [] s σ H D (I.toTry _) h1) (fun f s1 q => ?_) fun e s1 q => ?_)
  · have q := q.ofTry I.ok
    cases f with
    | next => exact wpAny_execs_nil q
    | brk => exact q
    | cont => exact q
    | ret u => exact q
  · obtain ⟨a, cls, hd', H', g, σ', rfl, I1, G, hgn, x1, hE⟩ := q
    obtain ⟨hit, hsu⟩ := h2 cls H' hE
    have fr : X.A.frames = some (X.env :: X.outer) := by rw [← hst]; exact I1.ok.frames
    have st : s1.heap.FunFrames X.base (X.env :: X.outer) := by rw [← hst]; exact I1.stack
    have sf : ∀ b ∈ frs (X.env :: X.outer), H' b = none := by rw [← hst]; exact I1.stkFree
    refine note_ok fr st hf x1 (fun b hb => I1.hok.fresh hb) (fun b hb => hgn b (get_none_ge hb)) fun g2 T t2 x2 => ?_
    refine flight_ok (fr := frs (X.env :: X.outer)) x2 fun g3 t3 _ x3 => ?_
    have t := t2.trans t3
    have I3 : Inv X pins σ' H' { s1 with heap := g3 } := I1.touch G (by rw [hst]; exact t) (I1.hok.touch t sf) (fun _ _ z => z) fun _ _ z => z
    refine wpAny_handleBy_cons (codeAny_handlers_test ?_) (by intro q; cases q)
    refine ld_glob (X := X.inSuite (X.pn ++ pins) a) (I3.toSuite a) hg hm ?_ hd
    have LT : PySem.W.Looks (model X.prog X.w) g3 (typeOf (.ref a)) cls := by
      obtain ⟨_, _, oe, vs, z1, z2, _⟩ := x3
      exact z2 ▸ (PySem.W.Looks.ld z1).andThen .now
    refine (PySem.W.exm_one I3.kIn LT hit).here ?_
    refine codeAny_handlers_suite_as ?_
    refine flight_ok (s := { s1 with heap := g3 }) (fr := frs (X.env :: X.outer)) x3 fun g4 t4 _ x4 => ?_
    have I4 : Inv X pins σ' H' { s1 with heap := g4 } := I3.touch G (by rw [hst]; exact t4) (I3.hok.touch t4 sf) (fun _ _ z => z) fun _ _ z => z
    have nH : H' a = none := x4.1
    have ng : g.get? a = none := x4.2.1
    have I5 : Inv X pins σ' (upd H' a (excO a cls)) { s1 with heap := g4 } := I4.touch (h' := g4) G Touch.refl (I4.hok.caught x4)
      (fun b hb z => by rw [upd_ne (fun w => hb (by rw [w]; exact ng))]; exact z) fun b o z => by rw [upd_ne (ne_of_none z nH)]; exact z
    have I6 : Inv X pins (List.replicate X.N.length none) (upd H' a (excO a cls)) { s1 with heap := g4 } := I5.weak (by rw [I5.len]; simp) fun i v z => by
      rw [List.getElem?_replicate] at z
      split at z <;> cases z
    refine store_ok (X := X.inSuite (X.pn ++ pins) a) (I6.toSuite a) hN hi (.inl hl) (v := .ref a) rfl (fun s7 I7 => ?_) (.inr hl)
    refine wpAny_mono (hs (X.pn ++ pins) a [] s7 _ _ { nx := fun _ _ => False, rt := D.rt } I7 (hsu a nH)) (fun f s8 q => ?_) fun _ _ z => z.elim
    cases f with
    | next => obtain ⟨_, _, _, z⟩ := q; exact z.elim
    | brk => obtain ⟨_, _, _, z⟩ := q; exact z.elim
    | cont => obtain ⟨_, _, _, z⟩ := q; exact z.elim
    | ret u =>
      obtain ⟨v, σ8, H8, I8, r8, z8⟩ := q
      have I8 := I8.ofSuite I.ok
      obtain ⟨m8, n8, _⟩ := id I8.loc
      refine wpAny_nameGoes hl n8 (by rw [I.ok.kind]; rfl) fun h' m' hn hsb => ?_
      exact ⟨v, _, H8, I8.forget hn hsb, r8, z8⟩
end L2
set_option Elab.async false
set_option linter.all false
set_option maxRecDepth 100000
set_option maxHeartbeats 4000000
namespace L2
open PySem PySem.Spec PyProof.Rows PySem.W
structure ExCls (K : PySem.W.Frag) (D : Addr) : Prop where
  cl : (clsIn K D).isSome = true
  ga : findIn K (.ref D) "__getattribute__" = some (some (.builtin "BaseException.__getattribute__"))
  gr : findIn K (.ref D) "__getattr__" = some none
  ca : findIn K (.ref D) "__class__" = some (some (.builtin "object.__class__"))
  gt : specialIn K (.builtin "object.__class__") "__get__" = some (some (.builtin "getset_descriptor.__get__"))
  tk : takesIn K (.builtin "object.__class__") = some true
  ob : mroIn K D (.type "object") = some true
  be : mroIn K D (.type "BaseException") = some true
section
variable {prog : Program} {w : World} {A : Around} {E : Value → Shared → Prop} {s : Shared} {K : PySem.W.Frag} {x D : Addr} {ox : Obj}
theorem exc_find (F : ExCls K D) : findObj K D none "__class__" = some (.bind (.builtin "getset_descriptor.__get__") (.builtin "object.__class__")) := by
  have h1 := F.gt
  have h2 := F.tk
  obtain ⟨cd, hc⟩ := Option.isSome_iff_exists.mp F.cl
  unfold findObj
  rw [hc, Option.bind_some, F.ca]
  simp [h1, h2]
theorem exc_entry {tk : Tok} {Q : Fin → Shared → Prop} (F : ExCls K D) (X : K.In s.heap) (I : InstAt s.heap x ox D none) (h : Q (.done (.ret (.ref D))) s) :
    wpAny (model prog w) A (Builtin.«object.__getattribute__» ⟨[.ref x, .str "__class__" tk], []⟩) Q E s := by
  have hf := exc_find F
  obtain ⟨hh, g, d, t, os⟩ := s
  have L0 := I.type (M := model prog w)
  have L1 := looks_find (M := model prog w) X I hf
  unfold Builtin.«object.__getattribute__»
  refine wpAny_bind (wpAny_pure (wpAny_bind (wpAny_pure (wpAny_bind (L0.at (wpAny_bind (L1.at ?_)))))))
  show wpAny _ _ (holding [.builtin "object.__class__"] (call (.builtin "getset_descriptor.__get__") [.builtin "object.__class__", .ref x, .ref D]) >>= ret) _ _ _
  exact wpAny_bind (wpAny_holding (wpAny_call (class_get (ox := ox) (od := none) X I F.ob (wpAny_pure h))))
theorem exc_ga {tk : Tok} {R : Result → Shared → Prop} (F : ExCls K D) (X : K.In s.heap) (I : InstAt s.heap x ox D none) (h : R (.ok (.ret (.ref D))) s) :
    codeAny (model prog w) A (.call (.builtin "BaseException.__getattribute__") ⟨[.ref x, .str "__class__" tk], []⟩) R s := by
  refine codeAny_call_builtin PySem.F.excAttr_ValueError.ga.plain PySem.F.entry_bexc_ga ?_
  have hk : builtinKind "BaseException.__getattribute__" = some .slot := by decide +kernel
  have hsp : splitId "BaseException.__getattribute__" = some ("BaseException", "__getattribute__") := by decide +kernel
  have ha := PySem.F.args_bexc_ga (.ref x) (.str "__class__" tk)
  obtain ⟨hh, g, d, t, os⟩ := s
  have L0 := I.type (M := model prog w)
  have L1 := looks_mroIn (M := model prog w) X F.be
  simp only [checkBuiltinCall, hk, hsp]
  refine wpAny_bind ?_
  unfold isInstance
  refine wpAny_bind (L0.at (L1.at ?_))
  rw [if_neg (show ¬ ((!true) = true) from Bool.false_ne_true)]
  unfold argsOk at ha
  refine wpAny_of_eq (a := ()) ha ?_
  exact exc_entry F X I h
theorem exc_class {Q : Option Value → Shared → Prop} (F : ExCls K D) (X : K.In s.heap) (I : InstAt s.heap x ox D none) (h : Q (some (.ref D)) { s with toks := s.toks + 1 }) : wpAny (model prog w) A (getAttr? (.ref x) "__class__") Q E s := by
  obtain ⟨hh, g, d, t, os⟩ := s
  have L0 := I.type (M := model prog w)
  have L1 := looks_findIn (M := model prog w) X F.ga
  have L2 := looks_findIn (M := model prog w) X F.gr
  unfold getAttr? getAttrBy? getAttrBy
  refine wpAny_bind (wpAny_mkText (wpAny_bind (wpAny_attempt (wpAny_holding (wpAny_bind (L0.at (wpAny_bind (L1.at ?_))))))))
  show wpAny _ _ (getAttrByItsOwn (.ref x) (.str "__class__" t) (.ref D) (.builtin "BaseException.__getattribute__") false false) _ _ _
  unfold getAttrByItsOwn hookBefore
  refine wpAny_bind ?_
  rw [if_pos (show onTheHeap (Value.ref D) = true from rfl)]
  refine L2.at ?_
  refine wpAny_bind (wpAny_attempt (wpAny_holding ?_))
  show wpAny _ _ (boundAndCalled (.builtin "BaseException.__getattribute__") (.ref x) (.str "__class__" t)) _ _ _
  unfold boundAndCalled
  rw [PySem.F.excAttr_ValueError.ga.bind (.ref x)]
  refine wpAny_bind (wpAny_pure ?_)
  show wpAny _ _ (call (.builtin "BaseException.__getattribute__") [.ref x, .str "__class__" t]) _ _ _
  refine wpAny_call (exc_ga F X I ?_)
  show wpAny _ _ (handedOut (.ref D)) _ _ _
  rw [handedOut_of (show handedIn (.ref D) = true from rfl)]
  exact wpAny_pure (wpAny_pure h)
theorem kitx_exc (F : ExCls K D) : KitX K (.ref x) (.ref D) (fun h => ∃ ox, InstAt h x ox D none) where
  ty := fun _ _ _ ⟨_, I⟩ => I.type
  it := fun M h X _ => by
    have hc := F.cl
    unfold clsIn at hc
    split at hc
    · next c' d' cd' sl' ho =>
      intro A' Q' E' s' k q
      unfold isType loadHead
      exact wpAny_bind (wpAny_loadPart (k _ _ (X _ _ ho)) (wpAny_pure q))
    · cases hc
  ne := fun h tp dd its n sl X htp => by
    have hc := F.cl
    refine Bool.eq_false_iff.mpr fun q => ?_
    have e : D = tp := Value.ref.inj (beq_iff_eq.mp q)
    subst e
    unfold clsIn at hc
    split at hc
    · next c' d' cd' sl' ho => cases (X _ _ ho).symm.trans htp
    · cases hc
  ca := fun X ⟨_, I⟩ k => exc_class F X I k
end
inductive ClV : V → Value → Prop where
  | own (C : Addr) : ClV (.ref C) (.ref C)
  | ty (n : String) : ClV (.ty n) (.type n)
theorem ClV.eq {y : V} {c u : Value} (h : ClV y c) (r : RelV y u) : u = c := by
  cases h with
  | own C => exact r
  | ty n => exact r
def rIsX (K : PySem.W.Frag) : List V → Hp → VK → Prop := fun xs H Q => ∃ a D y c b, xs = [.ref a, y] ∧ ClV y c ∧ H a = some (excO a (.ref D)) ∧ ExCls K D ∧ kitOne K (.ref D) c = some b ∧ Q (.bl b) H
theorem call_isX {X : Cx} : CallR X (.builtin "isinstance") (rIsX X.K) := by
  intro pins s σ H xs us Q I r h
  obtain ⟨a, D, y, c, b, rfl, cy, ha, F, e, q⟩ := h
  obtain ⟨u1, u2, rfl, r1, r2⟩ : ∃ u1 u2, us = [u1, u2] ∧ RelV (.ref a) u1 ∧ RelV y u2 := by
    cases r with
    | cons r1 t => cases t with
      | cons r2 t => cases t with
        | nil => exact ⟨_, _, rfl, r1, r2⟩
  cases r1
  cases cy.eq r2
  obtain ⟨⟨oe, vs, h1, h2, h3, h4, _⟩, _⟩ := (show ObjOk X.prog X.w H s.heap a (excO a (.ref D)) from I.hok a _ ha)
  refine kia_one (kitx_exc F) I.kIn ⟨oe, h1, h2, ?_, ?_⟩ e (fun z => nomatch z) fun tk => ⟨.bl b, H, I.tok tk, rfl, q⟩
  · unfold notCls
    rw [h4]
  · rw [h3]
    trivial
end L2
set_option Elab.async false
set_option linter.all false
set_option maxRecDepth 100000
set_option maxHeartbeats 4000000
namespace L2
open PySem PySem.Spec PyProof.Rows
section
variable {prog : Program} {w : World} {A : Around} {E : Value → Shared → Prop} {s : Shared}
end
def rAnyX (K : PySem.W.Frag) (e : Addr) : List V → Hp → VK → Prop := fun xs H Q => ∃ p D, ∃ bs : List Bool, xs = [.ref p] ∧ SqL K H p (bs.map V.bl) ∧ H e = some (excO e D) ∧ Q (.bl (bs.any id)) H
end L2
set_option Elab.async false
set_option linter.all false
set_option maxRecDepth 100000
set_option maxHeartbeats 4000000
namespace L2
open PySem PySem.Spec PyProof.Rows
section
variable {X : Cx}
theorem ints_items : ∀ {ns : List Int} {us : List Value}, Vals (ns.map V.int) us → ∃ ps : List (Int × Tok), us = ps.map (fun p => Value.int p.1 p.2) ∧ ps.map (·.1) = ns
  | [], us, r => by cases r; exact ⟨[], rfl, rfl⟩
  | n :: ns, us, r => by
    rw [List.map_cons] at r
    cases r with
    | cons r1 r2 =>
      obtain ⟨t, rfl⟩ := r1
      obtain ⟨ps, e1, e2⟩ := ints_items r2
      exact ⟨(n, t) :: ps, by rw [e1]; rfl, by rw [List.map_cons, e2]⟩
def rSum (K : PySem.W.Frag) : List V → Hp → VK → Prop := fun xs H Q => ∃ p, ∃ ns : List Int, xs = [.ref p] ∧ SqL K H p (ns.map V.int) ∧ Q (.int ns.sum) H
theorem mul_reps (x : Str) (n : Int) : Txt.mul x n = ⟨((List.replicate n.toNat x.cps.toList).flatten).toArray⟩ := by
  have f : ∀ (m : Nat) (a : Array Nat), (List.replicate m x.cps).foldl (· ++ ·) a = a ++ ((List.replicate m x.cps.toList).flatten).toArray := by
    intro m
    induction m with
    | zero => intro a; simp
    | succ m ih => intro a; rw [List.replicate_succ, List.replicate_succ, List.foldl_cons, ih, List.flatten_cons]; apply Array.ext'; simp
  unfold Txt.mul
  by_cases h1 : n < 1
  · rw [if_pos h1, show n.toNat = 0 by omega]; rfl
  · rw [if_neg h1]
    by_cases h2 : (n == 1 || x.length == 0) = true
    · rw [if_pos h2]
      rw [Bool.or_eq_true] at h2
      rcases h2 with h2 | h2
      · have e : n = 1 := eq_of_beq h2
        subst e
        simp
      · have e : x.cps.size = 0 := eq_of_beq h2
        obtain ⟨⟨l⟩⟩ := x
        have e : l = [] := by simpa using e
        subst e
        simp
    · rw [if_neg h2, f]
      simp
def rMulS : R2 := fun x y H Q => ∃ z n, x = .str z ∧ y = .int n ∧ z.length ≤ 16 ∧ n ≤ 1048576 ∧ -(2 ^ 63 : Int) ≤ n ∧ Q (.str ⟨((List.replicate n.toNat z.cps.toList).flatten).toArray⟩) H
theorem op_mulS : OpR X (binaryOp .Mult) rMulS := by
  intro pins s σ H x y v u Q I rx ry h
  obtain ⟨z, n, rfl, rfl, h1, h2, h3, q⟩ := h
  obtain ⟨t, rfl⟩ := rx
  obtain ⟨t', rfl⟩ := ry
  refine SB.mul (mulOk_of 16 1048576 h1 h2 h3 (by decide) (by decide)) fun tk k => ⟨.str (Txt.mul z n), H, I.tok k, ⟨tk, rfl⟩, ?_⟩
  rw [mul_reps]
  exact q
theorem str_indices (lo hi : Option Int) (n : Nat) : Builtin.Str.strSliceIndices lo hi 1 n = (List.range (HT.sIx n n hi - HT.sIx n 0 lo)).map (HT.sIx n 0 lo + ·) := by
  rw [← sliceRange_one]
  unfold Builtin.Str.strSliceIndices
  simp only [show (1 : Int) > 0 by decide, if_true]
  congr 1
  · cases lo with
    | none => rfl
    | some i =>
      simp only [HT.sIx]
      split <;> omega
  · cases hi with
    | none => rfl
    | some i =>
      simp only [HT.sIx]
      split <;> omega
def cutS (z : Str) (lo hi : Option Int) : Str := tx ((z.cps.toList.drop (HT.sIx z.length 0 lo)).take (HT.sIx z.length z.length hi - HT.sIx z.length 0 lo))
theorem slice_cut (z : Str) (lo hi : Option Int) : Txt.slice z lo hi = cutS z lo hi := by
  have hj : HT.sIx z.length z.length hi ≤ z.length := HT.sIx_le _ _ (Nat.le_refl _) hi
  have hi0 : HT.sIx z.length 0 lo ≤ z.length := HT.sIx_le _ _ (Nat.zero_le _) lo
  have hz : z.length = z.cps.toList.length := by simp [Str.length]
  unfold Txt.slice cutS
  rw [str_indices]
  by_cases h : ((1 : Int) == 1 && ((List.range (HT.sIx z.length z.length hi - HT.sIx z.length 0 lo)).map (HT.sIx z.length 0 lo + ·)).length == z.length) = true
  · rw [if_pos h]
    rw [Bool.and_eq_true] at h
    have h := eq_of_beq h.2
    rw [List.length_map, List.length_range] at h
    have h0 : HT.sIx z.length 0 lo = 0 := by omega
    rw [h, h0, List.drop_zero, hz, List.take_length]
    unfold tx
    simp
  · rw [if_neg h, pick_run]
    rfl
def rSlS : V → Option Int → Option Int → Hp → VK → Prop := fun x lo hi H Q => ∃ z, x = .str z ∧ z.length ≤ sizeLine ∧ Q (.str (cutS z lo hi)) H
theorem part_of {v : Value} {o : Option Int} (p : IsPart v o) : ∃ q : Option (Int × Tok), v = partValue q ∧ q.map (·.1) = o := by
  cases p with
  | none => exact ⟨none, rfl, rfl⟩
  | int i t => exact ⟨some (i, t), rfl, rfl⟩
theorem sl_str : SlR X rSlS := by
  intro pins s σ H x v vl vu lo hi sl Q I rx hs pl pu h
  obtain ⟨z, rfl, hz, q⟩ := h
  obtain ⟨t, rfl⟩ := rx
  refine ⟨"str", _, F.slot_str_getitem.lookup, typeIs_str _ _ _, ?_⟩
  obtain ⟨l, rfl, el⟩ := part_of pl
  obtain ⟨u, rfl, eu⟩ := part_of pu
  refine wpAny_getItem_str_slice (l := l) (u := u) (st := none) hs rfl ?_
  have e : sliceMade z t l u none = if ((1 : Int) == 1 && (Builtin.Str.strSliceIndices lo hi 1 z.length).length == z.length) = true then .val (.str z t) else .str ⟨((Builtin.Str.strSliceIndices lo hi 1 z.length).filterMap (z.cps[·]?)).toArray⟩ := by
    rw [← el, ← eu]
    rfl
  rw [e]
  refine post_val_or_str ⟨Nat.le_trans (Txt.slice_le z lo hi) hz, fun t' c => ⟨.str (cutS z lo hi), H, I.tok _, ⟨t', ?_⟩, q⟩⟩
  rw [← slice_cut]
  rfl
def rCatL (K : PySem.W.Frag) : R2 := fun x y H Q => ∃ l b xs zs, x = .ref l ∧ y = .ref b ∧ SqL K H l xs ∧ SqL K H b zs ∧ xs.length + zs.length ≤ sizeLine ∧ ∀ p, H p = none → Q (.ref p) (upd H p (.lst (xs ++ zs)))
theorem op_catL : OpR X (binaryOp .Add) (rCatL X.K) := by
  intro pins s σ H x y v u Q I rx ry h
  obtain ⟨l, b, xs, zs, rfl, rfl, hH, hB, hz, q⟩ := h
  cases rx
  cases ry
  obtain ⟨its, r, pl, hl⟩ := I.list hH
  obtain ⟨its2, r2, pl2, hl2⟩ := I.list hB
  have e1 := r.length
  have e2 := r2.length
  obtain ⟨o, n, g1, c1, d1, da1⟩ := pl
  obtain ⟨o2, n2, g2, c2, d2, da2⟩ := pl2
  obtain ⟨oc, od, oda, osl⟩ := o
  obtain ⟨pc, pd, pda, psl⟩ := o2
  dsimp only at c1 d1 da1 c2 d2 da2
  subst c1 d1 da1 c2 d2 da2
  refine concat_meets ⟨_, g1, rfl⟩ ⟨_, g2, rfl⟩ noFill_list_add seq_list_add PySem.F.slot_list_add PySem.F.entry_list_add (PySem.F.args_list_add_2 _ _) (list_addW l b its.toArray its2.toArray n n2 none none osl psl (by rw [List.size_toArray, List.size_toArray]; omega)) ⟨g1, g2, ?_⟩
  have ea : its.toArray ++ its2.toArray = (its ++ its2).toArray := by simp
  rw [ea]
  exact ⟨.ref _, _, I.lnew (t' := s.toks) (r.append r2) (by rw [List.length_append]; omega), rfl, q _ I.fresh⟩
theorem eqL_min : ∀ (xs ys : List V), ((List.range (min xs.length ys.length)).all (fun i => (match xs[i]?, ys[i]? with | some x, some y => eqV x y | _, _ => true)) && xs.length == ys.length) = eqL xs ys := by
  intro xs ys
  by_cases h : xs.length = ys.length
  · rw [eqL_all h, h, Nat.min_self, beq_self_eq_true, Bool.and_true] <;> rfl
  · rw [eqL_len h, beq_eq_false_iff_ne.mpr h, Bool.and_false]
def rEqT (K : PySem.W.Frag) : R2 := fun x y H Q => ∃ p q xs ys, x = .ref p ∧ y = .ref q ∧ SqT K H p xs ∧ SqT K H q ys ∧ xs.all flatV = true ∧ ys.all flatV = true ∧ Q (.bl (eqL xs ys)) H
def rInT (K : PySem.W.Frag) : R2 := fun x y H Q => ∃ p q xs, ∃ ts : List (Addr × List V), x = .ref p ∧ y = .ref q ∧ SqT K H p xs ∧ SqL K H q (ts.map fun t => V.ref t.1) ∧ (∀ t ∈ ts, SqT K H t.1 t.2 ∧ t.2.all flatV = true) ∧ xs.all flatV = true ∧ Q (.bl (ts.any fun t => eqL t.2 xs)) H
end
end L2
set_option Elab.async false
set_option linter.all false
set_option maxRecDepth 100000
set_option maxHeartbeats 4000000
namespace L2
open PySem PySem.Spec PyProof.Rows
theorem boot_ValueError : bootBuiltins "ValueError" = some (.type "ValueError") := by decide +kernel
theorem PS.nox {X : Cx} {st : Stmt} {t : TS} (h : PS X.nox st t) : PS X st t := fun pins s σ H D I hw =>
  wpAny_mono (h pins s σ H D (I.wish _) hw) (fun _ _ q => q.unwish) fun _ _ z => False.elim z
def exClsB (K : PySem.W.Frag) (D : Addr) : Bool := (PySem.W.clsIn K D).isSome && PySem.W.findIn K (.ref D) "__getattribute__" == some (some (.builtin "BaseException.__getattribute__")) && PySem.W.findIn K (.ref D) "__getattr__" == some none &&
  PySem.W.findIn K (.ref D) "__class__" == some (some (.builtin "object.__class__")) && PySem.W.specialIn K (.builtin "object.__class__") "__get__" == some (some (.builtin "getset_descriptor.__get__")) && PySem.W.takesIn K (.builtin "object.__class__") == some true &&
  PySem.W.mroIn K D (.type "object") == some true && PySem.W.mroIn K D (.type "BaseException") == some true
theorem exCls_of {K : PySem.W.Frag} {D : Addr} (h : exClsB K D = true) : ExCls K D := by
  unfold exClsB at h
  rw [Bool.and_eq_true, Bool.and_eq_true, Bool.and_eq_true, Bool.and_eq_true, Bool.and_eq_true, Bool.and_eq_true, Bool.and_eq_true] at h
  obtain ⟨⟨⟨⟨⟨⟨⟨h1, h2⟩, h3⟩, h4⟩, h5⟩, h6⟩, h7⟩, h8⟩ := h
  exact ⟨h1, beq_iff_eq.mp h2, beq_iff_eq.mp h3, beq_iff_eq.mp h4, beq_iff_eq.mp h5, beq_iff_eq.mp h6, beq_iff_eq.mp h7, beq_iff_eq.mp h8⟩
theorem Fun.okX {P : Program} {w : World} {K : PySem.W.Frag} {mg : Str → Option Value} {base : Heap} {x qual : Str} {st : Stmt} {f : Addr} {fd : FuncData} {N ps : List Str} {k : Nat} {sp : Sp} (F : Fun K x qual st f fd) (S : FnScope N ps (defScope st)) (len : ∀ vs H Q E, sp vs H Q E → vs.length = ps.length)
    (hbody : ∀ (cdv : Value) (A : Around) (outer : List Env) (s : Shared) (H : Hp) (vs : List V) (Q : VK) (E : XK), Room k (A.deeper (envOfC qual (defScope st) s.heap.objs.size f cdv)) → sp vs H Q E →
      ∃ t, PSs (cxOf (CXf P w) P w K mg base N qual (defScope st) f cdv A outer s H E) (defBody st) t ∧ t { nx := fun _ H' => Q .non H', rt := Q } (start N vs) H) : FnOk P w K mg base (CXf P w) (k + 1) f fd ps sp := by
  obtain ⟨oc, od, kV, doc, pm, an, cdv, ct, osl, rfl, lk, hcd⟩ := F.ex
  exact fn_of lk hcd S len fun A outer s H vs Q E hr hsp => hbody cdv A outer s H vs Q E hr hsp
end L2
set_option Elab.async false
set_option linter.all false
set_option maxRecDepth 100000
set_option maxHeartbeats 4000000
namespace UT
open PySem PySem.Spec PyProof.Rows L2 UM
def cd (b : Bool) : Nat := if b then 117 else 100
def rt (R : List Bool) : Str := tx (R.map cd)
theorem rt_length (R : List Bool) : (rt R).length = R.length := by rw [rt, tx_length, List.length_map]
theorem sgs_rt (R : List Bool) : sgs (rt R) = R.map fun b => sg (cd b) := by rw [rt, sgs_tx, List.map_map]; rfl
theorem count_rt (R : List Bool) : (R.map cd).count 117 + (R.map cd).count 100 = R.length := by
  induction R with
  | nil => rfl
  | cons b r ih => cases b <;> simp [cd, List.count_cons] <;> omega
theorem sg_u (b : Bool) : decide (sg (cd b) = V.str "u") = b := by cases b <;> decide +kernel
theorem hts_split {R : List Bool} {pre : List Int} {h : Int} {r : List Bool} (hR : R.length ≤ 16000000) (hh : hts 0 R = pre ++ hts h r) : pre.length + r.length ≤ 16000000 := by
  have e := congrArg List.length hh
  rw [List.length_append, hts_length, hts_length] at e
  omega
theorem cut_rt_to (R : List Bool) (m : Nat) : cutS (rt R) none (some (m : Int)) = rt (R.take m) := by
  unfold cutS
  rw [HT.sIx_none, HT.sIx_nat, rt_length, List.drop_zero, Nat.sub_zero]
  unfold rt
  rw [List.map_take]
  show tx ((R.map cd).toArray.toList.take (min m R.length)) = _
  rw [List.toList_toArray]
  congr 1
  rcases Nat.le_total m R.length with h | h
  · rw [Nat.min_eq_left h]
  · rw [Nat.min_eq_right h, List.take_of_length_le (by simp), List.take_of_length_le (by simpa using h)]
theorem cut_rt_from (R : List Bool) (m : Nat) : cutS (rt R) (some (m : Int)) none = rt (R.drop m) := by
  unfold cutS
  rw [HT.sIx_none, HT.sIx_nat, rt_length]
  unfold rt
  rw [List.map_drop]
  show tx (((R.map cd).toArray.toList.drop (min m R.length)).take (R.length - min m R.length)) = _
  rw [List.toList_toArray]
  congr 1
  rcases Nat.le_total m R.length with h | h
  · rw [Nat.min_eq_left h, List.take_of_length_le (by simp)]
  · rw [Nat.min_eq_right h, Nat.sub_self, List.take_zero, List.drop_eq_nil_of_le (by simpa using h)]
def lc (b : Bool) : Nat := if b then 102 else 98
def mvS (m : Mv) : Str := tx [lc m.1, lc m.2]
def mvV (m : Mv) : V := .str (mvS m)
theorem mvS_inj {a b : Mv} : mvS a = mvS b ↔ a = b := by
  constructor
  · intro h
    obtain ⟨a1, a2⟩ := a
    obtain ⟨b1, b2⟩ := b
    cases a1 <;> cases a2 <;> cases b1 <;> cases b2 <;> first | rfl | (exact absurd h (by decide +kernel))
  · rintro rfl; rfl
theorem all4_mv : all4.map mvV = [.str "ff", .str "fb", .str "bf", .str "bb"] := by decide +kernel
theorem mv_0 (m : Mv) : (mvS m).cps.toList[0]? = some (lc m.1) := rfl
theorem mv_1 (m : Mv) : (mvS m).cps.toList[1]? = some (lc m.2) := rfl
theorem plc_at {xs : List Int} {i : Int} {x : Int} (h : plc xs i = some x) : atI (xs.map V.int) i = some (.int x) ∧ 0 ≤ i ∧ i < xs.length := by
  unfold plc at h
  by_cases q : 0 ≤ i
  · rw [if_pos q] at h
    obtain ⟨h1, h2⟩ := List.getElem?_eq_some_iff.mp h
    obtain ⟨n, rfl⟩ := Int.eq_ofNat_of_zero_le q
    refine ⟨atI_nat (j := n) ?_, q, by omega⟩
    rw [List.getElem?_map]
    have h : xs[n]? = some x := h
    rw [h]
    rfl
  · rw [if_neg q] at h
    cases h
end UT
namespace UT
open PySem L2 UM
theorem mvV_inj {a b : Mv} (h : mvV a = mvV b) : a = b := mvS_inj.mp (V.str.inj h)
theorem mem_mv {m : Mv} {l : List Mv} : mvV m ∈ l.map mvV ↔ m ∈ l := by
  constructor
  · intro h
    obtain ⟨n, hn, e⟩ := List.mem_map.mp h
    rw [← mvV_inj e]
    exact hn
  · exact fun h => List.mem_map.mpr ⟨m, h, rfl⟩
theorem filter_mv (p : Mv → Bool) : (all4.map mvV).filter (fun v => decide (v ∈ (all4.filter p).map mvV)) = (all4.filter p).map mvV := by
  have f : ∀ l : List Mv, (∀ m ∈ l, m ∈ all4) → (l.map mvV).filter (fun v => decide (v ∈ (all4.filter p).map mvV)) = (l.filter p).map mvV := by
    intro l
    induction l with
    | nil => intro _; rfl
    | cons m l ih =>
      intro h
      have hm := h m List.mem_cons_self
      rw [List.map_cons, List.filter_cons, List.filter_cons, ih fun n hn => h n (List.mem_cons_of_mem _ hn)]
      have e : decide (mvV m ∈ (all4.filter p).map mvV) = p m := by
        rw [Bool.eq_iff_iff, decide_eq_true_iff, mem_mv, List.mem_filter]
        exact ⟨And.right, fun z => ⟨hm, z⟩⟩
      rw [e]
      cases p m <;> rfl
  exact f all4 fun _ h => h
end UT
namespace UT
open PySem L2 UM
theorem rd_place {K : PySem.W.Frag} {σ : St} {H : Hp} {Q : Bool → Hp → Prop} {n m : Nat} {i : Int} {a : Addr} {xs : List V} (hv : σ[n]? = some (some (.int i))) (ha : σ[m]? = some (some (.ref a))) (hx : SqL K H a xs) (q : Q (decide (0 ≤ i) && decide (i < (xs.length : Int))) H) :
    tTest (tChain (rI0 fun i j => .bl (decide (i ≤ j))) (rI0 fun i j => .bl (decide (i < j))) (tC (.int 0)) (tVar n) (tCB (rLen K) (tCons (tVar m) tNil))) σ H Q := by
  refine ⟨_, hv, _, _, rfl, rfl, _, rfl, ite2 (fun hc => ?_) (fun hc => ?_)⟩
  · refine ⟨_, ha, _, _, rfl, .inl ⟨_, hx, rfl⟩, _, _, rfl, rfl, _, rfl, ?_⟩
    rw [hc, Bool.true_and] at q
    exact q
  · have hc : decide (0 ≤ i) = false := by simpa using hc
    rw [hc, Bool.false_and] at q
    exact ⟨_, rfl, q⟩
theorem dcI (x y : Int) : decide (V.int x = V.int y) = decide (x = y) := by
  by_cases h : x = y
  · subst h; simp
  · rw [decide_eq_false h, decide_eq_false fun z => h (V.int.inj z)]
def mt (m : Mv) : List V := [mvV m, .int (stp m.1), .int (stp m.2)]
end UT
namespace UT
open PySem L2 UM
theorem eqL_ii (a b c d : Int) : eqL [.int a, .int b] [.int c, .int d] = (decide (a = c) && decide (b = d)) := by
  show ((a == c) && ((b == d) && true)) = _
  rw [Bool.and_true]
  congr 1 <;> rw [Bool.eq_iff_iff, decide_eq_true_iff, beq_iff_eq]
end UT
namespace UT
open PySem L2 UM
end UT
set_option Elab.async false
set_option linter.all false
set_option maxRecDepth 100000
set_option maxHeartbeats 4000000
namespace L2
open PySem PySem.Spec PyProof.Rows
section
variable {X : Cx}
def rIxGI (P : Program) (w : World) (K : PySem.W.Frag) : R2 := fun x y H Q => ∃ a D k n, x = .ref a ∧ y = .str k ∧ GTab P w K a D ∧ PySem.Spec.lookup (.str k) (D.map fun p => (PyData.str p.1, p.2)) = some (.int n) ∧ Q (.int n) H
theorem ix_gtabI : IxR X (rIxGI X.prog X.w X.K) := by
  intro value slice pins s σ H x y v u Q I rx ry h hs
  obtain ⟨a, D, k, n, rfl, rfl, hT, hl, q⟩ := h
  cases rx
  obtain ⟨t, rfl⟩ := ry
  obtain ⟨lo, kvs, hd, hf⟩ := hT _ I.kIn
  obtain ⟨v, hv, hfl⟩ := hf.of_lookup PyProof.V.same_str hl
  obtain ⟨tv, rfl⟩ := hfl.int_inv
  exact tail_any hd.typeIs F.slot_dict_getitem.lookup (wpAny_getItem_of (strKind_is X.prog X.w k t) hd.mapOf hv ⟨.int n, H, I.tok _, ⟨_, rfl⟩, q⟩) hs
def rMinL (K : PySem.W.Frag) : List V → Hp → VK → Prop := fun xs H Q => ∃ p, ∃ ns : List Int, xs = [.ref p] ∧ SqL K H p (ns.map V.int) ∧ ns ≠ [] ∧ ∀ m, m ∈ ns → (∀ x ∈ ns, m ≤ x) → Q (.int m) H
def rMaxL (K : PySem.W.Frag) : List V → Hp → VK → Prop := fun xs H Q => ∃ p, ∃ ns : List Int, xs = [.ref p] ∧ SqL K H p (ns.map V.int) ∧ ns ≠ [] ∧ ∀ m, m ∈ ns → (∀ x ∈ ns, x ≤ m) → Q (.int m) H
theorem num_at (ps : List (Int × Tok)) {i : Nat} (h : i < ps.length) : numAt ps.toArray i = (ps[i]).1 := by simp [numAt, h]
theorem call_minL (hc : X.calm = true) : CallR X (.builtin "min") (rMinL X.K) := by
  intro pins s σ H xs us Q I r h
  obtain ⟨p, ns, rfl, hq, hne, q⟩ := h
  obtain ⟨u, rfl, ru⟩ := vals1 r
  cases ru
  obtain ⟨its, rv, pl, hz⟩ := I.list hq
  obtain ⟨ps, e1, e2⟩ := ints_items rv
  have hl : s.heap.IsList p (intItems ps.toArray) := by
    have e : intItems ps.toArray = its.toArray := by rw [e1]; simp [intItems]
    rw [e]
    exact pl.isList
  have hp : 0 < ps.length := by
    cases ps with
    | nil => exact absurd e2.symm hne
    | cons _ _ => simp
  refine min_intList (I.ok.hd hc) hl (by simpa using hp) fun v h' tk hv k => ?_
  obtain ⟨t, rfl⟩ := intItems_at hv
  obtain ⟨b1, b2⟩ := argBest_lt (numAt ps.toArray) (ps.toArray.size - 1)
  have hi : argBest (fun i j => decide (numAt ps.toArray i < numAt ps.toArray j)) (ps.toArray.size - 1) < ps.length := by
    have : ps.toArray.size = ps.length := by simp
    omega
  refine ⟨.int _, H, I.kept (t' := tk) k, ⟨t, rfl⟩, q _ ?_ fun x hx => ?_⟩
  · rw [num_at ps hi, ← e2]
    exact List.mem_map.mpr ⟨_, List.getElem_mem hi, rfl⟩
  · rw [← e2] at hx
    obtain ⟨y, hy, rfl⟩ := List.mem_map.mp hx
    obtain ⟨j, hj, rfl⟩ := List.mem_iff_getElem.mp hy
    rw [← num_at ps hj]
    exact b2 j (by simp; omega)
theorem call_maxL (hc : X.calm = true) : CallR X (.builtin "max") (rMaxL X.K) := by
  intro pins s σ H xs us Q I r h
  obtain ⟨p, ns, rfl, hq, hne, q⟩ := h
  obtain ⟨u, rfl, ru⟩ := vals1 r
  cases ru
  obtain ⟨its, rv, pl, hz⟩ := I.list hq
  obtain ⟨ps, e1, e2⟩ := ints_items rv
  have hl : s.heap.IsList p (intItems ps.toArray) := by
    have e : intItems ps.toArray = its.toArray := by rw [e1]; simp [intItems]
    rw [e]
    exact pl.isList
  have hp : 0 < ps.length := by
    cases ps with
    | nil => exact absurd e2.symm hne
    | cons _ _ => simp
  refine max_intList (I.ok.hd hc) hl (by simpa using hp) fun v h' tk hv k => ?_
  obtain ⟨t, rfl⟩ := intItems_at hv
  obtain ⟨b1, b2⟩ := argBest_gt (numAt ps.toArray) (ps.toArray.size - 1)
  have hi : argBest (fun i j => decide (numAt ps.toArray i > numAt ps.toArray j)) (ps.toArray.size - 1) < ps.length := by
    have : ps.toArray.size = ps.length := by simp
    omega
  refine ⟨.int _, H, I.kept (t' := tk) k, ⟨t, rfl⟩, q _ ?_ fun x hx => ?_⟩
  · rw [num_at ps hi, ← e2]
    exact List.mem_map.mpr ⟨_, List.getElem_mem hi, rfl⟩
  · rw [← e2] at hx
    obtain ⟨y, hy, rfl⟩ := List.mem_map.mp hx
    obtain ⟨j, hj, rfl⟩ := List.mem_iff_getElem.mp hy
    rw [← num_at ps hj]
    exact b2 j (by simp; omega)
def rNeT (K : PySem.W.Frag) : R2 := fun x y H Q => ∃ p q xs ys, x = .ref p ∧ y = .ref q ∧ SqT K H p xs ∧ SqT K H q ys ∧ xs.all flatV = true ∧ ys.all flatV = true ∧ Q (.bl (!eqL xs ys)) H
theorem op_neT (hu : X.A.units < cLine) : OpR X (compareOp .NotEq) (rNeT X.K) := by
  intro pins s σ H x y v u Q I rx ry h
  obtain ⟨p, q, xs, ys, rfl, rfl, hx, hy, fx, fy, k⟩ := h
  cases rx
  cases ry
  obtain ⟨us, r, pl, _⟩ := I.tuple hx
  obtain ⟨ws, r', pl', _⟩ := I.tuple hy
  have e1 := r.length
  have e2 := r'.length
  have z := SeqAt.RcNeAt.tuples (A := X.A) pl pl' hu (eqAt_items r r' fx fy)
  rw [List.size_toArray, List.size_toArray, ← e1, ← e2] at z
  refine z X.prog X.w X.xe _ ⟨.bl (!eqL xs ys), H, I, ?_, k⟩
  show Value.bool _ = Value.bool _
  rw [← eqL_min] <;> rfl
def tDispT (tk tv : TE) : TE := fun σ H Q => ∀ p, H p = none → tk σ (upd H p (.dT [])) fun x H1 => tv σ H1 fun y H2 => ∃ b k, x = .ref b ∧ H2 b = some (.tup (List.map kV k)) ∧ H2 p = some (.dT []) ∧ Q (.ref p) (upd H2 p (.dT [(k, y)]))
theorem pe_dispT {k v : Expr} {tk tv : TE} {pos : Pos} (hu : X.A.units + 1 < cLine) (hk : PE X k tk) (hv : PE X v tv) : PE X (.Dict [some k] [v] pos) (tDispT tk tv) := by
  intro pins s σ H Q I q
  have hn := I.hok.fresh (Nat.le_refl s.heap.objs.size)
  have I1 := I.laid (a := s.heap.objs.size) (o := .dT []) (h' := s.heap.push { cls := .type "dict", data := .dict #[] }) (t' := s.toks) (fun _ _ q => Heap.get?_push_of_some _ q) (Nat.le_refl _) (dt_empty s.heap I.big)
  have hp : PPs X pos [some k] [v] [(tk, tv)] := pps_cons hk hv pps_nil
  let R : List (V × V) → Hp → Prop := fun ps H2 => match ps with
    | [(x, y)] => ∃ b kk, x = V.ref b ∧ H2 b = some (.tup (List.map kV kk)) ∧ H2 s.heap.objs.size = some (.dT []) ∧ Q (.ref s.heap.objs.size) (upd H2 s.heap.objs.size (.dT [(kk, y)]))
    | _ => False
  refine wpAny_Dict_any rfl rfl (by simp) (by show 1 ≤ 15; decide) (thn (hp pins _ σ _ R I1 (q _ hn)) fun ws s2 ⟨ps, H2, I2, rel, hR⟩ => ?_)
  obtain ⟨x, y, e⟩ : ∃ x y, ps = [(x, y)] := match ps, hR with
    | [], h => h.elim
    | [(x, y)], _ => ⟨x, y, rfl⟩
    | _ :: _ :: _, h => h.elim
  subst e
  obtain ⟨b, kk, ex, eb, ed, q2⟩ := hR
  · subst ex
    cases rel with
    | @cons _ w1 _ _ h t =>
      cases t
      obtain ⟨u1, u2⟩ := w1
      obtain ⟨r1, r2⟩ := h
      cases (show u1 = Value.ref b from r1)
      obtain ⟨z, hd, xs, rel2, dd⟩ := dt_of I2.hok ed
      cases rel2
      unfold storeAll
      rw [List.forIn_cons]
      refine wpAny_bind (wpAny_bind (wpAny_dictSet_heap (hsz := Nat.zero_le _) (knd := tupleKind (mixKind X.prog X.w)) (show X.A.units < cLine by omega) (key_of I2.hok eb) dd fun h' dd' hs => wpAny_pure ?_))
      dsimp only
      rw [List.forIn_nil]
      refine wpAny_pure ⟨.ref s.heap.objs.size, _, ?_, rfl, q2⟩
      obtain ⟨o, es, ep, hq, h2, h3, h4, _, h5⟩ := dd'
      refine d_write I2 (by rw [ed]; exact True.intro) hs ⟨o, hq⟩ ⟨by show 1 ≤ sizeLine; decide, hd, _, .cons ⟨rfl, ?_, r2⟩ .nil, o, es, ep, hq, h2, h3, h4, h5⟩
      rw [upd_ne (ne_of eb ed (fun z => nomatch z))]
      exact eb
structure InsTy (K : PySem.W.Frag) (C : Addr) : Prop where
  ha : PySem.W.findIn K (.ref C) "__class__" = some (some (.builtin "object.__class__"))
  hn : PySem.W.specialIn K (.builtin "object.__class__") "__get__" = some (some (.builtin "getset_descriptor.__get__"))
  ht : PySem.W.takesIn K (.builtin "object.__class__") = some true
  hm : PySem.W.mroIn K C (.type "object") = some true
def rIsC (K : PySem.W.Frag) : List V → Hp → VK → Prop := fun xs H Q => ∃ x C t b, xs = [x, .ref C] ∧ TyOf K H x t ∧ PySem.W.kitOne K t (.ref C) = some b ∧ Q (.bl b) H
end
end L2
namespace UT
open PySem L2 UM
def pkey (p : Pr) : List Key := [Sum.inl p.1, Sum.inl p.2]
def pt2 (p : Pr) : List V := [.int p.1, .int p.2]
theorem pkey_inj {p q : Pr} (h : pkey p = pkey q) : p = q := by
  obtain ⟨a, b⟩ := p
  obtain ⟨c, d⟩ := q
  simp [pkey] at h
  rw [h.1, h.2]
def mo : Option Mv → V
  | none => .non
  | some m => mvV m
def kvD (D : Dc) : List (List Key × V) := D.map fun e => (pkey e.1, mo e.2)
theorem kvD_len (D : Dc) : (kvD D).length = D.length := List.length_map _
theorem val_kvD (D : Dc) (p : Pr) : valV (kvD D) (pkey p) = (dlk D p).map mo := by
  induction D with
  | nil => rfl
  | cons e D ih =>
    show valV ((pkey e.1, mo e.2) :: kvD D) (pkey p) = _
    by_cases h : e.1 = p
    · have e1 : dlk (e :: D) p = some e.2 := by
        unfold dlk
        rw [List.find?_cons, decide_eq_true h]
        rfl
      rw [valV_pos (by show pkey e.1 = pkey p; rw [h]), e1]
      rfl
    · have e1 : dlk (e :: D) p = dlk D p := by
        unfold dlk
        rw [List.find?_cons, decide_eq_false h]
      rw [valV_neg (fun z => h (pkey_inj z)), e1]
      exact ih
theorem put_kvD {D : Dc} {p : Pr} (o : Option Mv) (h : p ∉ ks D) : putK (kvD D) (pkey p) (mo o) = kvD (D ++ [(p, o)]) := by
  have e : valV (kvD D) (pkey p) = none := by rw [val_kvD, dlk_none.mpr h]; rfl
  rw [putK_new _ e]
  unfold kvD
  rw [List.map_append]
  rfl
theorem get_kvD {D : Dc} {p : Pr} : (valV (kvD D) (pkey p)).isSome = decide (p ∈ ks D) := by
  rw [val_kvD, Option.isSome_map]
  cases e : dlk D p with
  | none => rw [decide_eq_false (dlk_none.mp e)]; rfl
  | some a =>
    rw [decide_eq_true]
    · rfl
    · apply Classical.byContradiction
      intro n
      rw [dlk_none.mpr n] at e
      cases e
theorem eqL_pt (p q : Pr) : eqL (pt2 p) (pt2 q) = decide (p = q) := by
  obtain ⟨a, b⟩ := p
  obtain ⟨c, d⟩ := q
  unfold pt2
  rw [eqL_ii, Bool.eq_iff_iff, Bool.and_eq_true, decide_eq_true_iff, decide_eq_true_iff, decide_eq_true_iff, Prod.mk.injEq]
theorem step_tab (b : Bool) : PySem.Spec.lookup (.str ⟨#[lc b]⟩) (([("f", .int 1), ("b", .int (-1))] : List (Str × PyData)).map fun p => (PyData.str p.1, p.2)) = some (.int (stp b)) := by cases b <;> rfl
theorem back_tab (m : Mv) : PySem.Spec.lookup (.str (mvS m)) (([("ff", .str "bb"), ("fb", .str "bf"), ("bf", .str "fb"), ("bb", .str "ff")] : List (Str × PyData)).map fun p => (PyData.str p.1, p.2)) = some (.str (mvS (bk m))) := by
  obtain ⟨a, b⟩ := m
  cases a <;> cases b <;> rfl
end UT
set_option Elab.async false
set_option linter.all false
set_option maxRecDepth 100000
set_option maxHeartbeats 4000000
namespace L2
open PySem PySem.Spec PyProof.Rows
def Itv (K : PySem.W.Frag) (a : Addr) (n : Nat) : It :=
  ⟨fun i H => i < n ∧ ∃ xs, SqL K H a xs ∧ xs.length = n, fun i H x H' => H' = H ∧ ∀ xs, SqL K H a xs → xs[n - 1 - i]? = some x, fun i H => i = n⟩
section
variable {X : Cx} {tg : Expr}
def iRev (K : PySem.W.Frag) (ta : TA) : TI := fun σ H R => ta σ H fun vs H1 => ∃ a xs, vs = [.ref a] ∧ SqL K H1 a xs ∧ R (Itv K a xs.length) H1
def rIndex (K : PySem.W.Frag) : V → List V → Hp → VK → Prop := fun x vs H Q => ∃ l, ∃ ns : List Int, ∃ v : Int, ∃ j : Nat, x = .ref l ∧ vs = [.int v] ∧ SqL K H l (ns.map V.int) ∧ ns[j]? = some v ∧ (∀ i, i < j → ns[i]? ≠ some v) ∧ Q (.int j) H
theorem mt_index : MtR X "list.index" (rIndex X.K) := by
  intro pins s σ H x vs v us Q I rx rv h
  obtain ⟨l, ns, k, j, rfl, rfl, hq, hj, hno, q⟩ := h
  cases (show v = Value.ref l from rx)
  obtain ⟨u, rfl, t, rfl⟩ := vals1 rv
  obtain ⟨its, r, pl, hz⟩ := I.list hq
  obtain ⟨ps, e1, e2⟩ := ints_items r
  obtain ⟨hj1, hj2⟩ := List.getElem?_eq_some_iff.mp hj
  have hlen : its.length = ns.length := by rw [e1, List.length_map, ← e2, List.length_map]
  obtain ⟨o, ho, hc, n, hd⟩ := pl.isList
  obtain ⟨cls, dd, data, sl⟩ := o
  simp only at hc hd
  subst hc hd
  have item : ∀ i (hi : i < its.toArray.size), ∃ t', its.toArray[i] = Value.int (ns[i]'(by simpa [hlen] using hi)) t' := by
    intro i hi
    have hi' : i < ps.length := by rw [e1] at hi; simpa using hi
    refine ⟨(ps[i]).2, ?_⟩
    have : ns[i]'(by rw [← e2, List.length_map]; exact hi') = (ps[i]).1 := by simp [← e2]
    rw [this]
    simp [e1]
  rw [List.length_map] at hz
  have hz' : ns.length ≤ 16777216 := by rw [sizeLine_eq] at hz; exact hz
  refine call_meets PySem.F.slot_list_index ⟨_, ho, rfl⟩ PySem.F.entry_list_index (PySem.F.args_list_index_2 _ _)
    (SeqAt.list_indexAt l its.toArray n dd sl (.int k t) (fun y => match y with | .int i _ => i == k | _ => false) j (by simpa [hlen] using hj1) (by omega) ?_ ?_) ⟨ho, ?_, ⟨.int j, H, I.tok _, ⟨_, rfl⟩, q⟩⟩
  · obtain ⟨t', e⟩ := item j (by simpa [hlen] using hj1)
    rw [e]
    show (_ == k) = true
    rw [hj2]
    exact beq_self_eq_true k
  · intro i hi hlt
    obtain ⟨t', e⟩ := item i hi
    rw [e]
    show (_ == k) = false
    refine beq_eq_false_iff_ne.mpr fun z => hno i hlt ?_
    rw [List.getElem?_eq_getElem (by simpa [hlen] using hi), z]
  · intro y hy
    obtain ⟨i, hi, rfl⟩ := Array.mem_iff_getElem.mp hy
    obtain ⟨t', e⟩ := item i hi
    rw [e]
    exact SeqAt.EqAt.int_int _ _ _ _
end
end L2
set_option Elab.async false
set_option linter.all false
set_option maxRecDepth 100000
set_option maxHeartbeats 4000000
namespace L2
open PySem PySem.Spec PyProof.Rows
section
variable {X : Cx} {pins : List (Addr × Obj)} {σ : St} {H : Hp} {s : Shared} {h' : Heap}
end
def Itz (K : PySem.W.Frag) (a b : Addr) : It :=
  ⟨fun i H => ∃ xs ys, SqL K H a xs ∧ SqL K H b ys ∧ i < min xs.length ys.length,
   fun i H x H' => ∃ T, x = .ref T ∧ H T = none ∧ ∀ xs ys, SqL K H a xs → SqL K H b ys → ∃ u v, xs[i]? = some u ∧ ys[i]? = some v ∧ H' = upd H T (.tup [u, v]),
   fun i H => ∃ xs ys, SqL K H a xs ∧ SqL K H b ys ∧ i = min xs.length ys.length⟩
section
variable {X : Cx}
def iZip (K : PySem.W.Frag) (ta : TA) : TI := fun σ H R => ta σ H fun vs H1 => ∃ a b xs ys, vs = [.ref a, .ref b] ∧ SqL K H1 a xs ∧ SqL K H1 b ys ∧ R (Itz K a b) H1
end
section
variable {X : Cx} {e lo st : Expr} {te tl ts : TE} {p3 pos : Pos}
def stepN (n lo k : Int) : Nat := ((n - lo + k - 1) / k).toNat
def tStep (K : PySem.W.Frag) (te tl ts : TE) : TE := fun σ H Q => te σ H fun x H1 => tl σ H1 fun l H2 => ts σ H2 fun k H3 => ∃ a, ∃ ns : List Int, ∃ lo k' : Int, x = .ref a ∧ l = .int lo ∧ k = .int k' ∧ SqL K H3 a (ns.map V.int) ∧ 0 ≤ lo ∧ 1 ≤ k' ∧
  ∀ p, ∀ ms : List Int, H3 p = none → ms.length ≤ stepN ns.length lo k' → Q (.ref p) (upd H3 p (.lst (ms.map V.int)))
end
end L2
set_option Elab.async false
set_option linter.all false
set_option maxRecDepth 100000
set_option maxHeartbeats 4000000
namespace L2
open PySem PySem.Spec PyProof.Rows
section
variable {prog : Program} {w : World} {A : Around} {E : Value → Shared → Prop} {s : Shared} {d it : Addr} {o : Obj} {es : Array DictEntry} {ep : Nat}
def RawD (h : Heap) (d : Addr) (es : Array DictEntry) (ep : Nat) : Prop := ∃ o, h.get? d = some o ∧ o.ExactDict ∧ o.data = .dict es ep
theorem RawD.ty (r : RawD s.heap d es ep) : s.TypeIs (.ref d) "dict" := let ⟨o, h1, h2, _⟩ := r; ⟨o, h1, h2.1⟩
theorem RawD.at {h h' : Heap} (r : RawD h d es ep) (k : ∀ o, h.get? d = some o → h'.get? d = some o) : RawD h' d es ep := let ⟨o, h1, h2⟩ := r; ⟨o, k o h1, h2⟩
theorem raw_iter {Q : Value → Shared → Prop} (lo : (d == sysModules) = false) (r : RawD s.heap d es ep)
    (k : Q (.ref s.heap.objs.size) { s with heap := s.heap.push { cls := .type "dict_keyiterator", data := .fields #[.ref d, .int 0 0, .int es.size 0, .int ep 0] } }) : wpAny (model prog w) A (pyIter (.ref d)) Q E s := by
  have ty := r.ty
  obtain ⟨o, h1, h2, h3⟩ := r
  refine wpAny_pyIter_slot ty F.slot_dict_iter (wpAny_call_entry F.slot_dict_iter ty F.entry_dict_iter (wpAny_bind ?_) (F.args_dict_iter_1 _))
  unfold Builtin.Dict.dictSlotNone; refine wpAny_bind (wpAny_notOrdered_dict ty (show wpAny _ _ (pure (Value.ref d)) _ _ s from wpAny_pure ?_))
  show wpAny _ _ (Builtin.Dict.showsAll d >>= _) _ _ s; unfold Builtin.Dict.showsAll
  rw [lo, if_neg Bool.false_ne_true]
  refine wpAny_bind (wpAny_pure (wpAny_bind (wpAny_dictEntries h1 h3 (wpAny_bind (wpAny_dictEpoch h1 h3 ?_)))))
  exact wpAny_bind (wpAny_newObj_type (wpAny_pure ⟨_, rfl, "dict_keyiterator", _, ⟨_, Heap.get?_push_size _ rfl, rfl⟩, F.slot_dict_keyiterator_next.lookup, by simpa [rawInt] using k⟩))
theorem raw_item {i : Nat} {e : DictEntry} {Q : Option Value → Shared → Prop} (t : s.heap.IsKeyIter it d i es.size ep) (r : RawD s.heap d es ep) (he : es[i]? = some e)
    (k : ∀ h', h'.IsKeyIter it d (i + 1) es.size ep → Heap.SameBut it s.heap h' → Q (some e.key) { s with heap := h' }) : wpAny (model prog w) A (pyNext (.ref it)) Q E s := by
  have ti := t.typeIs
  obtain ⟨oi, a1, a2, a3⟩ := t
  obtain ⟨o, h1, h2, h3⟩ := r
  obtain ⟨hlt, hee⟩ := Array.getElem?_eq_some_iff.mp he
  unfold pyNext; refine wpAny_bind (wpAny_attempt (wpAny_callSpecial?_slot (name := Str.ofString "__next__") ti F.slot_dict_keyiterator_next (wpAny_call_entry F.slot_dict_keyiterator_next ti F.entry_dict_keyiterator_next (wpAny_bind (wpAny_pure (wpAny_bind (wpAny_bind ?_)))) (F.args_dict_keyiterator_next_1 _))))
  first | refine wpAny_bind (wpAny_typeNameOfWhole_keyiter ti (wpAny_pure (wpAny_bind (wpAny_fieldsOf a1 a3 ?_)))) | refine wpAny_bind (wpAny_typeNameOf_keyiter ti (wpAny_pure (wpAny_bind (wpAny_fieldsOf a1 a3 ?_))))
  have own : Builtin.Dict_items.ownsTuple "dict_keyiterator" = false := by decide
  simp only [own, Bool.false_eq_true, if_false]
  show wpAny _ _ (if (Value.ref d == Value.none) = true then _ else _) _ _ _; rw [if_neg (show ¬ ((Value.ref d == Value.none) = true) by exact Bool.false_ne_true)]
  refine wpAny_bind (wpAny_pure (wpAny_bind (wpAny_dictEntries h1 h3 ?_)))
  rw [if_neg (by simp)]; refine wpAny_bind (wpAny_pure (wpAny_bind (wpAny_dictEpoch h1 h3 ?_)))
  rw [if_neg (by simp)]; refine wpAny_pure ?_
  simp only [show ¬ ((i : Int) < 0) by omega, if_false, Int.toNat_natCast, Array.getElem?_eq_getElem hlt]
  refine wpAny_bind ?_; first | refine wpAny_bind (wpAny_typeNameOfWhole_keyiter ti (wpAny_pure (wpAny_bind (wpAny_isOneOf_keyiter ti ?_)))) | refine wpAny_bind (wpAny_typeNameOf_keyiter ti (wpAny_pure (wpAny_bind (wpAny_isOneOf_keyiter ti ?_))))
  show wpAny _ _ (setField (.ref it) 1 (rawInt ((i : Int) + 1)) >>= _) _ _ _; refine wpAny_bind (wpAny_setField a1 a3 (by simp) ?_)
  have t' : (s.heap.update it (Obj.mapFields (·.setIfInBounds 1 (rawInt ((i : Int) + 1))))).IsKeyIter it d (i + 1) es.size ep :=
    ⟨_, Heap.get?_update_self _ a1 (Obj.isFreed_of_fields (Obj.data_mapFields a3 _)), (Obj.cls_mapFields ..).trans a2, by rw [Obj.data_mapFields a3]; simp [rawInt]⟩
  refine wpAny_bind (wpAny_holding (wpAny_bind (wpAny_isOneOf_keyiter (s := { s with heap := s.heap.update it (Obj.mapFields (·.setIfInBounds 1 (rawInt ((i : Int) + 1)))) }) t'.typeIs ?_)))
  show wpAny _ _ (pure es[i].key) _ _ _; rw [hee]
  exact wpAny_pure (wpAny_pure ⟨_, rfl, wpAny_pure (k _ t' (Heap.SameBut.update ..))⟩)
theorem raw_end {Q : Option Value → Shared → Prop} (hh : A.handled = none) (t : s.heap.IsKeyIter it d es.size es.size ep) (r : RawD s.heap d es ep)
    (k : ∀ h', Heap.ExtBut it s.heap h' → Q none { s with heap := h' }) : wpAny (model prog w) A (pyNext (.ref it)) Q E s := by
  have ti := t.typeIs
  obtain ⟨oi, a1, a2, a3⟩ := t
  obtain ⟨o, h1, h2, h3⟩ := r
  unfold pyNext; refine wpAny_bind (wpAny_attempt (wpAny_callSpecial?_slot (name := Str.ofString "__next__") ti F.slot_dict_keyiterator_next (wpAny_call_entry F.slot_dict_keyiterator_next ti F.entry_dict_keyiterator_next (wpAny_bind (wpAny_pure (wpAny_bind (wpAny_bind ?_)))) (F.args_dict_keyiterator_next_1 _))))
  first | refine wpAny_bind (wpAny_typeNameOfWhole_keyiter ti (wpAny_pure (wpAny_bind (wpAny_fieldsOf a1 a3 ?_)))) | refine wpAny_bind (wpAny_typeNameOf_keyiter ti (wpAny_pure (wpAny_bind (wpAny_fieldsOf a1 a3 ?_))))
  have own : Builtin.Dict_items.ownsTuple "dict_keyiterator" = false := by decide
  simp only [own, Bool.false_eq_true, if_false]
  show wpAny _ _ (if (Value.ref d == Value.none) = true then _ else _) _ _ _; rw [if_neg (show ¬ ((Value.ref d == Value.none) = true) by exact Bool.false_ne_true)]
  refine wpAny_bind (wpAny_pure (wpAny_bind (wpAny_dictEntries h1 h3 ?_)))
  rw [if_neg (by simp)]; refine wpAny_bind (wpAny_pure (wpAny_bind (wpAny_dictEpoch h1 h3 ?_)))
  rw [if_neg (by simp)]; refine wpAny_pure ?_
  simp only [show ¬ ((es.size : Int) < 0) by omega, if_false, Int.toNat_natCast, Array.getElem?_eq_none (Nat.le_refl es.size)]
  refine wpAny_bind ?_; first | refine wpAny_bind (wpAny_typeNameOfWhole_keyiter ti (wpAny_pure ?_)) | refine wpAny_bind (wpAny_typeNameOf_keyiter ti (wpAny_pure ?_))
  show wpAny _ _ (setField (.ref it) 0 .none >>= _) _ _ _; refine wpAny_bind (wpAny_setField a1 a3 (by simp) ?_)
  show wpAny _ _ (newExc (.type "StopIteration") [] >>= _) _ _ _; refine wpAny_bind ?_
  simp only [newExc, newTuple]; refine wpAny_bind (wpAny_newObj_type ?_ (by size_fits))
  refine wpAny_bind (m := firstArgMember _ _) (wpAny_of_eq (a := Value.none) (by first | rfl | (simp only [firstArgMember]; rfl)) (wpAny_newObj_type ?_ (by size_fits)))
  simp only [raiseNew]; refine wpAny_bind (wpAny_handled ?_)
  first | rw [show A.in1.handled = none by exact hh] | rw [hh]
  refine wpAny_bind (wpAny_pure (wpAny_throw ?_)); refine wpAny_bind (wpAny_isInstance (b := true) (T := "StopIteration") ⟨_, Heap.get?_push_size _ rfl, rfl⟩ isSubtype_stop ?_)
  exact wpAny_pure (k _ ((((Heap.SameBut.update ..).extBut).push _).push _))
end
section
variable {prog : Program} {w : World} {A : Around} {d : Addr} {es : Array DictEntry} {ep : Nat}
theorem walks_raw (hh : A.handled = none) (I d : Addr) (hne : d ≠ I) (es : Array DictEntry) (ep : Nat) :
    Walks prog w A I [I, d] [I] es.size (fun i v => ∃ e, es[i]? = some e ∧ v = e.key) (fun i h => h.IsKeyIter I d i es.size ep ∧ RawD h d es ep) where
  sub := fun b hb => by simp only [List.mem_singleton] at hb; rw [hb]; exact List.mem_cons_self
  frame := fun _ _ _ st hk => ⟨(let ⟨o, e, q⟩ := st.1; ⟨o, hk I (by simp) o e, q⟩), st.2.at fun o e => hk d (by simp) o e⟩
  item := fun i s Q E hi st hQ => raw_item st.1 st.2 (Array.getElem?_eq_getElem hi) fun h' t' sb => hQ _ h' s.toks ⟨_, Array.getElem?_eq_getElem hi, rfl⟩ ⟨t', st.2.at fun o e => sb.extBut d o hne e⟩ fun b o hb e => sb.extBut b o (fun z => hb (by simp [z])) e
  done := fun s Q E st hQ => raw_end hh st.1 st.2 fun h' eb => hQ h' s.toks fun b o hb e => eb b o (fun z => hb (by simp [z])) e
  self := fun _ _ _ _ st hQ => wpAny_pyIter_keyiter st.1 hQ
theorem src_raw (lo : (d == sysModules) = false) : PySem.W.KdlSrc prog w "dict" d d es.size (fun i v => ∃ e, es[i]? = some e ∧ v = e.key) (fun h => RawD h d es ep) where
  type := fun _ r => r.ty
  there := fun h r => let ⟨_, h1, _⟩ := r; ⟨Heap.lt_size h1, Heap.lt_size h1⟩
  keep := fun _ _ r hk => r.at fun o e => hk d (.inl rfl) o e
  notList := by decide
  notTuple := by decide
  hint := fun _ _ _ _ r hq => PySem.W.kdl_hint_dict r.ty hq
  iter := fun _ s hh r => ⟨_, _, (fun _ _ hq => raw_iter lo r hq), walks_raw hh _ d (let ⟨_, h1, _⟩ := r; Nat.ne_of_lt (Heap.lt_size h1)) es ep, ⟨⟨_, Heap.get?_push_size _ rfl, rfl, rfl⟩, r.at fun o e => Heap.get?_push_of_some _ e⟩⟩
end
section
variable {X : Cx}
def rListT : List V → Hp → VK → Prop := fun xs H Q => ∃ d kvs, xs = [.ref d] ∧ H d = some (.dT kvs) ∧ ∀ l, ∀ bs : List Addr, H l = none → bs.length = kvs.length → (∀ (i : Nat) (b : Addr) (kv : List Key × V), bs[i]? = some b → kvs[i]? = some kv → H b = some (.tup (kv.1.map kV))) → Q (.ref l) (upd H l (.lst (bs.map V.ref)))
theorem kt_at {H : Hp} : ∀ {kvs : List (List Key × V)} {xs : List (List Key × Addr × Value)}, KT H kvs xs → ∀ (i : Nat) (b : Addr) (kv : List Key × V), (xs.map fun x => x.2.1)[i]? = some b → kvs[i]? = some kv → H b = some (.tup (kv.1.map kV)) := by
  intro kvs xs r
  induction r with
  | nil => intro i b kv h; simp at h
  | @cons p q ps qs h t ih =>
    intro i b kv h1 h2
    cases i with
    | zero =>
      have h1 : some q.2.1 = some b := h1
      have h2 : some p = some kv := h2
      cases h1
      cases h2
      exact h.2.1
    | succ i => exact ih i b kv h1 h2
theorem call_list_dT (hc : X.calm = true) : CallR X (.type "list") rListT := by
  intro pins s σ H xs us Q I r h
  obtain ⟨d, kvs, rfl, hd, q⟩ := h
  obtain ⟨u, rfl, ru⟩ := vals1 r
  cases (show u = Value.ref d from ru)
  obtain ⟨z, lo, ys, rel, o, es, ep, h1, h2, h3, h4, h5⟩ := (show ObjOk X.prog X.w H s.heap d (.dT kvs) from I.hok d _ hd)
  have ln : ys.length = kvs.length := (Paired.length rel).symm
  have le : es.size = ys.length := by rw [← Array.length_toList, h4, List.length_map]
  refine PySem.W.kdl_call (src_raw lo) (I.ok.hd hc) ⟨o, h1, h2, h3⟩ (by rw [le, ln]; exact z) fun h' tk acc c' kp hl it => ?_
  have ea : acc.toList = (ys.map fun x => x.2.1).map Value.ref := by
    apply List.ext_getElem?
    intro i
    rw [List.getElem?_map, List.getElem?_map]
    cases e : ys[i]? with
    | none =>
      have hi := List.getElem?_eq_none_iff.mp e
      rw [List.getElem?_eq_none (by rw [Array.length_toList, it.1]; omega)]
      rfl
    | some y =>
      obtain ⟨hi, _⟩ := List.getElem?_eq_some_iff.mp e
      have hi2 : i < acc.size := by rw [it.1]; omega
      have ei : acc.toList[i]? = some acc[i] := by simp [hi2]
      obtain ⟨en, ee, ev⟩ := it.2 i _ (Array.getElem?_eq_getElem hi2)
      have e6 : es.toList[i]? = some (entryOfKey (tupleKind (mixKind X.prog X.w)) y) := by rw [h4, List.getElem?_map, e]; rfl
      have e7 : es.toList[i]? = some en := by simpa using ee
      rw [e6] at e7
      cases e7
      rw [ei, ev]
      rfl
  have rv : Vals ((ys.map fun x => x.2.1).map V.ref) acc.toList := by
    rw [ea]
    generalize (ys.map fun x => x.2.1) = bs
    induction bs with
    | nil => exact .nil
    | cons b bs ih => exact .cons rfl ih
  refine ⟨.ref s.heap.objs.size, _, I.laid (a := s.heap.objs.size) (o := .lst ((ys.map fun x => x.2.1).map V.ref)) (t' := tk) kp (Nat.le_refl _) ?_, rfl, q _ (ys.map fun x => x.2.1) (I.hok.fresh (Nat.le_refl _)) (by rw [List.length_map, ln]) (kt_at rel)⟩
  refine ⟨by rw [List.length_map, List.length_map, ln]; exact z, acc.toList, c', rv, ?_⟩
  rw [Array.toArray_toList]
  exact hl
end
end L2
set_option Elab.async false
set_option linter.all false
set_option maxRecDepth 100000
set_option maxHeartbeats 4000000
namespace L2
open PySem PySem.Spec PyProof.Rows
section
variable {X : Cx}
def rNotInT (K : PySem.W.Frag) : R2 := fun x y H Q => ∃ p q xs, ∃ ts : List (Addr × List V), x = .ref p ∧ y = .ref q ∧ SqT K H p xs ∧ SqL K H q (ts.map fun t => V.ref t.1) ∧ (∀ t ∈ ts, SqT K H t.1 t.2 ∧ t.2.all flatV = true) ∧ xs.all flatV = true ∧ Q (.bl (!ts.any fun t => eqL t.2 xs)) H
def rEqNT (K : PySem.W.Frag) : R2 := fun x y H Q => (x = .non ∧ ∃ q ys, y = .ref q ∧ SqT K H q ys ∧ Q (.bl false) H) ∨ rEqT K x y H Q
def rIsNotB : R2 := fun x y H Q => ∃ a b, x = .bl a ∧ y = .bl b ∧ Q (.bl (!(a == b))) H
def tMeth2 (C1 C2 : Addr) (m : Str) (sp1 sp2 : Sp) (ta : TE) (t : TA) : TE := fun σ H Q => ta σ H fun x H1 =>
  (∃ a dx fs, x = .ref a ∧ H1 a = some (.ins C1 dx fs) ∧ fs.lookup m = none ∧ t σ H1 fun vs H2 => sp1 (x :: (vs ++ [])) H2 Q E0) ∨ (∃ a dx fs, x = .ref a ∧ H1 a = some (.ins C2 dx fs) ∧ fs.lookup m = none ∧ t σ H1 fun vs H2 => sp2 (x :: (vs ++ [])) H2 Q E0)
end
end L2
set_option Elab.async false
set_option linter.all false
set_option maxRecDepth 100000
set_option maxHeartbeats 4000000
namespace L2
open PySem PySem.Spec PyProof.Rows
section
variable {prog : Program} {w : World} {A : Around} {E : Value → Shared → Prop} {s : Shared}
abbrev PE4 := Addr × Addr × List Key × Value
def putH (xs : List (List Key × Addr × Value)) (es : List PE4) : List (List Key × Addr × Value) := es.foldl (fun acc e => storedH acc e.2.2.1 e.2.1 e.2.2.2) xs
end
section
variable {X : Cx}
def rDictP (K : PySem.W.Frag) : List V → Hp → VK → Prop := fun xs H Q => ∃ l, ∃ ts : List (Addr × Addr × List Key × V), xs = [.ref l] ∧ H l = some (.lst (ts.map fun t => V.ref t.1)) ∧ (∀ t ∈ ts, H t.1 = some (.tup [.ref t.2.1, t.2.2.2]) ∧ H t.2.1 = some (.tup (t.2.2.1.map kV))) ∧
  ∀ d, H d = none → Q (.ref d) (upd H d (.dT (ts.foldl (fun acc t => putK acc t.2.2.1 t.2.2.2) [])))
end
end L2
set_option Elab.async false
set_option linter.all false
set_option maxRecDepth 100000
set_option maxHeartbeats 4000000
namespace L2
open PySem PySem.Spec PyProof.Rows
section
variable {X : Cx}
def rNeR (K : PySem.W.Frag) : R2 := fun x y H Q => ∃ p q, ∃ as : List Addr, x = .ref p ∧ y = .ref q ∧ SqL K H p (as.map V.ref) ∧ SqL K H q (as.map V.ref) ∧ Q (.bl false) H
end
end L2
set_option Elab.async false
set_option linter.all false
set_option maxRecDepth 100000
set_option maxHeartbeats 4000000
namespace L2
open PySem PySem.Spec PyProof.Rows
section
variable {X : Cx}
def Callee (X : Cx) (CX : CXT) (k : Nat) (f : Addr) (sp : Sp) : Prop := ∃ fd ps, FnOk X.prog X.w X.K X.mg X.base CX k f fd ps sp ∧ PySem.W.keepIn X.K (.ref f) = true ∧ Binds X.K fd ps []
def tCallD (X : Cx) (CX : CXT) (k : Nat) (E : XK) (tf : TE) (t : TA) : TE := fun σ H Q => tf σ H fun v H1 => ∃ f sp, v = .ref f ∧ Callee X CX k f sp ∧ t σ H1 fun vs H2 => sp (vs ++ []) H2 Q E
theorem pe_callD {CX : CXT} {k : Nat} {E : XK} {o i e : Expr} {es : List Expr} {p0 pos : Pos} {tf : TE} {t : TA} (hf : PE X (.Subscript o i p0) tf) (hr : Room k X.A) (hx : Passes CX X E) (ha : PA X (e :: es) t)
    (he : starEach (e :: es) X.env = (false, eval e X.env) :: starEach es X.env := by rfl) (hpl : (backTo pos (starEach es X.env)).any (·.1) = false := by rfl) : PE X (.Call (.Subscript o i p0) (e :: es) [] pos) (tCallD X CX k E tf t) := by
  intro pins s σ H Q I h
  show wpAny _ _ (eval (.Subscript o i p0) X.env >>= fun f => callWith pos f [] (backTo pos (starEach (e :: es) X.env)) (backToKw pos (keywordEach [] X.env))) _ _ s
  refine wpAny_bind (thn (hf pins s σ H _ I h) fun u s1 ⟨v, H1, I1, rv, f, sp, ev, ⟨fd, ps, F, hk, hb⟩, q⟩ => ?_)
  subst ev
  obtain rfl : u = Value.ref f := rv
  refine PySem.W.callWith_K (h₀ := X.base) I1.ok.mod.kin hk (thn (ha pos pins s1 σ H1 _ I1 q) fun us s2 ⟨vs, H2, I2, r, q2⟩ => ⟨I2.kIn, ?_⟩) he hpl
  exact run_fn F hr hb .nil hx I2 r q2
end
end L2
set_option Elab.async false
set_option linter.all false
set_option maxRecDepth 100000
set_option maxHeartbeats 4000000
namespace L2
open PySem PySem.Spec PyProof.Rows
section
variable {prog : Program} {w : World} {A : Around} {R : Result → Shared → Prop} {s : Shared}
theorem compLoop_anyX {elt target iter : Expr} {ifs : List Expr} {scope : Scope} {pos : Pos} {it acc : Value} {env : Env} (I : Nat → Shared → Prop)
    (turn : ∀ n s, I n s → wpAny (model prog w) A (pyNext it) (fun r s₁ => match r with
      | none => R (.ok .next) s₁
      | some v => wpAny (model prog w) A (letOwnedTupleGo target it v) (fun _ s₁' => wpAny (model prog w) A (assign target env v) (fun _ s₂ =>
          wpAny (model prog w) A (forIn ifs true fun c r => if r = true then do let ok ← isTrue c env (eval c env); pure (ForInStep.yield ok) else pure (ForInStep.yield r)) (fun ok s₃ =>
            if ok = true then wpAny (model prog w) A (eval elt env) (fun x s₄ =>
              wpAny (model prog w) A (call (.builtin "list.append") [acc, x]) (fun _ s₅ => ∃ m, m < n ∧ I m s₅) (fun _ _ => False) s₄) (notedBy (model prog w) A env fun x s' => R (.error x) s') s₃
            else ∃ m, m < n ∧ I m s₃) (fun _ _ => False) s₂) (fun _ _ => False) s₁') (fun _ _ => False) s₁) (fun _ _ => False) s)
    (n : Nat) (h : I n s) :
    codeAny (model prog w) A (.compLoop (.ListComp elt [⟨target, iter, ifs, 0⟩] scope pos) 0 it acc env) R s := by
  refine codeAny_loop rfl I (fun n s hI => ?_) n h
  show wpAny _ A ((compTurn (.ListComp elt [⟨target, iter, ifs, 0⟩] scope pos) 0 it acc env).onRaise (fun x => do noteFrame x env; theTreesLotGoes x)) _ _ s
  refine wpAny_noted ?_
  rw [compTurn_list]
  refine wpAny_bind (wpAny_standAt (wpAny_bind (wpAny_mono (turn n s hI) (fun r s₁ h₁ => ?_) fun _ _ h' => h'.elim)))
  cases r with
  | none => exact wpAny_pure h₁
  | some v =>
    refine wpAny_bind (wpAny_mono h₁ (fun _ s₁' h₁' => ?_) fun _ _ h' => h'.elim)
    refine wpAny_bind (wpAny_mono h₁' (fun _ s₂ h₂ => wpAny_bind (wpAny_mono h₂ (fun ok s₃ h₃ => ?_) fun _ _ h' => h'.elim)) fun _ _ h' => h'.elim)
    cases ok with
    | false => exact wpAny_pure ⟨rfl, h₃⟩
    | true =>
      exact wpAny_bind (wpAny_bind (wpAny_mono h₃ (fun x s₄ h₄ => wpAny_bind (wpAny_mono h₄ (fun _ s₅ h₅ => wpAny_pure (wpAny_pure ⟨rfl, h₅⟩)) fun _ _ h' => h'.elim)) fun _ _ h' => h'))
end
def cxX (Y : Cx) (pn : List (Addr × Obj)) (xe : Value → Shared → Prop) : Cx := { Y with pn := pn, xe := xe }
theorem Cx.Ok.xx {Y : Cx} {pn : List (Addr × Obj)} {xe : Value → Shared → Prop} (o : Cx.Ok Y) : Cx.Ok (cxX Y pn xe) :=
  ⟨o.mod, o.kind, o.glob, o.blt, o.above, o.inj, o.has, o.cab, o.hd, o.frames, o.stk, o.exf, o.bs, o.bsz, o.noex, o.exfs, o.funs, o.frf⟩
theorem Cx.Ok.unx {Y : Cx} {pn : List (Addr × Obj)} {xe : Value → Shared → Prop} (o : Cx.Ok (cxX Y pn xe)) : Cx.Ok Y :=
  ⟨o.mod, o.kind, o.glob, o.blt, o.above, o.inj, o.has, o.cab, o.hd, o.frames, o.stk, o.exf, o.bs, o.bsz, o.noex, o.exfs, o.funs, o.frf⟩
theorem Inv.xx {Y : Cx} {pins : List (Addr × Obj)} {xe : Value → Shared → Prop} {σ : St} {H : Hp} {s : Shared} (I : Inv Y pins σ H s) : Inv (cxX Y (Y.pn ++ pins) xe) [] σ H s :=
  ⟨I.ok.xx, I.os, I.bare, I.base, I.loc, I.cell, I.free, I.freeC, fun p hp => I.pin p (by have hp : p ∈ (Y.pn ++ pins) ++ [] := hp; simpa using hp), I.hok, I.len⟩
theorem Inv.unx {Y : Cx} {pins : List (Addr × Obj)} {xe : Value → Shared → Prop} {σ : St} {H : Hp} {s : Shared} (I : Inv (cxX Y (Y.pn ++ pins) xe) [] σ H s) : Inv Y pins σ H s :=
  ⟨I.ok.unx, I.os, I.bare, I.base, I.loc, I.cell, I.free, I.freeC, fun p hp => I.pin p (by show p ∈ (Y.pn ++ pins) ++ []; simpa using hp), I.hok, I.len⟩
theorem Exc.same {h h' g : Heap} {H : Hp} {e T C : Addr} {cls : Value} (x : Exc h H g e cls (some T)) (hC : g.get? C ≠ none) (sb : Heap.SameBut C h h') : Exc h' H g e cls (some T) := by
  obtain ⟨h1, h2, oe, vs, h3, h4, h5, h6, h7, r1, r2, r3, r4, oT, ts, hT, dT, r5⟩ := x
  have eC : e ≠ C := fun z => hC (z ▸ h2)
  have tC : T ≠ C := fun z => hC (z ▸ r4)
  exact ⟨h1, h2, oe, vs, (sb.2 e eC).trans h3, h4, h5, h6, h7, r1, r2, r3, r4, oT, ts, (sb.2 T tC).trans hT, dT, r5⟩
theorem lets_comp {X : Cx} {E : XK} (L : Lets X E) (hst : X.stack = X.env :: X.outer) (hfr : X.env.frame = some X.env.locals) {N' : List Str} {sc : Scope} {cl : List (Str × Addr)} {s3 : Shared} {H3 : Hp} {fp : List Addr} {pn : List (Addr × Obj)}
    {pins : List (Addr × Obj)} {σ : St} {use : Option (Value → Sem Unit)} {QQ : Value → Shared → Prop} {acc : Value} (I3 : Inv X pins σ H3 s3)
    (hch : ∀ b ∈ fp, (b ∈ X.ex ∨ X.s₀.heap.objs.size ≤ b) ∧ b ≠ X.env.locals ∧ (∀ x c, X.env.cells.lookup x = some c → c ≠ b) ∧ ∀ p ∈ X.pn ++ pins, p.1 ≠ b) (hpn : ∀ b ∈ fp, ∃ o, (b, o) ∈ pn) :
    Lets (cxX (cxC X N' sc cl s3.heap.objs.size s3 H3 fp) pn (notedBy (model X.prog X.w) X.A (compEnvC sc cl s3.heap.objs.size X.env) fun x s' => compPost (model X.prog X.w) X.A X.xe use QQ acc s3.heap.objs.size (.error x) s')) E := by
  intro pins' σ' H s g a cls hd I G hg x hE
  have hfrm : X.A.frames = some (X.env :: X.outer) := hst ▸ I3.ok.frames
  have hstk : s.heap.FunFrames X.base (X.env :: X.outer) := hst ▸ I.stack
  show wpAny (model X.prog X.w) X.A (noteFrame (.ref a) X.env) _ _ s
  refine note_ok (H := H) (g := g) (cls := cls) hfrm hstk hfr x (fun b hb => I.hok.fresh hb) (fun b hb => hg b (get_none_ge hb)) fun h' T t x' => ?_
  have t : Touch (frs X.stack) H g s.heap h' := by rw [hst]; exact t
  have J := I.touch G t (I.hok.touch t I.stkFree) (fun _ _ n => n) (fun _ _ q => q)
  obtain ⟨m, hn, _⟩ := J.loc
  refine ⟨m, hn, fun h'' sb cenv _ => ?_⟩
  have gC : g.get? s3.heap.objs.size ≠ none := G.L
  have sub : ∀ b, g.get? b = none → s3.heap.get? b = none := fun b hb => by
    cases q : s3.heap.get? b with
    | none => rfl
    | some o =>
      by_cases hf : b ∈ fp
      · obtain ⟨o', hp⟩ := hpn b hf
        exact absurd hb (G.pn (b, o') (List.mem_append_left _ hp))
      · exact absurd hb (G.s0 b o q hf)
  have x2 : Exc h'' H s3.heap a cls (some T) := (x'.same gC sb).mono sub
  obtain ⟨_, _, oe, vs, he, _, _, hda, _, r1, _⟩ := id x2
  unfold PySem.passOn
  refine wpAny_bind (wpAny_field he hda r1 ?_)
  rw [if_neg (show ¬ (Value.ref T == Value.none) = true from Bool.false_ne_true)]
  refine wpAny_bind (flight_ok (fr := frs X.stack) x2 fun h3 t3 _ x3 => wpAny_throw ?_)
  have K1 : Inv X pins σ H { s with heap := h' } := I3.call' J.os J.base J.hok J.bare hch
  have fC : FpOk X pins H s3.heap.objs.size := I3.fpOk (Nat.le_refl _) J.free
  have K2 : Inv X pins σ H { s with heap := h'' } := K1.turned (t' := s.toks) (fun b o hb e => (sb.2 b hb).trans e) fC.1 fC.2.1 fC.2.2.2.1 fC.2.2.2.2.1 fC.2.2.2.2.2
  have K3 := K2.touch I3.inG t3 (K2.hok.touch t3 K2.stkFree) (fun _ _ n => n) (fun _ _ q => q)
  refine L pins σ H _ s3.heap a cls (some T) K3 I3.inG (fun b hb => ?_) x3 hE
  cases q : s3.heap.get? b with
  | none => rfl
  | some o =>
    have bC : b ≠ s3.heap.objs.size := Nat.ne_of_lt (Heap.lt_size q)
    have z1 : ∃ o', h'.get? b = some o' := by
      by_cases hf : b ∈ fp
      · obtain ⟨o', hp⟩ := hpn b hf
        exact ⟨o', (J.pin (b, o') (List.mem_append_left _ hp)).1⟩
      · exact J.base.there b o q hf
    obtain ⟨o', z1⟩ := z1
    obtain ⟨o3, z3⟩ := t3.there b o' ((sb.2 b bC).trans z1)
    have hb : h3.get? b = none := hb
    rw [z3] at hb
    cases hb
section
variable {X : Cx} {elt iter : Expr} {x : Str} {px : Pos} {ifs : List Expr} {sc : Scope} {pos : Pos} {ns : List Str} {ix : List Nat} {wi : TI} {tt : TT} {te : TE} {E : XK}
theorem comp_blockX (L : Lets X E) (hst : X.stack = X.env :: X.outer) (hfr : X.env.frame = some X.env.locals) (c : CompOk X.N X.env.scope sc x ns ix) (hc : X.calm = true) (hi : PI X (.Name x px) iter wi)
    (ht : ∀ cl C s H fp, PIfs (cxC X (x :: ns) sc cl C s H fp) ifs tt) (he : ∀ cl C s H fp pn xe, Lets (cxX (cxC X (x :: ns) sc cl C s H fp) pn xe) E → PE (cxX (cxC X (x :: ns) sc cl C s H fp) pn xe) elt te)
    {pins : List (Addr × Obj)} {s : Shared} {σ : St} {H : Hp} {Q : VK} {use : Option (Value → Sem Unit)} {QQ : Value → Shared → Prop} (I : Inv X pins σ H s) (h : tComp wi ix tt te σ H Q)
    (fin : ∀ (D C : Addr) (s5 : Shared) (m : Str → Option Value) (H5 : Hp), s5.heap.Ns C m → Q (.ref D) H5 → FpOk X pins H5 C → Inv X pins σ H5 s5 →
      compPost (model X.prog X.w) X.A X.xe use QQ (.ref D) C (.ok .next) s5)
    (hs : ∀ x, foldedSetIterable iter X.env x = pure x) :
    wpAny (model X.prog X.w) X.A (comprehension (.ListComp elt [⟨.Name x px, iter, ifs, 0⟩] sc pos) sc X.env (firstIterPos [⟨.Name x px, iter, ifs, 0⟩] pos) (newList []) false (eval iter X.env) use) QQ X.xe s := by
  have hcl0 : ∀ y ∈ sc.names, y.2 = .free → ∃ d, X.env.cells.lookup y.1 = some d := fun y hy hf => I.ok.has y.1 (c.free y hy hf)
  obtain ⟨cl, ecl, h1, h2⟩ := closureFor_of hcl0
  refine wpAny_comprehension_free (use := use) rfl hs ecl c.kind c.loc (wpAny_mono (hi pins s σ H _ I h) (fun xv s₁ q₁ => wpAny_mono q₁ (fun it s₂ q₂ => ?_) fun _ _ e => e) fun _ _ e => e)
  obtain ⟨ita, fp, tn, J, H2, e, I2, T, st2, f2, hW⟩ := q₂
  subst e
  have hfl2 : ∀ b ∈ fp, b < s₂.heap.objs.size := fun b hb => by
    obtain ⟨o, e, _⟩ := T.obj _ _ st2 b hb
    exact Heap.lt_size e
  refine wpAny_newObj_type ?_
  generalize hs3 : ({ s₂ with heap := s₂.heap.push { cls := .type "list", dict := none, data := .seq ([] : List Value).toArray } } : Shared) = s3
  have I3 : Inv X pins σ (upd H2 s₂.heap.objs.size (.lst [])) s3 := by
    rw [← hs3]
    exact I2.lnew (ys := []) (t' := s₂.toks) .nil (Nat.zero_le _)
  have hsz3 : s3.heap.objs.size = s₂.heap.objs.size + 1 := by rw [← hs3]; exact Heap.size_push ..
  have kk3 : ∀ b o, s₂.heap.get? b = some o → s3.heap.get? b = some o := fun b o e => by rw [← hs3]; exact Heap.get?_push_of_some _ e
  have hD : H2 s₂.heap.objs.size = none := I2.fresh
  generalize hDn : s₂.heap.objs.size = D at *
  have fD : ∀ b ∈ fp, b ≠ D := fun b hb => Nat.ne_of_lt (hfl2 b hb)
  have f3 : ∀ b ∈ fp, FpOk X pins (upd H2 D (.lst [])) b := fun b hb => ⟨by rw [upd_ne (fD b hb)]; exact (f2 b hb).1, (f2 b hb).2⟩
  have hfl3 : ∀ b ∈ fp, b < s3.heap.objs.size := fun b hb => Nat.lt_of_lt_of_le (hfl2 b hb) (by rw [hsz3]; exact Nat.le_succ _)
  have st3 : tn 0 s3.heap := T.keep _ _ _ st2 fun b _ o e => kk3 b o e
  refine wpAny_newFunctionEnv c.cell (by intro y hy; simp at hy) (fun h₁ hns₁ hsb₁ => ?_) c.kind
  have kk4 : ∀ b o, s3.heap.get? b = some o → h₁.get? b = some o := fun b o e => (hsb₁.2 b (Nat.ne_of_lt (Heap.lt_size e))).trans (Heap.get?_push_of_some _ e)
  have I4 := comp_start (s4 := { s3 with heap := h₁, toks := s3.toks + ([] : List (Str × Value)).length }) c I3 f3 hfl3 h1 h2 rfl rfl hns₁ kk4
  have st4 : tn 0 h₁ := T.keep _ _ _ st3 fun b _ o e => kk4 b o e
  obtain ⟨W, ⟨m0, w0⟩, turn⟩ := hW D hD
  have hDC : s3.heap.objs.size ≠ D := by omega
  have hch : ∀ b ∈ fp, (b ∈ X.ex ∨ X.s₀.heap.objs.size ≤ b) ∧ b ≠ X.env.locals ∧ (∀ x c, X.env.cells.lookup x = some c → c ≠ b) ∧ ∀ p ∈ X.pn ++ pins, p.1 ≠ b := fun b hb =>
    ⟨(f3 b hb).2.2.2.1, (f3 b hb).2.1, (f3 b hb).2.2.2.2.1, (f3 b hb).2.2.2.2.2⟩
  have fpf : ∀ {H' : Hp}, (∀ b ∈ fp, H' b = none) → ∀ b ∈ fp, FpOk (cxC X (x :: ns) sc cl s3.heap.objs.size s3 (upd H2 D (.lst [])) fp) [] H' b := fun hn b hb =>
    ⟨hn b hb, Nat.ne_of_lt (hfl3 b hb), fun z => (List.mem_cons.mp (I3.stkSub b z)).elim (f3 b hb).2.1 (f3 b hb).2.2.1, .inl hb, fun y d e => (f3 b hb).2.2.2.2.1 y d (h1 y d e), fun p hp => absurd hp (by show p ∉ ([] : List (Addr × Obj)) ++ []; simp)⟩
  have loop : ∀ s4 : Shared, s4 = { s3 with heap := h₁, toks := s3.toks + ([] : List (Str × Value)).length } →
      codeAny (model X.prog X.w) X.A (.compLoop (.ListComp elt [⟨.Name x px, iter, ifs, 0⟩] sc pos) 0 (.ref ita) (.ref D) (compEnvC sc cl s3.heap.objs.size X.env)) (compPost (model X.prog X.w) X.A X.xe use QQ (.ref D) s3.heap.objs.size) s4 := by
    rintro s4 rfl
    refine compLoop_anyX (fun n s' => ∃ i ys H', Inv (cxC X (x :: ns) sc cl s3.heap.objs.size s3 (upd H2 D (.lst [])) fp) [] (freeSt σ ix) H' s' ∧ tn i s'.heap ∧ (∀ b ∈ fp, H' b = none) ∧ W i n ys H') ?_ m0
      ⟨0, [], _, I4, st4, fun b hb => (f3 b hb).1, w0⟩
    rintro n s5 ⟨i, ys, H5, I5, st5, fr5, w5⟩
    obtain ⟨hD5, w5⟩ := turn i n ys H5 w5
    rcases w5 with ⟨stop, qn⟩ | ⟨go, hlen, step⟩
    · refine thn (T.done (cxC X (x :: ns) sc cl s3.heap.objs.size s3 (upd H2 D (.lst [])) fp) rfl rfl rfl hc i [] s5 _ H5 _ I5 (fpf fr5) st5 stop) fun r s6 ⟨hr, I6⟩ => ?_
      subst hr
      obtain ⟨m, hn6, _⟩ := I6.loc
      have un6 : Un (frs X.stack) fp (upd H2 D (.lst [])) H5 s3.heap s6.heap := I6.base
      exact fin D s3.heap.objs.size s6 m H5 hn6 qn (I3.fpOk (Nat.le_refl _) I6.free) (I3.call' I6.os un6 I6.hok I6.bare hch)
    · refine thn (T.item (cxC X (x :: ns) sc cl s3.heap.objs.size s3 (upd H2 D (.lst [])) fp) rfl rfl rfl hc i [] s5 _ H5 _ I5 (fpf fr5) st5 go) fun r s6 ⟨u, hr, h6⟩ => ?_
      subst hr
      refine thn h6 fun _ s7 ⟨y, H7, I7, r7, y7, st7, fr7⟩ => ?_
      have I7' := I7.pinned (fpf fr7) (T.obj _ _ st7)
      have hN : (cxC X (x :: ns) sc cl s3.heap.objs.size s3 (upd H2 D (.lst [])) fp).N.Nodup := c.nd
      have hx0 : (cxC X (x :: ns) sc cl s3.heap.objs.size s3 (upd H2 D (.lst [])) fp).env.scope.names.lookup x = some .local := lookup_relabel_local c.tgt
      refine wpAny_assign_Name (store_ok (i := 0) I7' hN rfl (.inl hx0) r7 (fun s8 I8 => ?_) (.inr hx0))
      have again : ∀ {s' : Shared} {H' : Hp} {ys' : List V}, Inv (cxC X (x :: ns) sc cl s3.heap.objs.size s3 (upd H2 D (.lst [])) fp) ([] ++ pinsAt fp s7.heap) ((freeSt σ ix).set 0 (some y)) H' s' → (∃ m', m' < n ∧ W (i + 1) m' ys' H') →
          ∃ m', m' < n ∧ ∃ i ys H', Inv (cxC X (x :: ns) sc cl s3.heap.objs.size s3 (upd H2 D (.lst [])) fp) [] (freeSt σ ix) H' s' ∧ tn i s'.heap ∧ (∀ b ∈ fp, H' b = none) ∧ W i m' ys H' := fun {s' H' ys'} J ⟨m', hm, hw⟩ => by
        refine ⟨m', hm, i + 1, ys', H', J.unpinned.weak (by simp) (fun k v e => ?_), T.keep _ _ _ st7 fun b hb o e => (J.pin (b, o) (List.mem_append_right _ (List.mem_append_right _ (mem_pinsAt hb e)))).1, fun b hb => ?_, hw⟩
        · cases k with
          | zero => exact absurd (show some (none : Option V) = some (some v) from e) (by simp)
          | succ k => exact e
        · obtain ⟨o, e, d⟩ := T.obj _ _ st7 b hb
          exact (J.pin (b, o) (List.mem_append_right _ (List.mem_append_right _ (mem_pinsAt hb e)))).2.1
      refine thn (ht cl s3.heap.objs.size s3 _ fp _ s8 _ H7 _ I8 (step y H7 y7)) fun ok s9 ⟨H9, I9, q9⟩ => ?_
      cases ok with
      | false =>
        have q9 : ∃ m', m' < n ∧ W (i + 1) m' ys H9 := by rw [if_neg Bool.false_ne_true] at q9; exact q9
        exact again I9 q9
      | true =>
        rw [if_pos rfl] at q9
        have LL := lets_comp (N' := x :: ns) (sc := sc) (cl := cl) (fp := fp) (pn := ([] : List (Addr × Obj)) ++ ([] ++ pinsAt fp s7.heap)) (use := use) (QQ := QQ) (acc := .ref D) L hst hfr I3 hch fun b hb => by
          obtain ⟨o, e, _⟩ := T.obj _ _ st7 b hb
          exact ⟨o, List.mem_append_right _ (List.mem_append_right _ (mem_pinsAt hb e))⟩
        refine thn (he cl s3.heap.objs.size s3 _ fp _ _ LL _ s9 _ H9 _ I9.xx q9) fun yv s10 ⟨z, H10, I10', r10, hD10, q10⟩ => ?_
        have I10 := Inv.unx (Y := cxC X (x :: ns) sc cl s3.heap.objs.size s3 (upd H2 D (.lst [])) fp) (pins := [] ++ pinsAt fp s7.heap) I10'
        have ap := mt_append (X := cxC X (x :: ns) sc cl s3.heap.objs.size s3 (upd H2 D (.lst [])) fp) _ s10 _ H10 (.ref D) [z] (.ref D) [yv] (fun _ H' => ∃ m', m' < n ∧ W (i + 1) m' (ys ++ [z]) H') I10 rfl (.cons r10 .nil) ⟨D, ys, z, rfl, rfl, hD10, hlen, q10⟩
        exact thn ap fun _ s11 ⟨_, H11, I11, _, q11⟩ => again I11 q11
  exact codeAny_compStart_list (loop _ rfl) (T.self _ 0 _ _ _ st4 (loop _ rfl))
theorem pe_compX {N : List Str} {dsc : Scope} (L : Lets X E) (c : CompOk N dsc sc x ns ix) (hc : X.calm = true) (hi : PI X (.Name x px) iter wi)
    (ht : ∀ cl C s H fp, PIfs (cxC X (x :: ns) sc cl C s H fp) ifs tt) (he : ∀ cl C s H fp pn xe, Lets (cxX (cxC X (x :: ns) sc cl C s H fp) pn xe) E → PE (cxX (cxC X (x :: ns) sc cl C s H fp) pn xe) elt te)
    (hst : X.stack = X.env :: X.outer := by rfl) (hfr : X.env.frame = some X.env.locals := by rfl)
    (hs : ∀ x, foldedSetIterable iter X.env x = pure x := by intro _; rfl) (h1 : X.N = N := by rfl) (h2 : X.env.scope = dsc := by rfl) : PE X (.ListComp elt [⟨.Name x px, iter, ifs, 0⟩] sc pos) (tComp wi ix tt te) := by
  subst h1 h2
  intro pins s σ H Q I h
  rw [eval_ListComp]
  refine comp_blockX (use := none) (QQ := EP X pins σ Q) L hst hfr c hc hi ht he I h (fun D C s5 m H5 hn q fC I5 => ?_) hs
  exact ⟨m, hn, fun h' sb => ⟨.ref D, H5, I5.turned (t' := s5.toks) (fun b o hb e => (sb.2 b hb).trans e) fC.1 fC.2.1 fC.2.2.2.1 fC.2.2.2.2.1 fC.2.2.2.2.2, rfl, q⟩⟩
end
theorem comp_stop {J : It} {pre rest : List V} {x : V} {G : Hp → Prop} (hJ : ItOf J (pre ++ x :: rest) G) {σ0 : St} {te : TE} {Q : VK} {H1 : Hp} (f : V → V) (hz : pre.length < sizeLine) (hG : ∀ H', Same H1 H' → G H')
    (he : ∀ y, y ∈ pre → ∀ H2, Same H1 H2 → ∀ R : VK, (∀ H3, Same H2 H3 → R (f y) H3) → te (σ0.set 0 (some y)) H2 R)
    (hx : ∀ H2, Same H1 H2 → ∀ R : VK, te (σ0.set 0 (some x)) H2 R) : ∀ D, H1 D = none → CompW J σ0 tYes te Q D H1 := by
  intro D hD
  refine ⟨fun i m ys H => m = pre.length - i ∧ i ≤ pre.length ∧ Same H1 H ∧ H D = some (.lst ys) ∧ ys = (pre.take i).map f, ⟨pre.length, by simp, Nat.zero_le _, same_upd hD, upd_same, by simp⟩, ?_⟩
  rintro i m ys H ⟨rfl, hi, s, e, rfl⟩
  have hlt : i < (pre ++ x :: rest).length := by rw [List.length_append, List.length_cons]; omega
  refine ⟨e, .inr ⟨hJ.go i H hlt (hG H s), by rw [List.length_map, List.length_take]; omega, fun y H3 yy => ?_⟩⟩
  obtain ⟨e3, yx⟩ := hJ.yld i H y H3 (hG H s) yy hlt
  subst e3
  unfold tYes
  dsimp only
  rw [if_pos rfl]
  by_cases hp : i < pre.length
  · rw [List.getElem?_append_left hp] at yx
    refine he y (List.mem_of_getElem? yx) _ s _ fun H6 s6 => ⟨s6 _ _ e, _, (by omega : pre.length - (i + 1) < pre.length - i), rfl, hp, (s.trans s6).upd hD rfl, upd_same, ?_⟩
    rw [List.take_succ, yx, List.map_append]
    rfl
  · have ei : i = pre.length := by omega
    subst ei
    rw [List.getElem?_append_right (Nat.le_refl _), Nat.sub_self] at yx
    cases yx
    exact hx _ s _
end L2
set_option Elab.async false
set_option linter.all false
set_option maxRecDepth 100000
set_option maxHeartbeats 4000000
namespace L2
open PySem PySem.Spec PyProof.Rows
def noStar : Expr → Bool
  | .Starred _ _ => false
  | _ => true
theorem star_cons {e : Expr} {es : List Expr} {env : Env} (h : noStar e = true) : starEach (e :: es) env = (false, eval e env) :: starEach es env := by
  cases e <;> first | rfl | cases h
section
variable {X : Cx} {e : Expr} {es : List Expr} {te : TE} {t : TA}
theorem pa_consN (ha : PE X e te) (hr : PA X es t) (hs : noStar e = true := by rfl) : PA X (e :: es) (tCons te t) := pa_cons ha hr (star_cons hs)
end
end L2
set_option Elab.async false
set_option linter.all false
set_option maxRecDepth 100000
set_option maxHeartbeats 4000000
namespace K09
open PySem PySem.Spec PyProof.Rows L2 UM UT
def top (i : Nat) : Stmt := PySem.Challenge.pw_unison_k09_refused.main.body.getD i (.Pass ⟨0, 0, 0, 0⟩)
abbrev s_is_ridge : Stmt := top 11
abbrev N_is_ridge : List Str := ["value"]
theorem sc_is_ridge : FnScope N_is_ridge ["value"] (defScope s_is_ridge) := ⟨rfl, rfl, rfl, by decide +kernel, rfl, by decide +kernel, by decide +kernel⟩
abbrev s_check_ridge : Stmt := top 12
abbrev N_check_ridge : List Str := ["value"]
theorem sc_check_ridge : FnScope N_check_ridge ["value"] (defScope s_check_ridge) := ⟨rfl, rfl, rfl, by decide +kernel, rfl, by decide +kernel, by decide +kernel⟩
abbrev s_heights : Stmt := top 13
abbrev N_heights : List Str := ["ridge", "height", "told", "step"]
theorem sc_heights : FnScope N_heights ["ridge"] (defScope s_heights) := ⟨rfl, rfl, rfl, by decide +kernel, rfl, by decide +kernel, by decide +kernel⟩
abbrev s_upside_down : Stmt := top 14
abbrev N_upside_down : List Str := ["ridge"]
theorem sc_upside_down : FnScope N_upside_down ["ridge"] (defScope s_upside_down) := ⟨rfl, rfl, rfl, by decide +kernel, rfl, by decide +kernel, by decide +kernel⟩
abbrev cs0_upside_down : Scope := { kind := .function, names := [(".0", .local), ("step", .local), ("EXCHANGED", .globalImplicit)], isGenerator := false, isCoroutine := false, more := [] }
theorem c0_upside_down : CompOk N_upside_down (defScope s_upside_down) cs0_upside_down "step" [] [] := ⟨rfl, by decide +kernel, by decide +kernel, rfl, by decide +kernel, rfl, by decide +kernel, by decide +kernel⟩
abbrev s_about : Stmt := top 15
abbrev N_about : List Str := ["ridge"]
theorem sc_about : FnScope N_about ["ridge"] (defScope s_about) := ⟨rfl, rfl, rfl, by decide +kernel, rfl, by decide +kernel, by decide +kernel⟩
abbrev s_is_place : Stmt := top 20
abbrev N_is_place : List Str := ["levels", "value"]
theorem sc_is_place : FnScope N_is_place ["levels", "value"] (defScope s_is_place) := ⟨rfl, rfl, rfl, by decide +kernel, rfl, by decide +kernel, by decide +kernel⟩
abbrev s_are_alike : Stmt := top 21
abbrev N_are_alike : List Str := ["levels", "other_levels", "first", "second"]
theorem sc_are_alike : FnScope N_are_alike ["levels", "other_levels", "first", "second"] (defScope s_are_alike) := ⟨rfl, rfl, rfl, by decide +kernel, rfl, by decide +kernel, by decide +kernel⟩
abbrev s_check_places : Stmt := top 22
abbrev N_check_places : List Str := ["levels", "other_levels", "first", "second", "there"]
theorem sc_check_places : FnScope N_check_places ["levels", "other_levels", "first", "second"] (defScope s_check_places) := ⟨rfl, rfl, rfl, by decide +kernel, rfl, by decide +kernel, by decide +kernel⟩
abbrev s_led_to : Stmt := top 23
abbrev N_led_to : List Str := ["first", "second", "move"]
theorem sc_led_to : FnScope N_led_to ["first", "second", "move"] (defScope s_led_to) := ⟨rfl, rfl, rfl, by decide +kernel, rfl, by decide +kernel, by decide +kernel⟩
abbrev s_can_be_done : Stmt := top 24
abbrev N_can_be_done : List Str := ["levels", "other_levels", "first", "second", "move", "pair"]
theorem sc_can_be_done : FnScope N_can_be_done ["levels", "other_levels", "first", "second", "move"] (defScope s_can_be_done) := ⟨rfl, rfl, rfl, by decide +kernel, rfl, by decide +kernel, by decide +kernel⟩
abbrev s_moves_at : Stmt := top 25
abbrev N_moves_at : List Str := ["one", "other", "first", "second", "levels", "other_levels"]
theorem sc_moves_at : FnScope N_moves_at ["one", "other", "first", "second"] (defScope s_moves_at) := ⟨rfl, rfl, rfl, by decide +kernel, rfl, by decide +kernel, by decide +kernel⟩
abbrev cs0_moves_at : Scope := { kind := .function, names := [(".0", .local), ("move", .local), ("can_be_done", .globalImplicit), ("first", .free), ("levels", .free), ("other_levels", .free), ("second", .free)], isGenerator := false, isCoroutine := false, more := [] }
theorem c0_moves_at : CompOk N_moves_at (defScope s_moves_at) cs0_moves_at "move" ["first", "levels", "other_levels", "second"] [2, 4, 5, 3] := ⟨rfl, by decide +kernel, by decide +kernel, rfl, by decide +kernel, rfl, by decide +kernel, by decide +kernel⟩
abbrev s_is_move : Stmt := top 26
abbrev N_is_move : List Str := ["value"]
theorem sc_is_move : FnScope N_is_move ["value"] (defScope s_is_move) := ⟨rfl, rfl, rfl, by decide +kernel, rfl, by decide +kernel, by decide +kernel⟩
abbrev s_check_moves : Stmt := top 27
abbrev N_check_moves : List Str := ["values"]
theorem sc_check_moves : FnScope N_check_moves ["values"] (defScope s_check_moves) := ⟨rfl, rfl, rfl, by decide +kernel, rfl, by decide +kernel, by decide +kernel⟩
abbrev cs0_check_moves : Scope := { kind := .function, names := [(".0", .local), ("value", .local), ("is_move", .globalImplicit)], isGenerator := false, isCoroutine := false, more := [] }
theorem c0_check_moves : CompOk N_check_moves (defScope s_check_moves) cs0_check_moves "value" [] [] := ⟨rfl, by decide +kernel, by decide +kernel, rfl, by decide +kernel, rfl, by decide +kernel, by decide +kernel⟩
abbrev s_thinned : Stmt := top 28
abbrev N_thinned : List Str := ["moves", "kept", "move"]
theorem sc_thinned : FnScope N_thinned ["moves"] (defScope s_thinned) := ⟨rfl, rfl, rfl, by decide +kernel, rfl, by decide +kernel, by decide +kernel⟩
abbrev s_Way_init : Stmt := inClass (top 31) 0
abbrev N_Way_init : List Str := ["self", "moves"]
theorem sc_Way_init : FnScope N_Way_init ["self", "moves"] (defScope s_Way_init) := ⟨rfl, rfl, rfl, by decide +kernel, rfl, by decide +kernel, by decide +kernel⟩
abbrev s_Shut_init : Stmt := inClass (top 32) 0
abbrev N_Shut_init : List Str := ["self", "pairs"]
theorem sc_Shut_init : FnScope N_Shut_init ["self", "pairs"] (defScope s_Shut_init) := ⟨rfl, rfl, rfl, by decide +kernel, rfl, by decide +kernel, by decide +kernel⟩
abbrev s_explored : Stmt := top 33
abbrev N_explored : List Str := ["levels", "other_levels", "goal", "came_by", "newest"]
theorem sc_explored : FnScope N_explored ["levels", "other_levels", "goal"] (defScope s_explored) := ⟨rfl, rfl, rfl, by decide +kernel, rfl, by decide +kernel, by decide +kernel⟩
abbrev s_explored_next : Stmt := top 34
abbrev N_explored_next : List Str := ["levels", "other_levels", "newest", "came_by", "found", "pair", "move", "there"]
theorem sc_explored_next : FnScope N_explored_next ["levels", "other_levels", "newest", "came_by"] (defScope s_explored_next) := ⟨rfl, rfl, rfl, by decide +kernel, rfl, by decide +kernel, by decide +kernel⟩
abbrev s_moves_to : Stmt := top 35
abbrev N_moves_to : List Str := ["goal", "came_by", "moves", "pair", "move"]
theorem sc_moves_to : FnScope N_moves_to ["goal", "came_by"] (defScope s_moves_to) := ⟨rfl, rfl, rfl, by decide +kernel, rfl, by decide +kernel, by decide +kernel⟩
abbrev s_reached : Stmt := top 36
abbrev N_reached : List Str := ["one", "other", "first", "second", "levels", "other_levels", "came_by"]
theorem sc_reached : FnScope N_reached ["one", "other", "first", "second"] (defScope s_reached) := ⟨rfl, rfl, rfl, by decide +kernel, rfl, by decide +kernel, by decide +kernel⟩
abbrev s_height_of_top : Stmt := top 39
abbrev N_height_of_top : List Str := ["climb", "levels"]
theorem sc_height_of_top : FnScope N_height_of_top ["climb"] (defScope s_height_of_top) := ⟨rfl, rfl, rfl, by decide +kernel, rfl, by decide +kernel, by decide +kernel⟩
abbrev s_check_alike : Stmt := top 40
abbrev N_check_alike : List Str := ["tops"]
theorem sc_check_alike : FnScope N_check_alike ["tops"] (defScope s_check_alike) := ⟨rfl, rfl, rfl, by decide +kernel, rfl, by decide +kernel, by decide +kernel⟩
abbrev s_together : Stmt := top 41
abbrev N_together : List Str := ["one", "other"]
theorem sc_together : FnScope N_together ["one", "other"] (defScope s_together) := ⟨rfl, rfl, rfl, by decide +kernel, rfl, by decide +kernel, by decide +kernel⟩
abbrev s_check_climbs : Stmt := top 42
abbrev N_check_climbs : List Str := ["values"]
theorem sc_check_climbs : FnScope N_check_climbs ["values"] (defScope s_check_climbs) := ⟨rfl, rfl, rfl, by decide +kernel, rfl, by decide +kernel, by decide +kernel⟩
abbrev cs0_check_climbs : Scope := { kind := .function, names := [(".0", .local), ("value", .local), ("height_of_top", .globalImplicit)], isGenerator := false, isCoroutine := false, more := [] }
theorem c0_check_climbs : CompOk N_check_climbs (defScope s_check_climbs) cs0_check_climbs "value" [] [] := ⟨rfl, by decide +kernel, by decide +kernel, rfl, by decide +kernel, rfl, by decide +kernel, by decide +kernel⟩
abbrev s_gone_along : Stmt := top 43
abbrev N_gone_along : List Str := ["line", "word", "place", "gone", "letter"]
abbrev s_in_unison : Stmt := top 44
abbrev N_in_unison : List Str := ["climbs", "walked", "words", "climb", "moves", "word"]
theorem sc_in_unison : FnScope N_in_unison ["climbs"] (defScope s_in_unison) := ⟨rfl, rfl, rfl, by decide +kernel, rfl, by decide +kernel, by decide +kernel⟩
abbrev cs0_in_unison : Scope := { kind := .function, names := [(".0", .local), ("move", .local)], isGenerator := false, isCoroutine := false, more := [] }
abbrev cs1_in_unison : Scope := { kind := .function, names := [(".0", .local), ("earlier", .local), ("gone_along", .globalImplicit), ("word", .free)], isGenerator := false, isCoroutine := false, more := [] }
abbrev cs2_in_unison : Scope := { kind := .function, names := [(".0", .local), ("move", .local)], isGenerator := false, isCoroutine := false, more := [] }
abbrev s_check_range : Stmt := top 46
abbrev N_check_range : List Str := ["levels"]
theorem sc_check_range : FnScope N_check_range ["levels"] (defScope s_check_range) := ⟨rfl, rfl, rfl, by decide +kernel, rfl, by decide +kernel, by decide +kernel⟩
abbrev s_meeting : Stmt := top 47
abbrev N_meeting : List Str := ["ridge", "levels", "highest"]
theorem sc_meeting : FnScope N_meeting ["ridge"] (defScope s_meeting) := ⟨rfl, rfl, rfl, by decide +kernel, rfl, by decide +kernel, by decide +kernel⟩
abbrev s_changed : Stmt := top 48
abbrev N_changed : List Str := ["ridge", "moves"]
theorem sc_changed : FnScope N_changed ["ridge"] (defScope s_changed) := ⟨rfl, rfl, rfl, by decide +kernel, rfl, by decide +kernel, by decide +kernel⟩
abbrev cs0_changed : Scope := { kind := .function, names := [(".0", .local), ("move", .local)], isGenerator := false, isCoroutine := false, more := [] }
abbrev s_law_ridge_asked : Stmt := top 50
abbrev N_law_ridge_asked : List Str := ["_law_which", "_law_more", "_law_bad", "_law_door", "_law_pair"]
theorem sc_law_ridge_asked : FnScope N_law_ridge_asked ["_law_which", "_law_more"] (defScope s_law_ridge_asked) := ⟨rfl, rfl, rfl, by decide +kernel, rfl, by decide +kernel, by decide +kernel⟩
abbrev s_law_climb_asked : Stmt := top 51
abbrev N_law_climb_asked : List Str := ["_law_which", "_law_more", "_law_bad", "_law_door"]
theorem sc_law_climb_asked : FnScope N_law_climb_asked ["_law_which", "_law_more"] (defScope s_law_climb_asked) := ⟨rfl, rfl, rfl, by decide +kernel, rfl, by decide +kernel, by decide +kernel⟩
abbrev s_law_places_asked : Stmt := top 52
abbrev N_law_places_asked : List Str := ["_law_which", "_law_more", "_law_bad", "_law_first", "_law_second"]
theorem sc_law_places_asked : FnScope N_law_places_asked ["_law_which", "_law_more"] (defScope s_law_places_asked) := ⟨rfl, rfl, rfl, by decide +kernel, rfl, by decide +kernel, by decide +kernel⟩
abbrev s_law_others_asked : Stmt := top 53
abbrev N_law_others_asked : List Str := ["_law_kind", "_law_which", "_law_more", "_law_some", "_law_one"]
theorem sc_law_others_asked : FnScope N_law_others_asked ["_law_kind", "_law_which", "_law_more"] (defScope s_law_others_asked) := ⟨rfl, rfl, rfl, by decide +kernel, rfl, by decide +kernel, by decide +kernel⟩
abbrev s_law_told : Stmt := top 54
abbrev N_law_told : List Str := ["_law_kind", "_law_which", "_law_more", "error", "_law_found"]
theorem sc_law_told : FnScope N_law_told ["_law_kind", "_law_which", "_law_more"] (defScope s_law_told) := ⟨rfl, rfl, rfl, by decide +kernel, rfl, by decide +kernel, by decide +kernel⟩
abbrev s_law : Stmt := top 55
abbrev N_law : List Str := ["_law_script", "_law_cell", "_law_kind", "_law_due"]
theorem sc_law : FnScope N_law ["_law_script"] (defScope s_law) := ⟨rfl, rfl, rfl, by decide +kernel, rfl, by decide +kernel, by decide +kernel⟩
structure Adr where
  a_is_ridge : Addr
  d_is_ridge : FuncData
  a_check_ridge : Addr
  d_check_ridge : FuncData
  a_heights : Addr
  d_heights : FuncData
  a_upside_down : Addr
  d_upside_down : FuncData
  a_about : Addr
  d_about : FuncData
  a_is_place : Addr
  d_is_place : FuncData
  a_are_alike : Addr
  d_are_alike : FuncData
  a_check_places : Addr
  d_check_places : FuncData
  a_led_to : Addr
  d_led_to : FuncData
  a_can_be_done : Addr
  d_can_be_done : FuncData
  a_moves_at : Addr
  d_moves_at : FuncData
  a_is_move : Addr
  d_is_move : FuncData
  a_check_moves : Addr
  d_check_moves : FuncData
  a_thinned : Addr
  d_thinned : FuncData
  a_explored : Addr
  d_explored : FuncData
  a_explored_next : Addr
  d_explored_next : FuncData
  a_moves_to : Addr
  d_moves_to : FuncData
  a_reached : Addr
  d_reached : FuncData
  a_height_of_top : Addr
  d_height_of_top : FuncData
  a_check_alike : Addr
  d_check_alike : FuncData
  a_together : Addr
  d_together : FuncData
  a_check_climbs : Addr
  d_check_climbs : FuncData
  a_gone_along : Addr
  d_gone_along : FuncData
  a_in_unison : Addr
  d_in_unison : FuncData
  a_check_range : Addr
  d_check_range : FuncData
  a_meeting : Addr
  d_meeting : FuncData
  a_changed : Addr
  d_changed : FuncData
  a_law_ridge_asked : Addr
  d_law_ridge_asked : FuncData
  a_law_climb_asked : Addr
  d_law_climb_asked : FuncData
  a_law_places_asked : Addr
  d_law_places_asked : FuncData
  a_law_others_asked : Addr
  d_law_others_asked : FuncData
  a_law_told : Addr
  d_law_told : FuncData
  a_law : Addr
  d_law : FuncData
  g_EXCHANGED : Addr
  g_MOVES : Addr
  g_TAKEN_BACK : Addr
  g_STEPS : Addr
  g_UNDONE : Addr
  a_Way_init : Addr
  d_Way_init : FuncData
  a_Shut_init : Addr
  d_Shut_init : FuncData
  c_Answer : Addr
  c_Way : Addr
  c_Shut : Addr
  c_RidgeError : Addr
  c_BadRidge : Addr
  c_BadClimb : Addr
  c_BadRange : Addr
  c_BadPlaces : Addr
  c_BadMoves : Addr
  c_Unlike : Addr
structure Txt (P : Program) (w : World) (K : PySem.W.Frag) (mg : Str → Option Value) (A : Adr) : Prop where
  b_ValueError : mg "ValueError" = none
  b_all : mg "all" = none
  b_bool : mg "bool" = none
  b_int : mg "int" = none
  b_isinstance : mg "isinstance" = none
  b_len : mg "len" = none
  b_list : mg "list" = none
  b_max : mg "max" = none
  b_min : mg "min" = none
  b_reversed : mg "reversed" = none
  b_str : mg "str" = none
  m_is_ridge : mg "is_ridge" = some (.ref A.a_is_ridge)
  k_is_ridge : PySem.W.keepIn K (.ref A.a_is_ridge) = true
  F_is_ridge : Fun K "is_ridge" "is_ridge" s_is_ridge A.a_is_ridge A.d_is_ridge
  B_is_ridge : Binds K A.d_is_ridge ["value"] []
  m_check_ridge : mg "check_ridge" = some (.ref A.a_check_ridge)
  k_check_ridge : PySem.W.keepIn K (.ref A.a_check_ridge) = true
  F_check_ridge : Fun K "check_ridge" "check_ridge" s_check_ridge A.a_check_ridge A.d_check_ridge
  B_check_ridge : Binds K A.d_check_ridge ["value"] []
  m_heights : mg "heights" = some (.ref A.a_heights)
  k_heights : PySem.W.keepIn K (.ref A.a_heights) = true
  F_heights : Fun K "heights" "heights" s_heights A.a_heights A.d_heights
  B_heights : Binds K A.d_heights ["ridge"] []
  m_upside_down : mg "upside_down" = some (.ref A.a_upside_down)
  k_upside_down : PySem.W.keepIn K (.ref A.a_upside_down) = true
  F_upside_down : Fun K "upside_down" "upside_down" s_upside_down A.a_upside_down A.d_upside_down
  B_upside_down : Binds K A.d_upside_down ["ridge"] []
  m_about : mg "about" = some (.ref A.a_about)
  k_about : PySem.W.keepIn K (.ref A.a_about) = true
  F_about : Fun K "about" "about" s_about A.a_about A.d_about
  B_about : Binds K A.d_about ["ridge"] []
  m_is_place : mg "is_place" = some (.ref A.a_is_place)
  k_is_place : PySem.W.keepIn K (.ref A.a_is_place) = true
  F_is_place : Fun K "is_place" "is_place" s_is_place A.a_is_place A.d_is_place
  B_is_place : Binds K A.d_is_place ["levels", "value"] []
  m_are_alike : mg "are_alike" = some (.ref A.a_are_alike)
  k_are_alike : PySem.W.keepIn K (.ref A.a_are_alike) = true
  F_are_alike : Fun K "are_alike" "are_alike" s_are_alike A.a_are_alike A.d_are_alike
  B_are_alike : Binds K A.d_are_alike ["levels", "other_levels", "first", "second"] []
  m_check_places : mg "check_places" = some (.ref A.a_check_places)
  k_check_places : PySem.W.keepIn K (.ref A.a_check_places) = true
  F_check_places : Fun K "check_places" "check_places" s_check_places A.a_check_places A.d_check_places
  B_check_places : Binds K A.d_check_places ["levels", "other_levels", "first", "second"] []
  m_led_to : mg "led_to" = some (.ref A.a_led_to)
  k_led_to : PySem.W.keepIn K (.ref A.a_led_to) = true
  F_led_to : Fun K "led_to" "led_to" s_led_to A.a_led_to A.d_led_to
  B_led_to : Binds K A.d_led_to ["first", "second", "move"] []
  m_can_be_done : mg "can_be_done" = some (.ref A.a_can_be_done)
  k_can_be_done : PySem.W.keepIn K (.ref A.a_can_be_done) = true
  F_can_be_done : Fun K "can_be_done" "can_be_done" s_can_be_done A.a_can_be_done A.d_can_be_done
  B_can_be_done : Binds K A.d_can_be_done ["levels", "other_levels", "first", "second", "move"] []
  m_moves_at : mg "moves_at" = some (.ref A.a_moves_at)
  k_moves_at : PySem.W.keepIn K (.ref A.a_moves_at) = true
  F_moves_at : Fun K "moves_at" "moves_at" s_moves_at A.a_moves_at A.d_moves_at
  B_moves_at : Binds K A.d_moves_at ["one", "other", "first", "second"] []
  m_is_move : mg "is_move" = some (.ref A.a_is_move)
  k_is_move : PySem.W.keepIn K (.ref A.a_is_move) = true
  F_is_move : Fun K "is_move" "is_move" s_is_move A.a_is_move A.d_is_move
  B_is_move : Binds K A.d_is_move ["value"] []
  m_check_moves : mg "check_moves" = some (.ref A.a_check_moves)
  k_check_moves : PySem.W.keepIn K (.ref A.a_check_moves) = true
  F_check_moves : Fun K "check_moves" "check_moves" s_check_moves A.a_check_moves A.d_check_moves
  B_check_moves : Binds K A.d_check_moves ["values"] []
  m_thinned : mg "thinned" = some (.ref A.a_thinned)
  k_thinned : PySem.W.keepIn K (.ref A.a_thinned) = true
  F_thinned : Fun K "thinned" "thinned" s_thinned A.a_thinned A.d_thinned
  B_thinned : Binds K A.d_thinned ["moves"] []
  m_explored : mg "explored" = some (.ref A.a_explored)
  k_explored : PySem.W.keepIn K (.ref A.a_explored) = true
  F_explored : Fun K "explored" "explored" s_explored A.a_explored A.d_explored
  B_explored : Binds K A.d_explored ["levels", "other_levels", "goal"] []
  m_explored_next : mg "explored_next" = some (.ref A.a_explored_next)
  k_explored_next : PySem.W.keepIn K (.ref A.a_explored_next) = true
  F_explored_next : Fun K "explored_next" "explored_next" s_explored_next A.a_explored_next A.d_explored_next
  B_explored_next : Binds K A.d_explored_next ["levels", "other_levels", "newest", "came_by"] []
  m_moves_to : mg "moves_to" = some (.ref A.a_moves_to)
  k_moves_to : PySem.W.keepIn K (.ref A.a_moves_to) = true
  F_moves_to : Fun K "moves_to" "moves_to" s_moves_to A.a_moves_to A.d_moves_to
  B_moves_to : Binds K A.d_moves_to ["goal", "came_by"] []
  m_reached : mg "reached" = some (.ref A.a_reached)
  k_reached : PySem.W.keepIn K (.ref A.a_reached) = true
  F_reached : Fun K "reached" "reached" s_reached A.a_reached A.d_reached
  B_reached : Binds K A.d_reached ["one", "other", "first", "second"] []
  m_height_of_top : mg "height_of_top" = some (.ref A.a_height_of_top)
  k_height_of_top : PySem.W.keepIn K (.ref A.a_height_of_top) = true
  F_height_of_top : Fun K "height_of_top" "height_of_top" s_height_of_top A.a_height_of_top A.d_height_of_top
  B_height_of_top : Binds K A.d_height_of_top ["climb"] []
  m_check_alike : mg "check_alike" = some (.ref A.a_check_alike)
  k_check_alike : PySem.W.keepIn K (.ref A.a_check_alike) = true
  F_check_alike : Fun K "check_alike" "check_alike" s_check_alike A.a_check_alike A.d_check_alike
  B_check_alike : Binds K A.d_check_alike ["tops"] []
  m_together : mg "together" = some (.ref A.a_together)
  k_together : PySem.W.keepIn K (.ref A.a_together) = true
  F_together : Fun K "together" "together" s_together A.a_together A.d_together
  B_together : Binds K A.d_together ["one", "other"] []
  m_check_climbs : mg "check_climbs" = some (.ref A.a_check_climbs)
  k_check_climbs : PySem.W.keepIn K (.ref A.a_check_climbs) = true
  F_check_climbs : Fun K "check_climbs" "check_climbs" s_check_climbs A.a_check_climbs A.d_check_climbs
  B_check_climbs : Binds K A.d_check_climbs ["values"] []
  m_gone_along : mg "gone_along" = some (.ref A.a_gone_along)
  k_gone_along : PySem.W.keepIn K (.ref A.a_gone_along) = true
  F_gone_along : Fun K "gone_along" "gone_along" s_gone_along A.a_gone_along A.d_gone_along
  B_gone_along : Binds K A.d_gone_along ["line", "word"] []
  m_in_unison : mg "in_unison" = some (.ref A.a_in_unison)
  k_in_unison : PySem.W.keepIn K (.ref A.a_in_unison) = true
  F_in_unison : Fun K "in_unison" "in_unison" s_in_unison A.a_in_unison A.d_in_unison
  B_in_unison : Binds K A.d_in_unison ["climbs"] []
  m_check_range : mg "check_range" = some (.ref A.a_check_range)
  k_check_range : PySem.W.keepIn K (.ref A.a_check_range) = true
  F_check_range : Fun K "check_range" "check_range" s_check_range A.a_check_range A.d_check_range
  B_check_range : Binds K A.d_check_range ["levels"] []
  m_meeting : mg "meeting" = some (.ref A.a_meeting)
  k_meeting : PySem.W.keepIn K (.ref A.a_meeting) = true
  F_meeting : Fun K "meeting" "meeting" s_meeting A.a_meeting A.d_meeting
  B_meeting : Binds K A.d_meeting ["ridge"] []
  m_changed : mg "changed" = some (.ref A.a_changed)
  k_changed : PySem.W.keepIn K (.ref A.a_changed) = true
  F_changed : Fun K "changed" "changed" s_changed A.a_changed A.d_changed
  B_changed : Binds K A.d_changed ["ridge"] []
  m_law_ridge_asked : mg "_law_ridge_asked" = some (.ref A.a_law_ridge_asked)
  k_law_ridge_asked : PySem.W.keepIn K (.ref A.a_law_ridge_asked) = true
  F_law_ridge_asked : Fun K "_law_ridge_asked" "_law_ridge_asked" s_law_ridge_asked A.a_law_ridge_asked A.d_law_ridge_asked
  B_law_ridge_asked : Binds K A.d_law_ridge_asked ["_law_which", "_law_more"] []
  m_law_climb_asked : mg "_law_climb_asked" = some (.ref A.a_law_climb_asked)
  k_law_climb_asked : PySem.W.keepIn K (.ref A.a_law_climb_asked) = true
  F_law_climb_asked : Fun K "_law_climb_asked" "_law_climb_asked" s_law_climb_asked A.a_law_climb_asked A.d_law_climb_asked
  B_law_climb_asked : Binds K A.d_law_climb_asked ["_law_which", "_law_more"] []
  m_law_places_asked : mg "_law_places_asked" = some (.ref A.a_law_places_asked)
  k_law_places_asked : PySem.W.keepIn K (.ref A.a_law_places_asked) = true
  F_law_places_asked : Fun K "_law_places_asked" "_law_places_asked" s_law_places_asked A.a_law_places_asked A.d_law_places_asked
  B_law_places_asked : Binds K A.d_law_places_asked ["_law_which", "_law_more"] []
  m_law_others_asked : mg "_law_others_asked" = some (.ref A.a_law_others_asked)
  k_law_others_asked : PySem.W.keepIn K (.ref A.a_law_others_asked) = true
  F_law_others_asked : Fun K "_law_others_asked" "_law_others_asked" s_law_others_asked A.a_law_others_asked A.d_law_others_asked
  B_law_others_asked : Binds K A.d_law_others_asked ["_law_kind", "_law_which", "_law_more"] []
  m_law_told : mg "_law_told" = some (.ref A.a_law_told)
  k_law_told : PySem.W.keepIn K (.ref A.a_law_told) = true
  F_law_told : Fun K "_law_told" "_law_told" s_law_told A.a_law_told A.d_law_told
  B_law_told : Binds K A.d_law_told ["_law_kind", "_law_which", "_law_more"] []
  m_law : mg "law" = some (.ref A.a_law)
  k_law : PySem.W.keepIn K (.ref A.a_law) = true
  F_law : Fun K "law" "law" s_law A.a_law A.d_law
  B_law : Binds K A.d_law ["_law_script"] []
  m_EXCHANGED : mg "EXCHANGED" = some (.ref A.g_EXCHANGED)
  t_EXCHANGED : GTab P w K A.g_EXCHANGED [("u", .str "d"), ("d", .str "u")]
  m_MOVES : mg "MOVES" = some (.ref A.g_MOVES)
  t_MOVES : ∀ H, SqT K H A.g_MOVES [.str "ff", .str "fb", .str "bf", .str "bb"]
  m_TAKEN_BACK : mg "TAKEN_BACK" = some (.ref A.g_TAKEN_BACK)
  t_TAKEN_BACK : GTab P w K A.g_TAKEN_BACK [("ff", .str "bb"), ("fb", .str "bf"), ("bf", .str "fb"), ("bb", .str "ff")]
  m_STEPS : mg "STEPS" = some (.ref A.g_STEPS)
  t_STEPS : GTab P w K A.g_STEPS [("f", .int (1)), ("b", .int (-1))]
  m_UNDONE : mg "UNDONE" = some (.ref A.g_UNDONE)
  t_UNDONE : GTab P w K A.g_UNDONE [("u", .str "d"), ("d", .str "u"), ("f", .str "b"), ("b", .str "f")]
  m_RidgeError : mg "RidgeError" = some (.ref A.c_RidgeError)
  m_BadRidge : mg "BadRidge" = some (.ref A.c_BadRidge)
  m_BadClimb : mg "BadClimb" = some (.ref A.c_BadClimb)
  m_BadRange : mg "BadRange" = some (.ref A.c_BadRange)
  m_BadPlaces : mg "BadPlaces" = some (.ref A.c_BadPlaces)
  m_BadMoves : mg "BadMoves" = some (.ref A.c_BadMoves)
  m_Unlike : mg "Unlike" = some (.ref A.c_Unlike)
  x_BadRidge : PySem.W.excIn K A.c_BadRidge bmV "ValueError.__new__" = true
  E_BadRidge : ExCls K A.c_BadRidge
  i_BadRidge_BadRidge : PySem.W.kitOne K (.ref A.c_BadRidge) (.ref A.c_BadRidge) = some true
  i_BadRidge_BadClimb : PySem.W.kitOne K (.ref A.c_BadRidge) (.ref A.c_BadClimb) = some false
  i_BadRidge_BadRange : PySem.W.kitOne K (.ref A.c_BadRidge) (.ref A.c_BadRange) = some false
  i_BadRidge_BadPlaces : PySem.W.kitOne K (.ref A.c_BadRidge) (.ref A.c_BadPlaces) = some false
  i_BadRidge_BadMoves : PySem.W.kitOne K (.ref A.c_BadRidge) (.ref A.c_BadMoves) = some false
  i_BadRidge_Unlike : PySem.W.kitOne K (.ref A.c_BadRidge) (.ref A.c_Unlike) = some false
  i_BadRidge_ValueError : PySem.W.kitOne K (.ref A.c_BadRidge) (.type "ValueError") = some true
  h_BadRidge_RidgeError : PySem.W.exmOne K (.ref A.c_BadRidge) (.ref A.c_RidgeError) = some true
  x_BadClimb : PySem.W.excIn K A.c_BadClimb bmV "ValueError.__new__" = true
  E_BadClimb : ExCls K A.c_BadClimb
  i_BadClimb_BadRidge : PySem.W.kitOne K (.ref A.c_BadClimb) (.ref A.c_BadRidge) = some false
  i_BadClimb_BadClimb : PySem.W.kitOne K (.ref A.c_BadClimb) (.ref A.c_BadClimb) = some true
  i_BadClimb_BadRange : PySem.W.kitOne K (.ref A.c_BadClimb) (.ref A.c_BadRange) = some false
  i_BadClimb_BadPlaces : PySem.W.kitOne K (.ref A.c_BadClimb) (.ref A.c_BadPlaces) = some false
  i_BadClimb_BadMoves : PySem.W.kitOne K (.ref A.c_BadClimb) (.ref A.c_BadMoves) = some false
  i_BadClimb_Unlike : PySem.W.kitOne K (.ref A.c_BadClimb) (.ref A.c_Unlike) = some false
  i_BadClimb_ValueError : PySem.W.kitOne K (.ref A.c_BadClimb) (.type "ValueError") = some true
  h_BadClimb_RidgeError : PySem.W.exmOne K (.ref A.c_BadClimb) (.ref A.c_RidgeError) = some true
  x_BadRange : PySem.W.excIn K A.c_BadRange bmV "ValueError.__new__" = true
  E_BadRange : ExCls K A.c_BadRange
  i_BadRange_BadRidge : PySem.W.kitOne K (.ref A.c_BadRange) (.ref A.c_BadRidge) = some false
  i_BadRange_BadClimb : PySem.W.kitOne K (.ref A.c_BadRange) (.ref A.c_BadClimb) = some false
  i_BadRange_BadRange : PySem.W.kitOne K (.ref A.c_BadRange) (.ref A.c_BadRange) = some true
  i_BadRange_BadPlaces : PySem.W.kitOne K (.ref A.c_BadRange) (.ref A.c_BadPlaces) = some false
  i_BadRange_BadMoves : PySem.W.kitOne K (.ref A.c_BadRange) (.ref A.c_BadMoves) = some false
  i_BadRange_Unlike : PySem.W.kitOne K (.ref A.c_BadRange) (.ref A.c_Unlike) = some false
  i_BadRange_ValueError : PySem.W.kitOne K (.ref A.c_BadRange) (.type "ValueError") = some true
  h_BadRange_RidgeError : PySem.W.exmOne K (.ref A.c_BadRange) (.ref A.c_RidgeError) = some true
  x_BadPlaces : PySem.W.excIn K A.c_BadPlaces bmV "ValueError.__new__" = true
  E_BadPlaces : ExCls K A.c_BadPlaces
  i_BadPlaces_BadRidge : PySem.W.kitOne K (.ref A.c_BadPlaces) (.ref A.c_BadRidge) = some false
  i_BadPlaces_BadClimb : PySem.W.kitOne K (.ref A.c_BadPlaces) (.ref A.c_BadClimb) = some false
  i_BadPlaces_BadRange : PySem.W.kitOne K (.ref A.c_BadPlaces) (.ref A.c_BadRange) = some false
  i_BadPlaces_BadPlaces : PySem.W.kitOne K (.ref A.c_BadPlaces) (.ref A.c_BadPlaces) = some true
  i_BadPlaces_BadMoves : PySem.W.kitOne K (.ref A.c_BadPlaces) (.ref A.c_BadMoves) = some false
  i_BadPlaces_Unlike : PySem.W.kitOne K (.ref A.c_BadPlaces) (.ref A.c_Unlike) = some false
  i_BadPlaces_ValueError : PySem.W.kitOne K (.ref A.c_BadPlaces) (.type "ValueError") = some true
  h_BadPlaces_RidgeError : PySem.W.exmOne K (.ref A.c_BadPlaces) (.ref A.c_RidgeError) = some true
  x_BadMoves : PySem.W.excIn K A.c_BadMoves bmV "ValueError.__new__" = true
  E_BadMoves : ExCls K A.c_BadMoves
  i_BadMoves_BadRidge : PySem.W.kitOne K (.ref A.c_BadMoves) (.ref A.c_BadRidge) = some false
  i_BadMoves_BadClimb : PySem.W.kitOne K (.ref A.c_BadMoves) (.ref A.c_BadClimb) = some false
  i_BadMoves_BadRange : PySem.W.kitOne K (.ref A.c_BadMoves) (.ref A.c_BadRange) = some false
  i_BadMoves_BadPlaces : PySem.W.kitOne K (.ref A.c_BadMoves) (.ref A.c_BadPlaces) = some false
  i_BadMoves_BadMoves : PySem.W.kitOne K (.ref A.c_BadMoves) (.ref A.c_BadMoves) = some true
  i_BadMoves_Unlike : PySem.W.kitOne K (.ref A.c_BadMoves) (.ref A.c_Unlike) = some false
  i_BadMoves_ValueError : PySem.W.kitOne K (.ref A.c_BadMoves) (.type "ValueError") = some true
  h_BadMoves_RidgeError : PySem.W.exmOne K (.ref A.c_BadMoves) (.ref A.c_RidgeError) = some true
  x_Unlike : PySem.W.excIn K A.c_Unlike bmV "ValueError.__new__" = true
  E_Unlike : ExCls K A.c_Unlike
  i_Unlike_BadRidge : PySem.W.kitOne K (.ref A.c_Unlike) (.ref A.c_BadRidge) = some false
  i_Unlike_BadClimb : PySem.W.kitOne K (.ref A.c_Unlike) (.ref A.c_BadClimb) = some false
  i_Unlike_BadRange : PySem.W.kitOne K (.ref A.c_Unlike) (.ref A.c_BadRange) = some false
  i_Unlike_BadPlaces : PySem.W.kitOne K (.ref A.c_Unlike) (.ref A.c_BadPlaces) = some false
  i_Unlike_BadMoves : PySem.W.kitOne K (.ref A.c_Unlike) (.ref A.c_BadMoves) = some false
  i_Unlike_Unlike : PySem.W.kitOne K (.ref A.c_Unlike) (.ref A.c_Unlike) = some true
  i_Unlike_ValueError : PySem.W.kitOne K (.ref A.c_Unlike) (.type "ValueError") = some true
  h_Unlike_RidgeError : PySem.W.exmOne K (.ref A.c_Unlike) (.ref A.c_RidgeError) = some true
  m_Answer : mg "Answer" = some (.ref A.c_Answer)
  m_Way : mg "Way" = some (.ref A.c_Way)
  cl_Way : Cls K A.c_Way
  M_Way : Mk K A.c_Way A.a_Way_init
  n_Way_moves : NoAttr K A.c_Way "moves"
  m_Shut : mg "Shut" = some (.ref A.c_Shut)
  cl_Shut : Cls K A.c_Shut
  M_Shut : Mk K A.c_Shut A.a_Shut_init
  n_Shut_pairs : NoAttr K A.c_Shut "pairs"
  F_Way_init : Fun K "__init__" "Way.__init__" s_Way_init A.a_Way_init A.d_Way_init
  B_Way_init : Binds K A.d_Way_init ["self", "moves"] []
  F_Shut_init : Fun K "__init__" "Shut.__init__" s_Shut_init A.a_Shut_init A.d_Shut_init
  B_Shut_init : Binds K A.d_Shut_init ["self", "pairs"] []
theorem txt_mk {P : Program} {w : World} {K : PySem.W.Frag} {h : Heap} {mg : Str → Option Value} (X : K.In h) (G : h.Ns mainGlobals mg)
    {f0 : Addr} {od0 an0 : Option Addr} {sl0 : Array (Option Value)} {oc0 kV0 dc0 pm0 cd0 ct0 : Value}
    (a0 : PySem.W.nsIn K mainGlobals "is_ridge" = some (some (.ref f0))) (l0 : K.lookup f0 = some ⟨oc0, od0, .func (PySem.W.fnOf "is_ridge" "is_ridge" (defArgs s_is_ridge) (defBody s_is_ridge) (defScope s_is_ridge) .none kV0 dc0 pm0 an0 cd0 ct0), sl0⟩) (c0 : PySem.W.codeIn K cd0 "is_ridge" = true) (k0 : PySem.W.keepIn K (.ref f0) = true)
    {f1 : Addr} {od1 an1 : Option Addr} {sl1 : Array (Option Value)} {oc1 kV1 dc1 pm1 cd1 ct1 : Value}
    (a1 : PySem.W.nsIn K mainGlobals "check_ridge" = some (some (.ref f1))) (l1 : K.lookup f1 = some ⟨oc1, od1, .func (PySem.W.fnOf "check_ridge" "check_ridge" (defArgs s_check_ridge) (defBody s_check_ridge) (defScope s_check_ridge) .none kV1 dc1 pm1 an1 cd1 ct1), sl1⟩) (c1 : PySem.W.codeIn K cd1 "check_ridge" = true) (k1 : PySem.W.keepIn K (.ref f1) = true)
    {f2 : Addr} {od2 an2 : Option Addr} {sl2 : Array (Option Value)} {oc2 kV2 dc2 pm2 cd2 ct2 : Value}
    (a2 : PySem.W.nsIn K mainGlobals "heights" = some (some (.ref f2))) (l2 : K.lookup f2 = some ⟨oc2, od2, .func (PySem.W.fnOf "heights" "heights" (defArgs s_heights) (defBody s_heights) (defScope s_heights) .none kV2 dc2 pm2 an2 cd2 ct2), sl2⟩) (c2 : PySem.W.codeIn K cd2 "heights" = true) (k2 : PySem.W.keepIn K (.ref f2) = true)
    {f3 : Addr} {od3 an3 : Option Addr} {sl3 : Array (Option Value)} {oc3 kV3 dc3 pm3 cd3 ct3 : Value}
    (a3 : PySem.W.nsIn K mainGlobals "upside_down" = some (some (.ref f3))) (l3 : K.lookup f3 = some ⟨oc3, od3, .func (PySem.W.fnOf "upside_down" "upside_down" (defArgs s_upside_down) (defBody s_upside_down) (defScope s_upside_down) .none kV3 dc3 pm3 an3 cd3 ct3), sl3⟩) (c3 : PySem.W.codeIn K cd3 "upside_down" = true) (k3 : PySem.W.keepIn K (.ref f3) = true)
    {f4 : Addr} {od4 an4 : Option Addr} {sl4 : Array (Option Value)} {oc4 kV4 dc4 pm4 cd4 ct4 : Value}
    (a4 : PySem.W.nsIn K mainGlobals "about" = some (some (.ref f4))) (l4 : K.lookup f4 = some ⟨oc4, od4, .func (PySem.W.fnOf "about" "about" (defArgs s_about) (defBody s_about) (defScope s_about) .none kV4 dc4 pm4 an4 cd4 ct4), sl4⟩) (c4 : PySem.W.codeIn K cd4 "about" = true) (k4 : PySem.W.keepIn K (.ref f4) = true)
    {f5 : Addr} {od5 an5 : Option Addr} {sl5 : Array (Option Value)} {oc5 kV5 dc5 pm5 cd5 ct5 : Value}
    (a5 : PySem.W.nsIn K mainGlobals "is_place" = some (some (.ref f5))) (l5 : K.lookup f5 = some ⟨oc5, od5, .func (PySem.W.fnOf "is_place" "is_place" (defArgs s_is_place) (defBody s_is_place) (defScope s_is_place) .none kV5 dc5 pm5 an5 cd5 ct5), sl5⟩) (c5 : PySem.W.codeIn K cd5 "is_place" = true) (k5 : PySem.W.keepIn K (.ref f5) = true)
    {f6 : Addr} {od6 an6 : Option Addr} {sl6 : Array (Option Value)} {oc6 kV6 dc6 pm6 cd6 ct6 : Value}
    (a6 : PySem.W.nsIn K mainGlobals "are_alike" = some (some (.ref f6))) (l6 : K.lookup f6 = some ⟨oc6, od6, .func (PySem.W.fnOf "are_alike" "are_alike" (defArgs s_are_alike) (defBody s_are_alike) (defScope s_are_alike) .none kV6 dc6 pm6 an6 cd6 ct6), sl6⟩) (c6 : PySem.W.codeIn K cd6 "are_alike" = true) (k6 : PySem.W.keepIn K (.ref f6) = true)
    {f7 : Addr} {od7 an7 : Option Addr} {sl7 : Array (Option Value)} {oc7 kV7 dc7 pm7 cd7 ct7 : Value}
    (a7 : PySem.W.nsIn K mainGlobals "check_places" = some (some (.ref f7))) (l7 : K.lookup f7 = some ⟨oc7, od7, .func (PySem.W.fnOf "check_places" "check_places" (defArgs s_check_places) (defBody s_check_places) (defScope s_check_places) .none kV7 dc7 pm7 an7 cd7 ct7), sl7⟩) (c7 : PySem.W.codeIn K cd7 "check_places" = true) (k7 : PySem.W.keepIn K (.ref f7) = true)
    {f8 : Addr} {od8 an8 : Option Addr} {sl8 : Array (Option Value)} {oc8 kV8 dc8 pm8 cd8 ct8 : Value}
    (a8 : PySem.W.nsIn K mainGlobals "led_to" = some (some (.ref f8))) (l8 : K.lookup f8 = some ⟨oc8, od8, .func (PySem.W.fnOf "led_to" "led_to" (defArgs s_led_to) (defBody s_led_to) (defScope s_led_to) .none kV8 dc8 pm8 an8 cd8 ct8), sl8⟩) (c8 : PySem.W.codeIn K cd8 "led_to" = true) (k8 : PySem.W.keepIn K (.ref f8) = true)
    {f9 : Addr} {od9 an9 : Option Addr} {sl9 : Array (Option Value)} {oc9 kV9 dc9 pm9 cd9 ct9 : Value}
    (a9 : PySem.W.nsIn K mainGlobals "can_be_done" = some (some (.ref f9))) (l9 : K.lookup f9 = some ⟨oc9, od9, .func (PySem.W.fnOf "can_be_done" "can_be_done" (defArgs s_can_be_done) (defBody s_can_be_done) (defScope s_can_be_done) .none kV9 dc9 pm9 an9 cd9 ct9), sl9⟩) (c9 : PySem.W.codeIn K cd9 "can_be_done" = true) (k9 : PySem.W.keepIn K (.ref f9) = true)
    {f10 : Addr} {od10 an10 : Option Addr} {sl10 : Array (Option Value)} {oc10 kV10 dc10 pm10 cd10 ct10 : Value}
    (a10 : PySem.W.nsIn K mainGlobals "moves_at" = some (some (.ref f10))) (l10 : K.lookup f10 = some ⟨oc10, od10, .func (PySem.W.fnOf "moves_at" "moves_at" (defArgs s_moves_at) (defBody s_moves_at) (defScope s_moves_at) .none kV10 dc10 pm10 an10 cd10 ct10), sl10⟩) (c10 : PySem.W.codeIn K cd10 "moves_at" = true) (k10 : PySem.W.keepIn K (.ref f10) = true)
    {f11 : Addr} {od11 an11 : Option Addr} {sl11 : Array (Option Value)} {oc11 kV11 dc11 pm11 cd11 ct11 : Value}
    (a11 : PySem.W.nsIn K mainGlobals "is_move" = some (some (.ref f11))) (l11 : K.lookup f11 = some ⟨oc11, od11, .func (PySem.W.fnOf "is_move" "is_move" (defArgs s_is_move) (defBody s_is_move) (defScope s_is_move) .none kV11 dc11 pm11 an11 cd11 ct11), sl11⟩) (c11 : PySem.W.codeIn K cd11 "is_move" = true) (k11 : PySem.W.keepIn K (.ref f11) = true)
    {f12 : Addr} {od12 an12 : Option Addr} {sl12 : Array (Option Value)} {oc12 kV12 dc12 pm12 cd12 ct12 : Value}
    (a12 : PySem.W.nsIn K mainGlobals "check_moves" = some (some (.ref f12))) (l12 : K.lookup f12 = some ⟨oc12, od12, .func (PySem.W.fnOf "check_moves" "check_moves" (defArgs s_check_moves) (defBody s_check_moves) (defScope s_check_moves) .none kV12 dc12 pm12 an12 cd12 ct12), sl12⟩) (c12 : PySem.W.codeIn K cd12 "check_moves" = true) (k12 : PySem.W.keepIn K (.ref f12) = true)
    {f13 : Addr} {od13 an13 : Option Addr} {sl13 : Array (Option Value)} {oc13 kV13 dc13 pm13 cd13 ct13 : Value}
    (a13 : PySem.W.nsIn K mainGlobals "thinned" = some (some (.ref f13))) (l13 : K.lookup f13 = some ⟨oc13, od13, .func (PySem.W.fnOf "thinned" "thinned" (defArgs s_thinned) (defBody s_thinned) (defScope s_thinned) .none kV13 dc13 pm13 an13 cd13 ct13), sl13⟩) (c13 : PySem.W.codeIn K cd13 "thinned" = true) (k13 : PySem.W.keepIn K (.ref f13) = true)
    {f14 : Addr} {od14 an14 : Option Addr} {sl14 : Array (Option Value)} {oc14 kV14 dc14 pm14 cd14 ct14 : Value}
    (a14 : PySem.W.nsIn K mainGlobals "explored" = some (some (.ref f14))) (l14 : K.lookup f14 = some ⟨oc14, od14, .func (PySem.W.fnOf "explored" "explored" (defArgs s_explored) (defBody s_explored) (defScope s_explored) .none kV14 dc14 pm14 an14 cd14 ct14), sl14⟩) (c14 : PySem.W.codeIn K cd14 "explored" = true) (k14 : PySem.W.keepIn K (.ref f14) = true)
    {f15 : Addr} {od15 an15 : Option Addr} {sl15 : Array (Option Value)} {oc15 kV15 dc15 pm15 cd15 ct15 : Value}
    (a15 : PySem.W.nsIn K mainGlobals "explored_next" = some (some (.ref f15))) (l15 : K.lookup f15 = some ⟨oc15, od15, .func (PySem.W.fnOf "explored_next" "explored_next" (defArgs s_explored_next) (defBody s_explored_next) (defScope s_explored_next) .none kV15 dc15 pm15 an15 cd15 ct15), sl15⟩) (c15 : PySem.W.codeIn K cd15 "explored_next" = true) (k15 : PySem.W.keepIn K (.ref f15) = true)
    {f16 : Addr} {od16 an16 : Option Addr} {sl16 : Array (Option Value)} {oc16 kV16 dc16 pm16 cd16 ct16 : Value}
    (a16 : PySem.W.nsIn K mainGlobals "moves_to" = some (some (.ref f16))) (l16 : K.lookup f16 = some ⟨oc16, od16, .func (PySem.W.fnOf "moves_to" "moves_to" (defArgs s_moves_to) (defBody s_moves_to) (defScope s_moves_to) .none kV16 dc16 pm16 an16 cd16 ct16), sl16⟩) (c16 : PySem.W.codeIn K cd16 "moves_to" = true) (k16 : PySem.W.keepIn K (.ref f16) = true)
    {f17 : Addr} {od17 an17 : Option Addr} {sl17 : Array (Option Value)} {oc17 kV17 dc17 pm17 cd17 ct17 : Value}
    (a17 : PySem.W.nsIn K mainGlobals "reached" = some (some (.ref f17))) (l17 : K.lookup f17 = some ⟨oc17, od17, .func (PySem.W.fnOf "reached" "reached" (defArgs s_reached) (defBody s_reached) (defScope s_reached) .none kV17 dc17 pm17 an17 cd17 ct17), sl17⟩) (c17 : PySem.W.codeIn K cd17 "reached" = true) (k17 : PySem.W.keepIn K (.ref f17) = true)
    {f18 : Addr} {od18 an18 : Option Addr} {sl18 : Array (Option Value)} {oc18 kV18 dc18 pm18 cd18 ct18 : Value}
    (a18 : PySem.W.nsIn K mainGlobals "height_of_top" = some (some (.ref f18))) (l18 : K.lookup f18 = some ⟨oc18, od18, .func (PySem.W.fnOf "height_of_top" "height_of_top" (defArgs s_height_of_top) (defBody s_height_of_top) (defScope s_height_of_top) .none kV18 dc18 pm18 an18 cd18 ct18), sl18⟩) (c18 : PySem.W.codeIn K cd18 "height_of_top" = true) (k18 : PySem.W.keepIn K (.ref f18) = true)
    {f19 : Addr} {od19 an19 : Option Addr} {sl19 : Array (Option Value)} {oc19 kV19 dc19 pm19 cd19 ct19 : Value}
    (a19 : PySem.W.nsIn K mainGlobals "check_alike" = some (some (.ref f19))) (l19 : K.lookup f19 = some ⟨oc19, od19, .func (PySem.W.fnOf "check_alike" "check_alike" (defArgs s_check_alike) (defBody s_check_alike) (defScope s_check_alike) .none kV19 dc19 pm19 an19 cd19 ct19), sl19⟩) (c19 : PySem.W.codeIn K cd19 "check_alike" = true) (k19 : PySem.W.keepIn K (.ref f19) = true)
    {f20 : Addr} {od20 an20 : Option Addr} {sl20 : Array (Option Value)} {oc20 kV20 dc20 pm20 cd20 ct20 : Value}
    (a20 : PySem.W.nsIn K mainGlobals "together" = some (some (.ref f20))) (l20 : K.lookup f20 = some ⟨oc20, od20, .func (PySem.W.fnOf "together" "together" (defArgs s_together) (defBody s_together) (defScope s_together) .none kV20 dc20 pm20 an20 cd20 ct20), sl20⟩) (c20 : PySem.W.codeIn K cd20 "together" = true) (k20 : PySem.W.keepIn K (.ref f20) = true)
    {f21 : Addr} {od21 an21 : Option Addr} {sl21 : Array (Option Value)} {oc21 kV21 dc21 pm21 cd21 ct21 : Value}
    (a21 : PySem.W.nsIn K mainGlobals "check_climbs" = some (some (.ref f21))) (l21 : K.lookup f21 = some ⟨oc21, od21, .func (PySem.W.fnOf "check_climbs" "check_climbs" (defArgs s_check_climbs) (defBody s_check_climbs) (defScope s_check_climbs) .none kV21 dc21 pm21 an21 cd21 ct21), sl21⟩) (c21 : PySem.W.codeIn K cd21 "check_climbs" = true) (k21 : PySem.W.keepIn K (.ref f21) = true)
    {f22 : Addr} {od22 an22 : Option Addr} {sl22 : Array (Option Value)} {oc22 kV22 dc22 pm22 cd22 ct22 : Value}
    (a22 : PySem.W.nsIn K mainGlobals "gone_along" = some (some (.ref f22))) (l22 : K.lookup f22 = some ⟨oc22, od22, .func (PySem.W.fnOf "gone_along" "gone_along" (defArgs s_gone_along) (defBody s_gone_along) (defScope s_gone_along) .none kV22 dc22 pm22 an22 cd22 ct22), sl22⟩) (c22 : PySem.W.codeIn K cd22 "gone_along" = true) (k22 : PySem.W.keepIn K (.ref f22) = true)
    {f23 : Addr} {od23 an23 : Option Addr} {sl23 : Array (Option Value)} {oc23 kV23 dc23 pm23 cd23 ct23 : Value}
    (a23 : PySem.W.nsIn K mainGlobals "in_unison" = some (some (.ref f23))) (l23 : K.lookup f23 = some ⟨oc23, od23, .func (PySem.W.fnOf "in_unison" "in_unison" (defArgs s_in_unison) (defBody s_in_unison) (defScope s_in_unison) .none kV23 dc23 pm23 an23 cd23 ct23), sl23⟩) (c23 : PySem.W.codeIn K cd23 "in_unison" = true) (k23 : PySem.W.keepIn K (.ref f23) = true)
    {f24 : Addr} {od24 an24 : Option Addr} {sl24 : Array (Option Value)} {oc24 kV24 dc24 pm24 cd24 ct24 : Value}
    (a24 : PySem.W.nsIn K mainGlobals "check_range" = some (some (.ref f24))) (l24 : K.lookup f24 = some ⟨oc24, od24, .func (PySem.W.fnOf "check_range" "check_range" (defArgs s_check_range) (defBody s_check_range) (defScope s_check_range) .none kV24 dc24 pm24 an24 cd24 ct24), sl24⟩) (c24 : PySem.W.codeIn K cd24 "check_range" = true) (k24 : PySem.W.keepIn K (.ref f24) = true)
    {f25 : Addr} {od25 an25 : Option Addr} {sl25 : Array (Option Value)} {oc25 kV25 dc25 pm25 cd25 ct25 : Value}
    (a25 : PySem.W.nsIn K mainGlobals "meeting" = some (some (.ref f25))) (l25 : K.lookup f25 = some ⟨oc25, od25, .func (PySem.W.fnOf "meeting" "meeting" (defArgs s_meeting) (defBody s_meeting) (defScope s_meeting) .none kV25 dc25 pm25 an25 cd25 ct25), sl25⟩) (c25 : PySem.W.codeIn K cd25 "meeting" = true) (k25 : PySem.W.keepIn K (.ref f25) = true)
    {f26 : Addr} {od26 an26 : Option Addr} {sl26 : Array (Option Value)} {oc26 kV26 dc26 pm26 cd26 ct26 : Value}
    (a26 : PySem.W.nsIn K mainGlobals "changed" = some (some (.ref f26))) (l26 : K.lookup f26 = some ⟨oc26, od26, .func (PySem.W.fnOf "changed" "changed" (defArgs s_changed) (defBody s_changed) (defScope s_changed) .none kV26 dc26 pm26 an26 cd26 ct26), sl26⟩) (c26 : PySem.W.codeIn K cd26 "changed" = true) (k26 : PySem.W.keepIn K (.ref f26) = true)
    {f27 : Addr} {od27 an27 : Option Addr} {sl27 : Array (Option Value)} {oc27 kV27 dc27 pm27 cd27 ct27 : Value}
    (a27 : PySem.W.nsIn K mainGlobals "_law_ridge_asked" = some (some (.ref f27))) (l27 : K.lookup f27 = some ⟨oc27, od27, .func (PySem.W.fnOf "_law_ridge_asked" "_law_ridge_asked" (defArgs s_law_ridge_asked) (defBody s_law_ridge_asked) (defScope s_law_ridge_asked) .none kV27 dc27 pm27 an27 cd27 ct27), sl27⟩) (c27 : PySem.W.codeIn K cd27 "_law_ridge_asked" = true) (k27 : PySem.W.keepIn K (.ref f27) = true)
    {f28 : Addr} {od28 an28 : Option Addr} {sl28 : Array (Option Value)} {oc28 kV28 dc28 pm28 cd28 ct28 : Value}
    (a28 : PySem.W.nsIn K mainGlobals "_law_climb_asked" = some (some (.ref f28))) (l28 : K.lookup f28 = some ⟨oc28, od28, .func (PySem.W.fnOf "_law_climb_asked" "_law_climb_asked" (defArgs s_law_climb_asked) (defBody s_law_climb_asked) (defScope s_law_climb_asked) .none kV28 dc28 pm28 an28 cd28 ct28), sl28⟩) (c28 : PySem.W.codeIn K cd28 "_law_climb_asked" = true) (k28 : PySem.W.keepIn K (.ref f28) = true)
    {f29 : Addr} {od29 an29 : Option Addr} {sl29 : Array (Option Value)} {oc29 kV29 dc29 pm29 cd29 ct29 : Value}
    (a29 : PySem.W.nsIn K mainGlobals "_law_places_asked" = some (some (.ref f29))) (l29 : K.lookup f29 = some ⟨oc29, od29, .func (PySem.W.fnOf "_law_places_asked" "_law_places_asked" (defArgs s_law_places_asked) (defBody s_law_places_asked) (defScope s_law_places_asked) .none kV29 dc29 pm29 an29 cd29 ct29), sl29⟩) (c29 : PySem.W.codeIn K cd29 "_law_places_asked" = true) (k29 : PySem.W.keepIn K (.ref f29) = true)
    {f30 : Addr} {od30 an30 : Option Addr} {sl30 : Array (Option Value)} {oc30 kV30 dc30 pm30 cd30 ct30 : Value}
    (a30 : PySem.W.nsIn K mainGlobals "_law_others_asked" = some (some (.ref f30))) (l30 : K.lookup f30 = some ⟨oc30, od30, .func (PySem.W.fnOf "_law_others_asked" "_law_others_asked" (defArgs s_law_others_asked) (defBody s_law_others_asked) (defScope s_law_others_asked) .none kV30 dc30 pm30 an30 cd30 ct30), sl30⟩) (c30 : PySem.W.codeIn K cd30 "_law_others_asked" = true) (k30 : PySem.W.keepIn K (.ref f30) = true)
    {f31 : Addr} {od31 an31 : Option Addr} {sl31 : Array (Option Value)} {oc31 kV31 dc31 pm31 cd31 ct31 : Value}
    (a31 : PySem.W.nsIn K mainGlobals "_law_told" = some (some (.ref f31))) (l31 : K.lookup f31 = some ⟨oc31, od31, .func (PySem.W.fnOf "_law_told" "_law_told" (defArgs s_law_told) (defBody s_law_told) (defScope s_law_told) .none kV31 dc31 pm31 an31 cd31 ct31), sl31⟩) (c31 : PySem.W.codeIn K cd31 "_law_told" = true) (k31 : PySem.W.keepIn K (.ref f31) = true)
    {f32 : Addr} {od32 an32 : Option Addr} {sl32 : Array (Option Value)} {oc32 kV32 dc32 pm32 cd32 ct32 : Value}
    (a32 : PySem.W.nsIn K mainGlobals "law" = some (some (.ref f32))) (l32 : K.lookup f32 = some ⟨oc32, od32, .func (PySem.W.fnOf "law" "law" (defArgs s_law) (defBody s_law) (defScope s_law) .none kV32 dc32 pm32 an32 cd32 ct32), sl32⟩) (c32 : PySem.W.codeIn K cd32 "law" = true) (k32 : PySem.W.keepIn K (.ref f32) = true)
    {eEXCHANGED : Addr} (aEXCHANGED : PySem.W.nsIn K mainGlobals "EXCHANGED" = some (some (.ref eEXCHANGED))) (tEXCHANGED : KTD.tabLook KTD.flatLooks (fun b => K.lookup b) eEXCHANGED [("u", .str "d"), ("d", .str "u")] = true) (hEXCHANGED : KTD.hashesOf (fun b => K.lookup b) eEXCHANGED = [(PySem.strKind P w).hash "u", (PySem.strKind P w).hash "d"])
    {eMOVES : Addr} {odMOVES : Option Addr} {slMOVES : Array (Option Value)} {itsMOVES : Array Value} {nMOVES : Nat} (aMOVES : PySem.W.nsIn K mainGlobals "MOVES" = some (some (.ref eMOVES))) (lMOVES : K.lookup eMOVES = some ⟨.type "tuple", odMOVES, .seq itsMOVES nMOVES, slMOVES⟩) (vMOVES : Vals [V.str "ff", V.str "fb", V.str "bf", V.str "bb"] itsMOVES.toList) (zMOVES : itsMOVES.size ≤ sizeLine)
    {eTAKEN_BACK : Addr} (aTAKEN_BACK : PySem.W.nsIn K mainGlobals "TAKEN_BACK" = some (some (.ref eTAKEN_BACK))) (tTAKEN_BACK : KTD.tabLook KTD.flatLooks (fun b => K.lookup b) eTAKEN_BACK [("ff", .str "bb"), ("fb", .str "bf"), ("bf", .str "fb"), ("bb", .str "ff")] = true) (hTAKEN_BACK : KTD.hashesOf (fun b => K.lookup b) eTAKEN_BACK = [(PySem.strKind P w).hash "ff", (PySem.strKind P w).hash "fb", (PySem.strKind P w).hash "bf", (PySem.strKind P w).hash "bb"])
    {eSTEPS : Addr} (aSTEPS : PySem.W.nsIn K mainGlobals "STEPS" = some (some (.ref eSTEPS))) (tSTEPS : KTD.tabLook KTD.flatLooks (fun b => K.lookup b) eSTEPS [("f", .int (1)), ("b", .int (-1))] = true) (hSTEPS : KTD.hashesOf (fun b => K.lookup b) eSTEPS = [(PySem.strKind P w).hash "f", (PySem.strKind P w).hash "b"])
    {eUNDONE : Addr} (aUNDONE : PySem.W.nsIn K mainGlobals "UNDONE" = some (some (.ref eUNDONE))) (tUNDONE : KTD.tabLook KTD.flatLooks (fun b => K.lookup b) eUNDONE [("u", .str "d"), ("d", .str "u"), ("f", .str "b"), ("b", .str "f")] = true) (hUNDONE : KTD.hashesOf (fun b => K.lookup b) eUNDONE = [(PySem.strKind P w).hash "u", (PySem.strKind P w).hash "d", (PySem.strKind P w).hash "f", (PySem.strKind P w).hash "b"])
    {eRidgeError : Addr} (aRidgeError : PySem.W.nsIn K mainGlobals "RidgeError" = some (some (.ref eRidgeError)))
    {eBadRidge : Addr} (aBadRidge : PySem.W.nsIn K mainGlobals "BadRidge" = some (some (.ref eBadRidge)))
    {eBadClimb : Addr} (aBadClimb : PySem.W.nsIn K mainGlobals "BadClimb" = some (some (.ref eBadClimb)))
    {eBadRange : Addr} (aBadRange : PySem.W.nsIn K mainGlobals "BadRange" = some (some (.ref eBadRange)))
    {eBadPlaces : Addr} (aBadPlaces : PySem.W.nsIn K mainGlobals "BadPlaces" = some (some (.ref eBadPlaces)))
    {eBadMoves : Addr} (aBadMoves : PySem.W.nsIn K mainGlobals "BadMoves" = some (some (.ref eBadMoves)))
    {eUnlike : Addr} (aUnlike : PySem.W.nsIn K mainGlobals "Unlike" = some (some (.ref eUnlike)))
    (xBadRidge : PySem.W.excIn K eBadRidge bmV "ValueError.__new__" = true) (yBadRidge : exClsB K eBadRidge = true)
    (iBadRidge_BadRidge : PySem.W.kitOne K (.ref eBadRidge) (.ref eBadRidge) = some true)
    (iBadRidge_BadClimb : PySem.W.kitOne K (.ref eBadRidge) (.ref eBadClimb) = some false)
    (iBadRidge_BadRange : PySem.W.kitOne K (.ref eBadRidge) (.ref eBadRange) = some false)
    (iBadRidge_BadPlaces : PySem.W.kitOne K (.ref eBadRidge) (.ref eBadPlaces) = some false)
    (iBadRidge_BadMoves : PySem.W.kitOne K (.ref eBadRidge) (.ref eBadMoves) = some false)
    (iBadRidge_Unlike : PySem.W.kitOne K (.ref eBadRidge) (.ref eUnlike) = some false)
    (iBadRidge_ValueError : PySem.W.kitOne K (.ref eBadRidge) (.type "ValueError") = some true)
    (hBadRidge_RidgeError : PySem.W.exmOne K (.ref eBadRidge) (.ref eRidgeError) = some true)
    (xBadClimb : PySem.W.excIn K eBadClimb bmV "ValueError.__new__" = true) (yBadClimb : exClsB K eBadClimb = true)
    (iBadClimb_BadRidge : PySem.W.kitOne K (.ref eBadClimb) (.ref eBadRidge) = some false)
    (iBadClimb_BadClimb : PySem.W.kitOne K (.ref eBadClimb) (.ref eBadClimb) = some true)
    (iBadClimb_BadRange : PySem.W.kitOne K (.ref eBadClimb) (.ref eBadRange) = some false)
    (iBadClimb_BadPlaces : PySem.W.kitOne K (.ref eBadClimb) (.ref eBadPlaces) = some false)
    (iBadClimb_BadMoves : PySem.W.kitOne K (.ref eBadClimb) (.ref eBadMoves) = some false)
    (iBadClimb_Unlike : PySem.W.kitOne K (.ref eBadClimb) (.ref eUnlike) = some false)
    (iBadClimb_ValueError : PySem.W.kitOne K (.ref eBadClimb) (.type "ValueError") = some true)
    (hBadClimb_RidgeError : PySem.W.exmOne K (.ref eBadClimb) (.ref eRidgeError) = some true)
    (xBadRange : PySem.W.excIn K eBadRange bmV "ValueError.__new__" = true) (yBadRange : exClsB K eBadRange = true)
    (iBadRange_BadRidge : PySem.W.kitOne K (.ref eBadRange) (.ref eBadRidge) = some false)
    (iBadRange_BadClimb : PySem.W.kitOne K (.ref eBadRange) (.ref eBadClimb) = some false)
    (iBadRange_BadRange : PySem.W.kitOne K (.ref eBadRange) (.ref eBadRange) = some true)
    (iBadRange_BadPlaces : PySem.W.kitOne K (.ref eBadRange) (.ref eBadPlaces) = some false)
    (iBadRange_BadMoves : PySem.W.kitOne K (.ref eBadRange) (.ref eBadMoves) = some false)
    (iBadRange_Unlike : PySem.W.kitOne K (.ref eBadRange) (.ref eUnlike) = some false)
    (iBadRange_ValueError : PySem.W.kitOne K (.ref eBadRange) (.type "ValueError") = some true)
    (hBadRange_RidgeError : PySem.W.exmOne K (.ref eBadRange) (.ref eRidgeError) = some true)
    (xBadPlaces : PySem.W.excIn K eBadPlaces bmV "ValueError.__new__" = true) (yBadPlaces : exClsB K eBadPlaces = true)
    (iBadPlaces_BadRidge : PySem.W.kitOne K (.ref eBadPlaces) (.ref eBadRidge) = some false)
    (iBadPlaces_BadClimb : PySem.W.kitOne K (.ref eBadPlaces) (.ref eBadClimb) = some false)
    (iBadPlaces_BadRange : PySem.W.kitOne K (.ref eBadPlaces) (.ref eBadRange) = some false)
    (iBadPlaces_BadPlaces : PySem.W.kitOne K (.ref eBadPlaces) (.ref eBadPlaces) = some true)
    (iBadPlaces_BadMoves : PySem.W.kitOne K (.ref eBadPlaces) (.ref eBadMoves) = some false)
    (iBadPlaces_Unlike : PySem.W.kitOne K (.ref eBadPlaces) (.ref eUnlike) = some false)
    (iBadPlaces_ValueError : PySem.W.kitOne K (.ref eBadPlaces) (.type "ValueError") = some true)
    (hBadPlaces_RidgeError : PySem.W.exmOne K (.ref eBadPlaces) (.ref eRidgeError) = some true)
    (xBadMoves : PySem.W.excIn K eBadMoves bmV "ValueError.__new__" = true) (yBadMoves : exClsB K eBadMoves = true)
    (iBadMoves_BadRidge : PySem.W.kitOne K (.ref eBadMoves) (.ref eBadRidge) = some false)
    (iBadMoves_BadClimb : PySem.W.kitOne K (.ref eBadMoves) (.ref eBadClimb) = some false)
    (iBadMoves_BadRange : PySem.W.kitOne K (.ref eBadMoves) (.ref eBadRange) = some false)
    (iBadMoves_BadPlaces : PySem.W.kitOne K (.ref eBadMoves) (.ref eBadPlaces) = some false)
    (iBadMoves_BadMoves : PySem.W.kitOne K (.ref eBadMoves) (.ref eBadMoves) = some true)
    (iBadMoves_Unlike : PySem.W.kitOne K (.ref eBadMoves) (.ref eUnlike) = some false)
    (iBadMoves_ValueError : PySem.W.kitOne K (.ref eBadMoves) (.type "ValueError") = some true)
    (hBadMoves_RidgeError : PySem.W.exmOne K (.ref eBadMoves) (.ref eRidgeError) = some true)
    (xUnlike : PySem.W.excIn K eUnlike bmV "ValueError.__new__" = true) (yUnlike : exClsB K eUnlike = true)
    (iUnlike_BadRidge : PySem.W.kitOne K (.ref eUnlike) (.ref eBadRidge) = some false)
    (iUnlike_BadClimb : PySem.W.kitOne K (.ref eUnlike) (.ref eBadClimb) = some false)
    (iUnlike_BadRange : PySem.W.kitOne K (.ref eUnlike) (.ref eBadRange) = some false)
    (iUnlike_BadPlaces : PySem.W.kitOne K (.ref eUnlike) (.ref eBadPlaces) = some false)
    (iUnlike_BadMoves : PySem.W.kitOne K (.ref eUnlike) (.ref eBadMoves) = some false)
    (iUnlike_Unlike : PySem.W.kitOne K (.ref eUnlike) (.ref eUnlike) = some true)
    (iUnlike_ValueError : PySem.W.kitOne K (.ref eUnlike) (.type "ValueError") = some true)
    (hUnlike_RidgeError : PySem.W.exmOne K (.ref eUnlike) (.ref eRidgeError) = some true)
    (z_ValueError : PySem.W.nsIn K mainGlobals "ValueError" = some none)
    (z_all : PySem.W.nsIn K mainGlobals "all" = some none)
    (z_bool : PySem.W.nsIn K mainGlobals "bool" = some none)
    (z_int : PySem.W.nsIn K mainGlobals "int" = some none)
    (z_isinstance : PySem.W.nsIn K mainGlobals "isinstance" = some none)
    (z_len : PySem.W.nsIn K mainGlobals "len" = some none)
    (z_list : PySem.W.nsIn K mainGlobals "list" = some none)
    (z_max : PySem.W.nsIn K mainGlobals "max" = some none)
    (z_min : PySem.W.nsIn K mainGlobals "min" = some none)
    (z_reversed : PySem.W.nsIn K mainGlobals "reversed" = some none)
    (z_str : PySem.W.nsIn K mainGlobals "str" = some none)
    {eAnswer : Addr} (aAnswer : PySem.W.nsIn K mainGlobals "Answer" = some (some (.ref eAnswer)))
    {eWay : Addr} (aWay : PySem.W.nsIn K mainGlobals "Way" = some (some (.ref eWay)))
    {fWay_init : Addr} {odWay_init anWay_init : Option Addr} {slWay_init : Array (Option Value)} {ocWay_init kVWay_init dcWay_init pmWay_init cdWay_init ctWay_init : Value}
    (aWay_init : PySem.W.findIn K (.ref eWay) "__init__" = some (some (.ref fWay_init))) (iWay_init : PySem.W.isFn K (.ref fWay_init) = true) (lWay_init : K.lookup fWay_init = some ⟨ocWay_init, odWay_init, .func (PySem.W.fnOf "__init__" "Way.__init__" (defArgs s_Way_init) (defBody s_Way_init) (defScope s_Way_init) .none kVWay_init dcWay_init pmWay_init anWay_init cdWay_init ctWay_init), slWay_init⟩) (cWay_init : PySem.W.codeIn K cdWay_init "Way.__init__" = true) (kWay_init : PySem.W.keepIn K (.ref fWay_init) = true)
    (pgWay : PySem.W.plainGet K eWay Str.empty = true) (hdWay : PySem.W.hasDictIn K eWay = true) (poWay : PySem.W.plainOver K eWay = true) (saWay : PySem.W.findIn K (.ref eWay) "__setattr__" = some (some (.builtin "object.__setattr__"))) (mkWay : PySem.W.makesIn K eWay = true) (kcWay : PySem.W.keepIn K (.ref eWay) = true)
    (nWay_moves : PySem.W.findIn K (.ref eWay) "moves" = some none)
    {eShut : Addr} (aShut : PySem.W.nsIn K mainGlobals "Shut" = some (some (.ref eShut)))
    {fShut_init : Addr} {odShut_init anShut_init : Option Addr} {slShut_init : Array (Option Value)} {ocShut_init kVShut_init dcShut_init pmShut_init cdShut_init ctShut_init : Value}
    (aShut_init : PySem.W.findIn K (.ref eShut) "__init__" = some (some (.ref fShut_init))) (iShut_init : PySem.W.isFn K (.ref fShut_init) = true) (lShut_init : K.lookup fShut_init = some ⟨ocShut_init, odShut_init, .func (PySem.W.fnOf "__init__" "Shut.__init__" (defArgs s_Shut_init) (defBody s_Shut_init) (defScope s_Shut_init) .none kVShut_init dcShut_init pmShut_init anShut_init cdShut_init ctShut_init), slShut_init⟩) (cShut_init : PySem.W.codeIn K cdShut_init "Shut.__init__" = true) (kShut_init : PySem.W.keepIn K (.ref fShut_init) = true)
    (pgShut : PySem.W.plainGet K eShut Str.empty = true) (hdShut : PySem.W.hasDictIn K eShut = true) (poShut : PySem.W.plainOver K eShut = true) (saShut : PySem.W.findIn K (.ref eShut) "__setattr__" = some (some (.builtin "object.__setattr__"))) (mkShut : PySem.W.makesIn K eShut = true) (kcShut : PySem.W.keepIn K (.ref eShut) = true)
    (nShut_pairs : PySem.W.findIn K (.ref eShut) "pairs" = some none)
    : ∃ A, Txt P w K mg A := by
  have F0 := fun_mk (st := s_is_ridge) l0 c0 k0
  have b0 := F0.binds (ps := ["value"]) fun _ _ _ _ _ _ us hl => match us, hl with | [_], _ => rfl
  have F1 := fun_mk (st := s_check_ridge) l1 c1 k1
  have b1 := F1.binds (ps := ["value"]) fun _ _ _ _ _ _ us hl => match us, hl with | [_], _ => rfl
  have F2 := fun_mk (st := s_heights) l2 c2 k2
  have b2 := F2.binds (ps := ["ridge"]) fun _ _ _ _ _ _ us hl => match us, hl with | [_], _ => rfl
  have F3 := fun_mk (st := s_upside_down) l3 c3 k3
  have b3 := F3.binds (ps := ["ridge"]) fun _ _ _ _ _ _ us hl => match us, hl with | [_], _ => rfl
  have F4 := fun_mk (st := s_about) l4 c4 k4
  have b4 := F4.binds (ps := ["ridge"]) fun _ _ _ _ _ _ us hl => match us, hl with | [_], _ => rfl
  have F5 := fun_mk (st := s_is_place) l5 c5 k5
  have b5 := F5.binds (ps := ["levels", "value"]) fun _ _ _ _ _ _ us hl => match us, hl with | [_, _], _ => rfl
  have F6 := fun_mk (st := s_are_alike) l6 c6 k6
  have b6 := F6.binds (ps := ["levels", "other_levels", "first", "second"]) fun _ _ _ _ _ _ us hl => match us, hl with | [_, _, _, _], _ => rfl
  have F7 := fun_mk (st := s_check_places) l7 c7 k7
  have b7 := F7.binds (ps := ["levels", "other_levels", "first", "second"]) fun _ _ _ _ _ _ us hl => match us, hl with | [_, _, _, _], _ => rfl
  have F8 := fun_mk (st := s_led_to) l8 c8 k8
  have b8 := F8.binds (ps := ["first", "second", "move"]) fun _ _ _ _ _ _ us hl => match us, hl with | [_, _, _], _ => rfl
  have F9 := fun_mk (st := s_can_be_done) l9 c9 k9
  have b9 := F9.binds (ps := ["levels", "other_levels", "first", "second", "move"]) fun _ _ _ _ _ _ us hl => match us, hl with | [_, _, _, _, _], _ => rfl
  have F10 := fun_mk (st := s_moves_at) l10 c10 k10
  have b10 := F10.binds (ps := ["one", "other", "first", "second"]) fun _ _ _ _ _ _ us hl => match us, hl with | [_, _, _, _], _ => rfl
  have F11 := fun_mk (st := s_is_move) l11 c11 k11
  have b11 := F11.binds (ps := ["value"]) fun _ _ _ _ _ _ us hl => match us, hl with | [_], _ => rfl
  have F12 := fun_mk (st := s_check_moves) l12 c12 k12
  have b12 := F12.binds (ps := ["values"]) fun _ _ _ _ _ _ us hl => match us, hl with | [_], _ => rfl
  have F13 := fun_mk (st := s_thinned) l13 c13 k13
  have b13 := F13.binds (ps := ["moves"]) fun _ _ _ _ _ _ us hl => match us, hl with | [_], _ => rfl
  have F14 := fun_mk (st := s_explored) l14 c14 k14
  have b14 := F14.binds (ps := ["levels", "other_levels", "goal"]) fun _ _ _ _ _ _ us hl => match us, hl with | [_, _, _], _ => rfl
  have F15 := fun_mk (st := s_explored_next) l15 c15 k15
  have b15 := F15.binds (ps := ["levels", "other_levels", "newest", "came_by"]) fun _ _ _ _ _ _ us hl => match us, hl with | [_, _, _, _], _ => rfl
  have F16 := fun_mk (st := s_moves_to) l16 c16 k16
  have b16 := F16.binds (ps := ["goal", "came_by"]) fun _ _ _ _ _ _ us hl => match us, hl with | [_, _], _ => rfl
  have F17 := fun_mk (st := s_reached) l17 c17 k17
  have b17 := F17.binds (ps := ["one", "other", "first", "second"]) fun _ _ _ _ _ _ us hl => match us, hl with | [_, _, _, _], _ => rfl
  have F18 := fun_mk (st := s_height_of_top) l18 c18 k18
  have b18 := F18.binds (ps := ["climb"]) fun _ _ _ _ _ _ us hl => match us, hl with | [_], _ => rfl
  have F19 := fun_mk (st := s_check_alike) l19 c19 k19
  have b19 := F19.binds (ps := ["tops"]) fun _ _ _ _ _ _ us hl => match us, hl with | [_], _ => rfl
  have F20 := fun_mk (st := s_together) l20 c20 k20
  have b20 := F20.binds (ps := ["one", "other"]) fun _ _ _ _ _ _ us hl => match us, hl with | [_, _], _ => rfl
  have F21 := fun_mk (st := s_check_climbs) l21 c21 k21
  have b21 := F21.binds (ps := ["values"]) fun _ _ _ _ _ _ us hl => match us, hl with | [_], _ => rfl
  have F22 := fun_mk (st := s_gone_along) l22 c22 k22
  have b22 := F22.binds (ps := ["line", "word"]) fun _ _ _ _ _ _ us hl => match us, hl with | [_, _], _ => rfl
  have F23 := fun_mk (st := s_in_unison) l23 c23 k23
  have b23 := F23.binds (ps := ["climbs"]) fun _ _ _ _ _ _ us hl => match us, hl with | [_], _ => rfl
  have F24 := fun_mk (st := s_check_range) l24 c24 k24
  have b24 := F24.binds (ps := ["levels"]) fun _ _ _ _ _ _ us hl => match us, hl with | [_], _ => rfl
  have F25 := fun_mk (st := s_meeting) l25 c25 k25
  have b25 := F25.binds (ps := ["ridge"]) fun _ _ _ _ _ _ us hl => match us, hl with | [_], _ => rfl
  have F26 := fun_mk (st := s_changed) l26 c26 k26
  have b26 := F26.binds (ps := ["ridge"]) fun _ _ _ _ _ _ us hl => match us, hl with | [_], _ => rfl
  have F27 := fun_mk (st := s_law_ridge_asked) l27 c27 k27
  have b27 := F27.binds (ps := ["_law_which", "_law_more"]) fun _ _ _ _ _ _ us hl => match us, hl with | [_, _], _ => rfl
  have F28 := fun_mk (st := s_law_climb_asked) l28 c28 k28
  have b28 := F28.binds (ps := ["_law_which", "_law_more"]) fun _ _ _ _ _ _ us hl => match us, hl with | [_, _], _ => rfl
  have F29 := fun_mk (st := s_law_places_asked) l29 c29 k29
  have b29 := F29.binds (ps := ["_law_which", "_law_more"]) fun _ _ _ _ _ _ us hl => match us, hl with | [_, _], _ => rfl
  have F30 := fun_mk (st := s_law_others_asked) l30 c30 k30
  have b30 := F30.binds (ps := ["_law_kind", "_law_which", "_law_more"]) fun _ _ _ _ _ _ us hl => match us, hl with | [_, _, _], _ => rfl
  have F31 := fun_mk (st := s_law_told) l31 c31 k31
  have b31 := F31.binds (ps := ["_law_kind", "_law_which", "_law_more"]) fun _ _ _ _ _ _ us hl => match us, hl with | [_, _, _], _ => rfl
  have F32 := fun_mk (st := s_law) l32 c32 k32
  have b32 := F32.binds (ps := ["_law_script"]) fun _ _ _ _ _ _ us hl => match us, hl with | [_], _ => rfl
  have FWay_init := fun_mk (st := s_Way_init) lWay_init cWay_init kWay_init
  have bWay_init := FWay_init.binds (ps := ["self", "moves"]) fun _ _ _ _ _ _ us hl => match us, hl with | [_, _], _ => rfl
  have FShut_init := fun_mk (st := s_Shut_init) lShut_init cShut_init kShut_init
  have bShut_init := FShut_init.binds (ps := ["self", "pairs"]) fun _ _ _ _ _ _ us hl => match us, hl with | [_, _], _ => rfl
  exact ⟨⟨f0, _, f1, _, f2, _, f3, _, f4, _, f5, _, f6, _, f7, _, f8, _, f9, _, f10, _, f11, _, f12, _, f13, _, f14, _, f15, _, f16, _, f17, _, f18, _, f19, _, f20, _, f21, _, f22, _, f23, _, f24, _, f25, _, f26, _, f27, _, f28, _, f29, _, f30, _, f31, _, f32, _, eEXCHANGED, eMOVES, eTAKEN_BACK, eSTEPS, eUNDONE, fWay_init, _, fShut_init, _, eAnswer, eWay, eShut, eRidgeError, eBadRidge, eBadClimb, eBadRange, eBadPlaces, eBadMoves, eUnlike⟩, PySem.W.mg_none_of X G z_ValueError, PySem.W.mg_none_of X G z_all, PySem.W.mg_none_of X G z_bool, PySem.W.mg_none_of X G z_int, PySem.W.mg_none_of X G z_isinstance, PySem.W.mg_none_of X G z_len, PySem.W.mg_none_of X G z_list, PySem.W.mg_none_of X G z_max, PySem.W.mg_none_of X G z_min, PySem.W.mg_none_of X G z_reversed, PySem.W.mg_none_of X G z_str, PySem.W.mg_of X G a0, k0, F0, b0, PySem.W.mg_of X G a1, k1, F1, b1, PySem.W.mg_of X G a2, k2, F2, b2, PySem.W.mg_of X G a3, k3, F3, b3, PySem.W.mg_of X G a4, k4, F4, b4, PySem.W.mg_of X G a5, k5, F5, b5, PySem.W.mg_of X G a6, k6, F6, b6, PySem.W.mg_of X G a7, k7, F7, b7, PySem.W.mg_of X G a8, k8, F8, b8, PySem.W.mg_of X G a9, k9, F9, b9, PySem.W.mg_of X G a10, k10, F10, b10, PySem.W.mg_of X G a11, k11, F11, b11, PySem.W.mg_of X G a12, k12, F12, b12, PySem.W.mg_of X G a13, k13, F13, b13, PySem.W.mg_of X G a14, k14, F14, b14, PySem.W.mg_of X G a15, k15, F15, b15, PySem.W.mg_of X G a16, k16, F16, b16, PySem.W.mg_of X G a17, k17, F17, b17, PySem.W.mg_of X G a18, k18, F18, b18, PySem.W.mg_of X G a19, k19, F19, b19, PySem.W.mg_of X G a20, k20, F20, b20, PySem.W.mg_of X G a21, k21, F21, b21, PySem.W.mg_of X G a22, k22, F22, b22, PySem.W.mg_of X G a23, k23, F23, b23, PySem.W.mg_of X G a24, k24, F24, b24, PySem.W.mg_of X G a25, k25, F25, b25, PySem.W.mg_of X G a26, k26, F26, b26, PySem.W.mg_of X G a27, k27, F27, b27, PySem.W.mg_of X G a28, k28, F28, b28, PySem.W.mg_of X G a29, k29, F29, b29, PySem.W.mg_of X G a30, k30, F30, b30, PySem.W.mg_of X G a31, k31, F31, b31, PySem.W.mg_of X G a32, k32, F32, b32, PySem.W.mg_of X G aEXCHANGED, fun h' X' => PySem.W.kt_tab_in P w X' tEXCHANGED (by decide +kernel) hEXCHANGED, PySem.W.mg_of X G aMOVES, fun H => .inr ⟨_, _, _, lMOVES, rfl, rfl, zMOVES, vMOVES⟩, PySem.W.mg_of X G aTAKEN_BACK, fun h' X' => PySem.W.kt_tab_in P w X' tTAKEN_BACK (by decide +kernel) hTAKEN_BACK, PySem.W.mg_of X G aSTEPS, fun h' X' => PySem.W.kt_tab_in P w X' tSTEPS (by decide +kernel) hSTEPS, PySem.W.mg_of X G aUNDONE, fun h' X' => PySem.W.kt_tab_in P w X' tUNDONE (by decide +kernel) hUNDONE, PySem.W.mg_of X G aRidgeError, PySem.W.mg_of X G aBadRidge, PySem.W.mg_of X G aBadClimb, PySem.W.mg_of X G aBadRange, PySem.W.mg_of X G aBadPlaces, PySem.W.mg_of X G aBadMoves, PySem.W.mg_of X G aUnlike, xBadRidge, exCls_of yBadRidge, iBadRidge_BadRidge, iBadRidge_BadClimb, iBadRidge_BadRange, iBadRidge_BadPlaces, iBadRidge_BadMoves, iBadRidge_Unlike, iBadRidge_ValueError, hBadRidge_RidgeError, xBadClimb, exCls_of yBadClimb, iBadClimb_BadRidge, iBadClimb_BadClimb, iBadClimb_BadRange, iBadClimb_BadPlaces, iBadClimb_BadMoves, iBadClimb_Unlike, iBadClimb_ValueError, hBadClimb_RidgeError, xBadRange, exCls_of yBadRange, iBadRange_BadRidge, iBadRange_BadClimb, iBadRange_BadRange, iBadRange_BadPlaces, iBadRange_BadMoves, iBadRange_Unlike, iBadRange_ValueError, hBadRange_RidgeError, xBadPlaces, exCls_of yBadPlaces, iBadPlaces_BadRidge, iBadPlaces_BadClimb, iBadPlaces_BadRange, iBadPlaces_BadPlaces, iBadPlaces_BadMoves, iBadPlaces_Unlike, iBadPlaces_ValueError, hBadPlaces_RidgeError, xBadMoves, exCls_of yBadMoves, iBadMoves_BadRidge, iBadMoves_BadClimb, iBadMoves_BadRange, iBadMoves_BadPlaces, iBadMoves_BadMoves, iBadMoves_Unlike, iBadMoves_ValueError, hBadMoves_RidgeError, xUnlike, exCls_of yUnlike, iUnlike_BadRidge, iUnlike_BadClimb, iUnlike_BadRange, iUnlike_BadPlaces, iUnlike_BadMoves, iUnlike_Unlike, iUnlike_ValueError, hUnlike_RidgeError, PySem.W.mg_of X G aAnswer, PySem.W.mg_of X G aWay, ⟨pgWay, hdWay, poWay, saWay⟩, ⟨mkWay, aWay_init, iWay_init, kcWay⟩, nWay_moves, PySem.W.mg_of X G aShut, ⟨pgShut, hdShut, poShut, saShut⟩, ⟨mkShut, aShut_init, iShut_init, kcShut⟩, nShut_pairs, FWay_init, bWay_init, FShut_init, bShut_init⟩
end K09
set_option Elab.async false
set_option linter.all false
set_option maxRecDepth 100000
set_option maxHeartbeats 4000000
namespace K09
open PySem PySem.Spec PyProof.Rows L2 UM UT
theorem TyOf.same {K : PySem.W.Frag} {H H' : Hp} {v : V} {t : Value} (h : TyOf K H v t) (s : Same H H') : TyOf K H' v t := by
  cases h with
  | non => exact .non
  | bl x => exact .bl x
  | int i => exact .int i
  | str x => exact .str x
  | flt x => exact .flt x
  | lst e => exact .lst (s _ _ e)
  | frz e => exact .frz (s _ _ e)
  | tup e => exact .tup (s _ _ e)
  | dK e => exact .dK (s _ _ e)
  | dT e => exact .dT (s _ _ e)
  | ins e cl ha hn htk hm => exact .ins (s _ _ e) cl ha hn htk hm
def NoT (K : PySem.W.Frag) (n : String) (H : Hp) (v : V) : Prop := ∃ t, TyOf K H v t ∧ PySem.W.kitOne K t (.type n) = some false
theorem NoT.same {K : PySem.W.Frag} {n : String} {H H' : Hp} {v : V} (h : NoT K n H v) (s : Same H H') : NoT K n H' v := let ⟨t, a, b⟩ := h; ⟨t, TyOf.same a s, b⟩
def NoR (K : PySem.W.Frag) (H : Hp) (v : V) : Prop := NoT K "str" H v ∨ ∃ z : Str, v = .str z ∧ z.length ≤ sizeLine ∧ Txt.count z "u" + Txt.count z "d" ≠ (z.length : Int)
theorem NoR.same {K : PySem.W.Frag} {H H' : Hp} {v : V} (h : NoR K H v) (s : Same H H') : NoR K H' v := h.elim (fun q => .inl (q.same s)) .inr
def spBadR (K : PySem.W.Frag) (C : Addr) : Sp := fun vs H _ E => ∃ v, vs = [v] ∧ NoR K H v ∧ ∀ H', Same H H' → E (.ref C) none H'
def sp_is_ridge (K : PySem.W.Frag) : Sp := fun vs H Q _ => ∃ v, vs = [v] ∧ ((∃ R, v = .str (rt R) ∧ R.length ≤ 16000000 ∧ Q (.bl true) H) ∨ (NoR K H v ∧ Q (.bl false) H))
def sp_check_ridge (K : PySem.W.Frag) (C : Addr) : Sp := fun vs H Q E => ∃ v, vs = [v] ∧ ((∃ R, v = .str (rt R) ∧ R.length ≤ 16000000 ∧ Q .non H) ∨ (NoR K H v ∧ E (.ref C) none H))
def spG_heights : Sp := fun vs H Q _ => ∃ R, vs = [.str (rt R)] ∧ R.length ≤ 16000000 ∧ ∀ p H', H p = none → Same H H' → H' p = some (.lst ((hts 0 R).map V.int)) → Q (.ref p) H'
def sp_heights (K : PySem.W.Frag) (C : Addr) : Sp := fun vs H Q E => spG_heights vs H Q E ∨ spBadR K C vs H Q E
section
variable {P : Program} {w : World} {K : PySem.W.Frag} {mg : Str → Option Value} {base : Heap} {A : Adr}
theorem ok_is_ridge (T : Txt P w K mg A) : FnOk P w K mg base CX0 1 A.a_is_ridge A.d_is_ridge ["value"] (sp_is_ridge K) := by
  refine T.F_is_ridge.ok sc_is_ridge (fun vs H Q E h => ?_) (fun cdv Ar outer s H vs Q E hr h => ?_)
  · obtain ⟨v, rfl, _⟩ := h
    rfl
  · obtain ⟨v, rfl, h⟩ := h
    have hu := hu_of hr
    refine ⟨_, (pss_one (ps_ret (pe_and (pe_callB call_isinst rfl T.b_isinstance boot_isinstance (pa_cons (pv 0) (pa_cons (pe_bltn (v := .ty "str") rfl T.b_str boot_str rfl) pa_nil))) (pe_one (pe_cmpR op_eq (pe_op op_add (pe_bm PySem.F.plainAttrs_str PySem.F.slot_str_count PySem.F.type_str_count mt_count (pv 0) (pa_cons pe_str pa_nil)) (pe_bm PySem.F.plainAttrs_str PySem.F.slot_str_count PySem.F.type_str_count mt_count (pv 0) (pa_cons pe_str pa_nil))) (pe_callB call_lenV rfl T.b_len boot_len (pa_cons (pv 0) pa_nil)) (nomark _)))))), ?_⟩
    rcases h with ⟨R, rfl, hR, q⟩ | ⟨⟨t, ty, hk⟩ | ⟨z, rfl, hz, hn⟩, q⟩
    · refine ⟨_, rfl, _, _, _, _, rfl, .str _, rfl, _, rfl, iteT ?_⟩
      refine ⟨_, rfl, rfl, _, _, rfl, rfl, _, rfl, rfl, _, _, rfl, rfl, _, _, rfl, rfl, _, rfl, _, _, rfl, ⟨by rw [rt_length]; exact bigM hR, rfl⟩, rfl, ?_⟩
      have e : decide (V.int (Txt.count (rt R) "u" + Txt.count (rt R) "d") = V.int ((rt R).length : Int)) = true := by
        refine decide_eq_true ?_
        have e1 : Txt.count (rt R) "u" = ((R.map cd).count 117 : Nat) := count_one _ _
        have e2 : Txt.count (rt R) "d" = ((R.map cd).count 100 : Nat) := count_one _ _
        rw [e1, e2, rt_length, ← count_rt R]
        congr 1
      rw [e]
      exact q
    · exact ⟨_, rfl, _, _, _, _, rfl, ty, hk, _, rfl, iteF q⟩
    · refine ⟨_, rfl, _, _, _, _, rfl, .str _, rfl, _, rfl, iteT ?_⟩
      refine ⟨_, rfl, rfl, _, _, rfl, rfl, _, rfl, rfl, _, _, rfl, rfl, _, _, rfl, rfl, _, rfl, _, _, rfl, ⟨hz, rfl⟩, rfl, ?_⟩
      have e : decide (V.int (Txt.count z "u" + Txt.count z "d") = V.int (z.length : Int)) = false := decide_eq_false fun y => hn (V.int.inj y)
      rw [e]
      exact q
theorem ok_check_ridge (T : Txt P w K mg A) : FnOk P w K mg base (CXf P w) 2 A.a_check_ridge A.d_check_ridge ["value"] (sp_check_ridge K A.c_BadRidge) := by
  have G_is_ridge : FnOk P w K mg base CX0 1 A.a_is_ridge A.d_is_ridge ["value"] (sp_is_ridge K) := ok_is_ridge T
  refine T.F_check_ridge.okX sc_check_ridge (fun vs H Q E h => ?_) (fun cdv Ar outer s H vs Q E hr h => ?_)
  · obtain ⟨v, rfl, _⟩ := h
    rfl
  · obtain ⟨v, rfl, h⟩ := h
    have hu := hu_of hr
    refine ⟨_, (pss_one (ps_if (pt_not (pt_val (pe_call G_is_ridge (hr.mono (by decide)) rfl T.m_is_ridge T.k_is_ridge T.B_is_ridge .nil pass0 (pa_cons (pv 0) pa_nil))))
      (pss_one (ps_raise lets_def rfl rfl T.m_BadRidge T.x_BadRidge (pa_cons pe_str pa_nil)))
      pss_nil)), ?_⟩
    rcases h with ⟨R, rfl, hR, q⟩ | ⟨hn, q⟩
    · exact ⟨_, rfl, _, rfl, .inl ⟨R, rfl, hR, _, rfl, iteF q⟩⟩
    · exact ⟨_, rfl, _, rfl, .inr ⟨hn, _, rfl, iteT ⟨by show 1 ≤ sizeLine; decide, q⟩⟩⟩
theorem ok_heights (T : Txt P w K mg A) : FnOk P w K mg base (CXf P w) 3 A.a_heights A.d_heights ["ridge"] (sp_heights K A.c_BadRidge) := by
  have G_check_ridge : FnOk P w K mg base (CXf P w) 2 A.a_check_ridge A.d_check_ridge ["value"] (sp_check_ridge K A.c_BadRidge) := ok_check_ridge T
  refine T.F_heights.okX sc_heights (fun vs H Q E h => ?_) (fun cdv Ar outer s H vs Q E hr h => ?_)
  · rcases h with ⟨R, rfl, _⟩ | ⟨v, rfl, _⟩ <;> rfl
  · have hu := hu_of hr
    refine ⟨_, (pss_cons (ps_expr (pe_call G_check_ridge (hr.mono (by decide)) rfl T.m_check_ridge T.k_check_ridge T.B_check_ridge .nil (passes_of rfl rfl lets_def) (pa_cons (pv 0) pa_nil)))
    (pss_cons (ps_set (i := 1) sc_heights.nd rfl (Or.inl rfl) pe_int)
    (pss_cons (ps_set (i := 2) sc_heights.nd rfl (Or.inl rfl) (pe_lst (pa_cons (pv 1) pa_nil)))
    (pss_cons (PS.nox <| ps_for PassesOwn.never rfl (pi_str (pv 0)) (pg_name (i := 3) sc_heights.nd rfl (Or.inl rfl))
      (pss_cons (ps_set (i := 1) sc_heights.nd rfl (Or.inl rfl) (pe_ifExp (pt_cmpR op_eq (pv 3) pe_str (nomark _)) (pe_op op_add (pv 1) pe_int) (pe_op op_sub (pv 1) pe_int)))
      (pss_one (ps_expr (pe_bm PySem.F.plainAttrs_list PySem.F.slot_list_append PySem.F.type_list_append mt_append (pv 2) (pa_cons (pv 1) pa_nil))))))
    (pss_one (ps_ret (pv 2))))))), ?_⟩
    rcases h with ⟨R, rfl, hR, k⟩ | ⟨v, rfl, hn, k⟩
    rotate_left
    · exact ⟨_, rfl, _, rfl, .inr ⟨hn, k H (Same.refl _)⟩⟩
    refine ⟨_, rfl, _, rfl, .inl ⟨R, rfl, hR, ?_⟩⟩
    refine ⟨_, rfl, (by decide), fun p hp => ?_⟩
    refine ⟨_, rfl, _, rfl, for_each (ItOf.str (rt R)) (fun rest σ H2 => ∃ (h : Int) (pre : List Int) (r : List Bool) (z : Option V), rest = (r.map fun b => sg (cd b)) ∧ σ = [some (.str (rt R)), some (.int h), some (.ref p), z] ∧ hts 0 R = pre ++ hts h r ∧ Same H H2 ∧ H2 p = some (.lst ((pre ++ [h]).map V.int)))
      ⟨0, [], R, none, sgs_rt R, rfl, rfl, same_upd hp, upd_same⟩ (fun _ _ _ _ => True.intro) ?_ ?_⟩
    · rintro x rest σ H2 ⟨h, pre, r, z, e, rfl, hh, s2, e2⟩
      cases r with
      | nil => cases e
      | cons b r =>
        obtain ⟨rfl, rfl⟩ := List.cons.inj e
        have hl := hts_split hR hh
        rw [List.length_cons] at hl
        refine ⟨_, rfl, rfl, _, rfl, ?_⟩
        refine ite2 (fun hc => ?_) (fun hc => ?_)
        · have hb : b = true := by rw [← sg_u b]; exact hc
          subst hb
          refine ⟨_, rfl, _, _, rfl, rfl, ?_⟩
          refine ⟨_, rfl, .inl ⟨rfl, _, SqL.of e2⟩, _, rfl, _, _, _, rfl, rfl, e2, smallM (by rw [List.length_map, List.length_append, List.length_singleton]; omega), ?_⟩
          refine ⟨h + 1, pre ++ [h], r, _, rfl, rfl, ?_, s2.upd hp rfl, ?_⟩
          · rw [hh, List.append_assoc]; rfl
          · rw [upd_same, List.map_append (l₁ := pre ++ [h])]; rfl
        · have hb : b = false := by
            have := sg_u b
            cases b with
            | true => exact absurd this hc
            | false => rfl
          subst hb
          refine ⟨_, rfl, _, _, rfl, rfl, ?_⟩
          refine ⟨_, rfl, .inl ⟨rfl, _, SqL.of e2⟩, _, rfl, _, _, _, rfl, rfl, e2, smallM (by rw [List.length_map, List.length_append, List.length_singleton]; omega), ?_⟩
          refine ⟨h - 1, pre ++ [h], r, _, rfl, rfl, ?_, s2.upd hp rfl, ?_⟩
          · rw [hh, List.append_assoc]; rfl
          · rw [upd_same, List.map_append (l₁ := pre ++ [h])]; rfl
    · rintro σ H2 ⟨h, pre, r, z, e, rfl, hh, s2, e2⟩
      cases r with
      | cons b r => cases e
      | nil => exact ⟨_, rfl, k p H2 hp s2 (by rw [hh]; exact e2)⟩
def spG_upside_down : Sp := fun vs H Q _ => ∃ R, vs = [.str (rt R)] ∧ R.length ≤ 16000000 ∧ ∀ H', Same H H' → Q (.str (rt (R.map not))) H'
def sp_upside_down (K : PySem.W.Frag) (C : Addr) : Sp := fun vs H Q E => spG_upside_down vs H Q E ∨ spBadR K C vs H Q E
def spG_about : Sp := fun vs H Q _ => ∃ R, vs = [.str (rt R)] ∧ R.length ≤ 16000000 ∧ ∀ H', Same H H' → Q (.str (rt (R.map not).reverse)) H'
def sp_about (K : PySem.W.Frag) (C : Addr) : Sp := fun vs H Q E => spG_about vs H Q E ∨ spBadR K C vs H Q E
def exV : V → V := fun v => if v = .str "u" then .str "d" else .str "u"
theorem exV_sg (b : Bool) : exV (sg (cd b)) = sg (cd (!b)) := by cases b <;> decide +kernel
theorem exch (b : Bool) : PySem.Spec.lookup (.str (⟨#[cd b]⟩ : Str)) ([(("u" : Str), PyData.str "d"), ("d", .str "u")].map fun p => (PyData.str p.1, p.2)) = some (.str (⟨#[cd (!b)]⟩ : Str)) := by cases b <;> rfl
theorem mem_sgs {x : V} {R : List Bool} (h : x ∈ sgs (rt R)) : ∃ b, x = sg (cd b) := by
  rw [sgs_rt] at h
  obtain ⟨b, _, rfl⟩ := List.mem_map.mp h
  exact ⟨b, rfl⟩
theorem ok_upside_down (T : Txt P w K mg A) : FnOk P w K mg base (CXf P w) 3 A.a_upside_down A.d_upside_down ["ridge"] (sp_upside_down K A.c_BadRidge) := by
  have G_check_ridge : FnOk P w K mg base (CXf P w) 2 A.a_check_ridge A.d_check_ridge ["value"] (sp_check_ridge K A.c_BadRidge) := ok_check_ridge T
  refine T.F_upside_down.okX sc_upside_down (fun vs H Q E h => ?_) (fun cdv Ar outer s H vs Q E hr h => ?_)
  · rcases h with ⟨R, rfl, _⟩ | ⟨v, rfl, _⟩ <;> rfl
  · have hu := hu_of hr
    refine ⟨_, (pss_cons (ps_expr (pe_call G_check_ridge (hr.mono (by decide)) rfl T.m_check_ridge T.k_check_ridge T.B_check_ridge .nil (passes_of rfl rfl lets_def) (pa_cons (pv 0) pa_nil)))
    (pss_one (ps_ret (pe_bm PySem.F.plainAttrs_str PySem.F.slot_str_join PySem.F.type_str_join mt_join pe_str (pa_cons (pe_comp (te := (tOp (rIxG P w K) (tC (.ref A.g_EXCHANGED)) (tVar 0))) c0_upside_down rfl (pi_str (pv 0)) (fun cl C s' H' fp => pifs_nil) (fun cl C s' H' fp => (pe_ix ix_gtab (pe_glob (v := .ref A.g_EXCHANGED) rfl T.m_EXCHANGED rfl) (pv 0) (fun _ _ => rfl)))) pa_nil))))), ?_⟩
    rcases h with ⟨R, rfl, hR, k⟩ | ⟨v, rfl, hn, k⟩
    rotate_left
    · exact ⟨_, rfl, _, rfl, .inr ⟨hn, k H (Same.refl _)⟩⟩
    refine ⟨_, rfl, _, rfl, .inl ⟨R, rfl, hR, ?_⟩⟩
    refine ⟨rfl, _, rfl, _, rfl, comp_map (ItOf.str (rt R)) exV (bigM (by rw [sgs_rt, List.length_map]; exact hR)) (fun _ _ => True.intro) (fun x hx H2 s2 Rk kk => ?_) (fun D H2 hD s2 e => ?_)⟩
    · obtain ⟨b, rfl⟩ := mem_sgs hx
      refine ⟨_, rfl, _, _, _, _, rfl, rfl, T.t_EXCHANGED, exch b, ?_⟩
      have q := kk H2 (Same.refl _)
      rw [exV_sg] at q
      exact q
    · have el : (sgs (rt R)).map exV = ((R.map not).map cd).map sg := by
        rw [sgs_rt, List.map_map, List.map_map, List.map_map]
        apply List.map_congr_left
        intro b _
        exact exV_sg b
      rw [el] at e
      exact join_sgs e (by rw [List.length_map, List.length_map]; omega) (k H2 s2)
theorem rev_rt (R : List Bool) : revS (rt R) = rt R.reverse := by
  unfold revS rt tx
  rw [List.map_reverse]
theorem ok_about (T : Txt P w K mg A) : FnOk P w K mg base (CXf P w) 4 A.a_about A.d_about ["ridge"] (sp_about K A.c_BadRidge) := by
  have G_upside_down : FnOk P w K mg base (CXf P w) 3 A.a_upside_down A.d_upside_down ["ridge"] (sp_upside_down K A.c_BadRidge) := ok_upside_down T
  refine T.F_about.okX sc_about (fun vs H Q E h => ?_) (fun cdv Ar outer s H vs Q E hr h => ?_)
  · rcases h with ⟨R, rfl, _⟩ | ⟨v, rfl, _⟩ <;> rfl
  · have hu := hu_of hr
    refine ⟨_, (pss_one (ps_ret (pe_rev (pe_call G_upside_down (hr.mono (by decide)) rfl T.m_upside_down T.k_upside_down T.B_upside_down .nil (passes_of rfl rfl lets_def) (pa_cons (pv 0) pa_nil))))), ?_⟩
    rcases h with ⟨R, rfl, hR, k⟩ | ⟨v, rfl, hn, k⟩
    · refine ⟨_, rfl, .inl ⟨R, rfl, hR, fun H' s' => .inl ⟨_, rfl, ?_, ?_⟩⟩⟩
      · rw [rt_length, List.length_map]; exact bigM hR
      · rw [rev_rt]; exact k H' s'
    · exact ⟨_, rfl, .inr ⟨v, rfl, hn, k⟩⟩
inductive PlV (K : PySem.W.Frag) (H : Hp) (n : Nat) : V → Bool → Prop
  | int (i : Int) : PlV K H n (.int i) (decide (0 ≤ i) && decide (i < (n : Int)))
  | bl (c : Bool) : PlV K H n (.bl c) false
  | oth {v : V} (h : NoT K "int" H v) : PlV K H n v false
theorem PlV.same {K : PySem.W.Frag} {H H' : Hp} {n : Nat} {v : V} {b : Bool} (h : PlV K H n v b) (s : Same H H') : PlV K H' n v b := by
  cases h with
  | int i => exact .int i
  | bl c => exact .bl c
  | oth h => exact .oth (h.same s)
def sp_is_place (K : PySem.W.Frag) : Sp := fun vs H Q _ => ∃ a xs v b, vs = [.ref a, v] ∧ SqL K H a (List.map V.int xs) ∧ PlV K H xs.length v b ∧ Q (.bl b) H
def sp_are_alike (K : PySem.W.Frag) : Sp := fun vs H Q _ => ∃ a b xs ys i j, vs = [.ref a, .ref b, .int i, .int j] ∧ SqL K H a (List.map V.int xs) ∧ SqL K H b (List.map V.int ys) ∧ Q (.bl (alike xs ys i j)) H
def sp_led_to : Sp := fun vs H Q _ => ∃ i j m, vs = [.int i, .int j, mvV m] ∧ ∀ t, H t = none → Q (.ref t) (upd H t (.tup (pt2 (adv (i, j) m))))
theorem ok_is_place (T : Txt P w K mg A) : FnOk P w K mg base CX0 1 A.a_is_place A.d_is_place ["levels", "value"] (sp_is_place K) := by
  refine T.F_is_place.ok sc_is_place (fun vs H Q E h => ?_) (fun cdv Ar outer s H vs Q E hr h => ?_)
  · obtain ⟨a, xs, v, b, rfl, _⟩ := h
    rfl
  · obtain ⟨a, xs, v, b, rfl, hx, hp, q⟩ := h
    have hu := hu_of hr
    refine ⟨_, (pss_one (ps_ret (pe_and (pe_callB call_isinst rfl T.b_isinstance boot_isinstance (pa_cons (pv 1) (pa_cons (pe_bltn (v := .ty "int") rfl T.b_int boot_int rfl) pa_nil))) (pe_and (pe_not (pe_callB call_isinst rfl T.b_isinstance boot_isinstance (pa_cons (pv 1) (pa_cons (pe_bltn (v := .ty "bool") rfl T.b_bool boot_bool rfl) pa_nil)))) (pe_one (pe_chain op_le op_lt pe_int (pv 1) (pe_callB call_lenV rfl T.b_len boot_len (pa_cons (pv 0) pa_nil)))))))), ?_⟩
    cases hp with
    | oth h =>
      obtain ⟨t, ty, hk⟩ := h
      exact ⟨_, rfl, _, _, _, _, rfl, ty, hk, _, rfl, iteF q⟩
    | bl c =>
      refine ⟨_, rfl, _, _, _, _, rfl, .bl _, rfl, _, rfl, iteT ?_⟩
      exact ⟨_, rfl, _, _, _, _, rfl, .bl _, rfl, _, rfl, _, rfl, iteF q⟩
    | int i =>
      refine ⟨_, rfl, _, _, _, _, rfl, .int _, rfl, _, rfl, iteT ?_⟩
      refine ⟨_, rfl, _, _, _, _, rfl, .int _, rfl, _, rfl, _, rfl, iteT ?_⟩
      refine ⟨_, rfl, _, _, rfl, rfl, _, rfl, ?_⟩
      refine ite2 (fun hc => ?_) (fun hc => ?_)
      · refine ⟨_, rfl, _, _, rfl, .inl ⟨_, hx, rfl⟩, _, _, rfl, rfl, ?_⟩
        rw [hc, Bool.true_and] at q
        rw [List.length_map]
        exact q
      · have hc : decide (0 ≤ i) = false := by simpa using hc
        rw [hc, Bool.false_and] at q
        exact q
theorem place_in {xs : List Int} {i : Int} (h : (decide (0 ≤ i) && decide (i < (xs.length : Int))) = true) : ∃ x, plc xs i = some x := by
  rw [Bool.and_eq_true] at h
  obtain ⟨x, e, _⟩ := plc_some (of_decide_eq_true h.1) (of_decide_eq_true h.2)
  exact ⟨x, e⟩
theorem place_out {xs : List Int} {i : Int} (h : (decide (0 ≤ i) && decide (i < (xs.length : Int))) = false) : plc xs i = none := by
  cases e : plc xs i with
  | none => rfl
  | some x =>
    obtain ⟨_, h0, h1⟩ := plc_at e
    rw [decide_eq_true h0, decide_eq_true h1] at h
    cases h
theorem ok_are_alike (T : Txt P w K mg A) : FnOk P w K mg base CX0 2 A.a_are_alike A.d_are_alike ["levels", "other_levels", "first", "second"] (sp_are_alike K) := by
  refine (T.F_are_alike.ok (k := 0) sc_are_alike (fun vs H Q E h => ?_) (fun cdv Ar outer s H vs Q E hr h => ?_)).mono (by decide)
  · obtain ⟨a, b, xs, ys, i, j, rfl, _⟩ := h
    rfl
  · obtain ⟨a, b, xs, ys, i, j, rfl, hx, hy, q⟩ := h
    have hu := hu_of hr
    refine ⟨_, (pss_cons (ps_if (PW.pt (pw_or (pt_not (pt_chain op_le op_lt pe_int (pv 2) (pe_callB call_lenV rfl T.b_len boot_len (pa_cons (pv 0) pa_nil)))) (pw_or1 (pt_not (pt_chain op_le op_lt pe_int (pv 3) (pe_callB call_lenV rfl T.b_len boot_len (pa_cons (pv 1) pa_nil)))))))
      (pss_one (ps_ret pe_bl))
      pss_nil)
    (pss_one (ps_ret (pe_cmpR op_eq (pe_ix ix_list (pv 0) (pv 2) (fun _ _ => rfl)) (pe_ix ix_list (pv 1) (pv 3) (fun _ _ => rfl)) (nomark _))))), ?_⟩
    refine rd_place (n := 2) (m := 0) rfl rfl hx ?_
    rw [List.length_map]
    cases c1 : decide (0 ≤ i) && decide (i < (xs.length : Int)) with
    | false =>
      refine iteT (iteT ?_)
      unfold alike at q
      rw [place_out c1, eqo_n] at q
      exact q
    | true =>
      obtain ⟨x, ex⟩ := place_in c1
      refine iteF ?_
      refine rd_place (n := 3) (m := 1) rfl rfl hy ?_
      rw [List.length_map]
      cases c2 : decide (0 ≤ j) && decide (j < (ys.length : Int)) with
      | false =>
        refine iteT ?_
        unfold alike at q
        rw [place_out c2, eqo_n'] at q
        exact q
      | true =>
        obtain ⟨y, ey⟩ := place_in c2
        refine iteF ?_
        refine ⟨_, rfl, _, rfl, _, _, _, _, rfl, rfl, hx, (plc_at ex).1, _, rfl, _, rfl, _, _, _, _, rfl, rfl, hy, (plc_at ey).1, rfl, ?_⟩
        unfold alike at q
        rw [ex, ey] at q
        have e : decide (V.int x = V.int y) = eqo (some x) (some y) := by
          show _ = (x == y)
          by_cases h : x = y
          · subst h; simp
          · rw [beq_eq_false_iff_ne.mpr h, decide_eq_false fun z => h (V.int.inj z)]
        rw [e]
        exact q
theorem ok_led_to (T : Txt P w K mg A) : FnOk P w K mg base CX0 1 A.a_led_to A.d_led_to ["first", "second", "move"] sp_led_to := by
  refine T.F_led_to.ok sc_led_to (fun vs H Q E h => ?_) (fun cdv Ar outer s H vs Q E hr h => ?_)
  · obtain ⟨i, j, m, rfl, _⟩ := h
    rfl
  · obtain ⟨i, j, m, rfl, k⟩ := h
    have hu := hu_of hr
    refine ⟨_, (pss_one (ps_ret (pe_tup (pa_cons (pe_op op_add (pv 0) (pe_ix ix_gtabI (pe_glob (v := .ref A.g_STEPS) rfl T.m_STEPS rfl) (pe_ix ix_str (pv 2) pe_int (fun _ _ => rfl)) (fun _ _ => rfl))) (pa_cons (pe_op op_add (pv 1) (pe_ix ix_gtabI (pe_glob (v := .ref A.g_STEPS) rfl T.m_STEPS rfl) (pe_ix ix_str (pv 2) pe_int (fun _ _ => rfl)) (fun _ _ => rfl))) pa_nil))))), ?_⟩
    have z2 : 2 ≤ sizeLine := by decide
    refine ⟨_, rfl, _, rfl, _, _, _, rfl, rfl, z2, atI_nat (mv_0 m), _, _, _, _, rfl, rfl, T.t_STEPS, step_tab m.1, _, _, rfl, rfl, ?_⟩
    refine ⟨_, rfl, _, rfl, _, _, _, rfl, rfl, z2, atI_nat (mv_1 m), _, _, _, _, rfl, rfl, T.t_STEPS, step_tab m.2, _, _, rfl, rfl, ?_⟩
    exact ⟨z2, fun t ht => k t ht⟩
def NoP (K : PySem.W.Frag) (H : Hp) (xs ys : List Int) (v u : V) : Prop := ∃ b c, PlV K H xs.length v b ∧ PlV K H ys.length u c ∧ (b = false ∨ c = false ∨ ∃ i j, v = .int i ∧ u = .int j ∧ alike xs ys i j = false)
theorem NoP.same {K : PySem.W.Frag} {H H' : Hp} {xs ys : List Int} {v u : V} (h : NoP K H xs ys v u) (s : Same H H') : NoP K H' xs ys v u := by
  obtain ⟨b, c, h1, h2, h3⟩ := h
  exact ⟨b, c, h1.same s, h2.same s, h3⟩
def sp_check_places (K : PySem.W.Frag) (C : Addr) : Sp := fun vs H Q E => ∃ a b xs ys v u, vs = [.ref a, .ref b, v, u] ∧ SqL K H a (List.map V.int xs) ∧ SqL K H b (List.map V.int ys) ∧
  ((∃ i j, v = .int i ∧ u = .int j ∧ alike xs ys i j = true ∧ Q .non H) ∨ (NoP K H xs ys v u ∧ E (.ref C) none H))
theorem ok_check_places (T : Txt P w K mg A) : FnOk P w K mg base (CXf P w) 3 A.a_check_places A.d_check_places ["levels", "other_levels", "first", "second"] (sp_check_places K A.c_BadPlaces) := by
  have G_is_place : FnOk P w K mg base CX0 1 A.a_is_place A.d_is_place ["levels", "value"] (sp_is_place K) := ok_is_place T
  have G_are_alike : FnOk P w K mg base CX0 2 A.a_are_alike A.d_are_alike ["levels", "other_levels", "first", "second"] (sp_are_alike K) := ok_are_alike T
  refine T.F_check_places.okX sc_check_places (fun vs H Q E h => ?_) (fun cdv Ar outer s H vs Q E hr h => ?_)
  · obtain ⟨a, b, xs, ys, v, u, rfl, _⟩ := h
    rfl
  · obtain ⟨a, b, xs, ys, v, u, rfl, hx, hy, h⟩ := h
    have hu := hu_of hr
    have z1 : 1 ≤ sizeLine := by decide
    refine ⟨_, (pss_cons (ps_set (i := 4) sc_check_places.nd rfl (Or.inl rfl) (pe_and (pe_call G_is_place (hr.mono (by decide)) rfl T.m_is_place T.k_is_place T.B_is_place .nil pass0 (pa_cons (pv 0) (pa_cons (pv 2) pa_nil))) (pe_one (pe_call G_is_place (hr.mono (by decide)) rfl T.m_is_place T.k_is_place T.B_is_place .nil pass0 (pa_cons (pv 1) (pa_cons (pv 3) pa_nil))))))
    (pss_one (ps_if (PW.pt (pw_or (pt_not (pt_val (pv 4))) (pw_or1 (pt_not (pt_val (pe_call G_are_alike (hr.mono (by decide)) rfl T.m_are_alike T.k_are_alike T.B_are_alike .nil pass0 (pa_cons (pv 0) (pa_cons (pv 1) (pa_cons (pv 2) (pa_cons (pv 3) pa_nil))))))))))
      (pss_one (ps_raise lets_def rfl rfl T.m_BadPlaces T.x_BadPlaces (pa_cons pe_str pa_nil)))
      pss_nil))), ?_⟩
    rcases h with ⟨i, j, rfl, rfl, hal, q⟩ | ⟨⟨b1, b2, h1, h2, h3⟩, q⟩
    · obtain ⟨⟨p1, p2⟩, p3, p4⟩ := alike_in hal
      refine ⟨_, rfl, _, rfl, a, xs, _, _, rfl, hx, .int i, _, rfl, ?_⟩
      refine iteTe (by rw [decide_eq_true p1, decide_eq_true p2]; rfl) ⟨_, rfl, _, rfl, b, ys, _, _, rfl, hy, .int j, ?_⟩
      rw [decide_eq_true p3, decide_eq_true p4]
      refine ⟨_, rfl, _, rfl, iteF ⟨_, rfl, _, rfl, _, rfl, _, rfl, a, b, xs, ys, i, j, rfl, hx, hy, _, rfl, ?_⟩⟩
      rw [hal]
      exact iteF q
    · refine ⟨_, rfl, _, rfl, a, xs, _, _, rfl, hx, h1, _, rfl, ?_⟩
      cases b1 with
      | false => exact iteF ⟨_, rfl, _, rfl, iteT (iteT ⟨z1, q⟩)⟩
      | true =>
        refine iteT ⟨_, rfl, _, rfl, b, ys, _, _, rfl, hy, h2, ?_⟩
        cases b2 with
        | false => exact ⟨_, rfl, _, rfl, iteT (iteT ⟨z1, q⟩)⟩
        | true =>
          obtain ⟨i, j, rfl, rfl, c3⟩ := (h3.resolve_left (fun z => nomatch z)).resolve_left (fun z => nomatch z)
          refine ⟨_, rfl, _, rfl, iteF ⟨_, rfl, _, rfl, _, rfl, _, rfl, a, b, xs, ys, i, j, rfl, hx, hy, _, rfl, ?_⟩⟩
          rw [c3]
          exact iteT ⟨z1, q⟩
def sp_can_be_done (K : PySem.W.Frag) : Sp := fun vs H Q _ => ∃ a b xs ys i j m, vs = [.ref a, .ref b, .int i, .int j, mvV m] ∧ SqL K H a (List.map V.int xs) ∧ SqL K H b (List.map V.int ys) ∧ ∀ H', Same H H' → Q (.bl (alike xs ys (i + stp m.1) (j + stp m.2))) H'
theorem ok_can_be_done (T : Txt P w K mg A) : FnOk P w K mg base CX0 3 A.a_can_be_done A.d_can_be_done ["levels", "other_levels", "first", "second", "move"] (sp_can_be_done K) := by
  have G_are_alike : FnOk P w K mg base CX0 2 A.a_are_alike A.d_are_alike ["levels", "other_levels", "first", "second"] (sp_are_alike K) := ok_are_alike T
  have G_led_to : FnOk P w K mg base CX0 1 A.a_led_to A.d_led_to ["first", "second", "move"] sp_led_to := ok_led_to T
  refine T.F_can_be_done.ok sc_can_be_done (fun vs H Q E h => ?_) (fun cdv Ar outer s H vs Q E hr h => ?_)
  · obtain ⟨a, b, xs, ys, i, j, m, rfl, _⟩ := h
    rfl
  · obtain ⟨a, b, xs, ys, i, j, m, rfl, hx, hy, k⟩ := h
    have hu := hu_of hr
    refine ⟨_, (pss_cons (ps_set (i := 5) sc_can_be_done.nd rfl (Or.inl rfl) (pe_call G_led_to (hr.mono (by decide)) rfl T.m_led_to T.k_led_to T.B_led_to .nil pass0 (pa_cons (pv 2) (pa_cons (pv 3) (pa_cons (pv 4) pa_nil)))))
    (pss_one (ps_ret (pe_call G_are_alike (hr.mono (by decide)) rfl T.m_are_alike T.k_are_alike T.B_are_alike .nil pass0 (pa_cons (pv 0) (pa_cons (pv 1) (pa_cons (pe_ix ix_tup (pv 5) pe_int (fun _ _ => rfl)) (pa_cons (pe_ix ix_tup (pv 5) pe_int (fun _ _ => rfl)) pa_nil)))))))), ?_⟩
    refine ⟨_, rfl, _, rfl, _, rfl, i, j, m, rfl, fun t ht => ?_⟩
    have s1 := same_upd (o := .tup (pt2 (adv (i, j) m))) ht
    have et : upd H t (.tup (pt2 (adv (i, j) m))) t = some (.tup (pt2 (adv (i, j) m))) := upd_same
    refine ⟨_, rfl, _, rfl, _, rfl, t, _, _, _, rfl, rfl, SqT.of et, atI_nat (j := 0) rfl, _, rfl, t, _, _, _, rfl, rfl, SqT.of et, atI_nat (j := 1) rfl, ?_⟩
    exact ⟨a, b, xs, ys, _, _, rfl, s1.seq hx, s1.seq hy, k _ s1⟩
inductive Bad4 (K : PySem.W.Frag) (Cr Cp : Addr) (H : Hp) : List V → Addr → Prop
  | one {v u x y : V} (h : NoR K H v) : Bad4 K Cr Cp H [v, u, x, y] Cr
  | two {R : List Bool} {u x y : V} (hR : R.length ≤ 16000000) (h : NoR K H u) : Bad4 K Cr Cp H [.str (rt R), u, x, y] Cr
  | pl {R S : List Bool} {x y : V} (hR : R.length ≤ 16000000) (hS : S.length ≤ 16000000) (h : NoP K H (hts 0 R) (hts 0 S) x y) : Bad4 K Cr Cp H [.str (rt R), .str (rt S), x, y] Cp
def spBad4 (K : PySem.W.Frag) (Cr Cp : Addr) : Sp := fun vs H _ E => ∃ C, Bad4 K Cr Cp H vs C ∧ ∀ H', Same H H' → E (.ref C) none H'
def spG_moves_at : Sp := fun vs H Q _ => ∃ R S i j, vs = [.str (rt R), .str (rt S), .int i, .int j] ∧ R.length ≤ 16000000 ∧ S.length ≤ 16000000 ∧ alike (hts 0 R) (hts 0 S) i j = true ∧
  ∀ p H', H p = none → Same H H' → H' p = some (.lst ((mvs (hts 0 R) (hts 0 S) i j).map mvV)) → Q (.ref p) H'
def sp_moves_at (K : PySem.W.Frag) (Cr Cp : Addr) : Sp := fun vs H Q E => spG_moves_at vs H Q E ∨ spBad4 K Cr Cp vs H Q E
theorem ok_moves_at (T : Txt P w K mg A) : FnOk P w K mg base (CXf P w) 4 A.a_moves_at A.d_moves_at ["one", "other", "first", "second"] (sp_moves_at K A.c_BadRidge A.c_BadPlaces) := by
  have G_heights : FnOk P w K mg base (CXf P w) 3 A.a_heights A.d_heights ["ridge"] (sp_heights K A.c_BadRidge) := ok_heights T
  have G_check_places : FnOk P w K mg base (CXf P w) 3 A.a_check_places A.d_check_places ["levels", "other_levels", "first", "second"] (sp_check_places K A.c_BadPlaces) := ok_check_places T
  have G_can_be_done : FnOk P w K mg base CX0 3 A.a_can_be_done A.d_can_be_done ["levels", "other_levels", "first", "second", "move"] (sp_can_be_done K) := ok_can_be_done T
  refine T.F_moves_at.okX sc_moves_at (fun vs H Q E h => ?_) (fun cdv Ar outer s H vs Q E hr h => ?_)
  · rcases h with ⟨R, S, i, j, rfl, _⟩ | ⟨C, h, _⟩
    · rfl
    · cases h <;> rfl
  · have hu := hu_of hr
    refine ⟨_, (pss_cons (ps_set (i := 4) sc_moves_at.nd rfl (Or.inr rfl) (pe_call G_heights (hr.mono (by decide)) rfl T.m_heights T.k_heights T.B_heights .nil (passes_of rfl rfl lets_def) (pa_cons (pv 0) pa_nil)))
    (pss_cons (ps_set (i := 5) sc_moves_at.nd rfl (Or.inr rfl) (pe_call G_heights (hr.mono (by decide)) rfl T.m_heights T.k_heights T.B_heights .nil (passes_of rfl rfl lets_def) (pa_cons (pv 1) pa_nil)))
    (pss_cons (ps_expr (pe_call G_check_places (hr.mono (by decide)) rfl T.m_check_places T.k_check_places T.B_check_places .nil (passes_of rfl rfl lets_def) (pa_cons (pv 4) (pa_cons (pv 5) (pa_cons (pv 2) (pa_cons (pv 3) pa_nil))))))
    (pss_one (ps_ret (pe_comp (te := (tVar 0)) (tt := (tB (tCall _ _ _ (tCons (tVar 2) (tCons (tVar 3) (tCons (tVar 1) (tCons (tVar 4) (tCons (tVar 0) tNil)))))))) c0_moves_at rfl (pi_tup (pe_glob (v := .ref A.g_MOVES) rfl T.m_MOVES rfl)) (fun cl C s' H' fp => pifs_one (pt_val (pe_call G_can_be_done (hr.mono (by decide)) rfl T.m_can_be_done T.k_can_be_done T.B_can_be_done .nil pass0 (pa_cons (pv 2) (pa_cons (pv 3) (pa_cons (pv 1) (pa_cons (pv 4) (pa_cons (pv 0) pa_nil)))))))) (fun cl C s' H' fp => (pv 0)))))))), ?_⟩
    rcases h with ⟨R, S, i, j, rfl, hR, hS, c, k1⟩ | ⟨C, h, k⟩
    rotate_left
    · cases h with
      | one h => exact ⟨_, rfl, .inr ⟨_, rfl, h, k⟩⟩
      | two hR h => exact ⟨_, rfl, .inl ⟨_, rfl, hR, fun p H1 hp s1 e1 => ⟨_, rfl, .inr ⟨_, rfl, h.same s1, fun H2 s2 => k H2 (s1.trans s2)⟩⟩⟩⟩
      | pl hR hS h =>
        refine ⟨_, rfl, .inl ⟨_, rfl, hR, fun p H1 hp s1 e1 => ⟨_, rfl, .inl ⟨_, rfl, hS, fun p' H2 hp' s2 e2 => ?_⟩⟩⟩⟩
        exact ⟨_, rfl, _, rfl, _, rfl, _, rfl, p, p', _, _, _, _, rfl, SqL.of (s2 _ _ e1), SqL.of e2, .inr ⟨h.same (s1.trans s2), k H2 (s1.trans s2)⟩⟩
    refine ⟨_, rfl, .inl ⟨R, rfl, hR, fun p H1 hp s1 e1 => ?_⟩⟩
    refine ⟨_, rfl, .inl ⟨S, rfl, hS, fun p' H2 hp' s2 e2 => ?_⟩⟩
    have e1' : H2 p = some (.lst ((hts 0 R).map V.int)) := s2 _ _ e1
    refine ⟨_, rfl, _, rfl, _, rfl, _, rfl, p, p', _, _, _, _, rfl, SqL.of e1', SqL.of e2, .inl ⟨i, j, rfl, rfl, c, ?_⟩⟩
    refine ⟨_, rfl, ⟨_, T.t_MOVES _⟩, comp_filter (ItOf.tup K A.g_MOVES _) (fun v => decide (v ∈ (mvs (hts 0 R) (hts 0 S) i j).map mvV)) id (by decide) (fun H' _ => T.t_MOVES H') (fun x hx H3 s3 Rk kk => ?_) (fun x hx px H3 s3 Rk kk => ?_) (fun D H3 hD s3 e3 => ?_)⟩
    · rw [← all4_mv] at hx
      obtain ⟨m, hm, rfl⟩ := List.mem_map.mp hx
      refine ⟨_, rfl, _, rfl, _, rfl, _, rfl, _, rfl, p, p', _, _, i, j, m, rfl, SqL.of (s3 _ _ e1'), SqL.of (s3 _ _ e2), fun H4 s4 => ⟨_, rfl, ?_⟩⟩
      have q := kk H4 s4
      have e : decide (mvV m ∈ (mvs (hts 0 R) (hts 0 S) i j).map mvV) = alike (hts 0 R) (hts 0 S) (i + stp m.1) (j + stp m.2) := by
        rw [Bool.eq_iff_iff, decide_eq_true_iff, mem_mv]
        unfold mvs
        rw [List.mem_filter]
        exact ⟨And.right, fun z => ⟨hm, z⟩⟩
      rw [e] at q
      exact q
    · exact ⟨_, rfl, kk H3 (Same.refl _)⟩
    · refine k1 D H3 ((s1.trans s2).free hD) ((s1.trans s2).trans s3) ?_
      rw [e3, List.map_id, ← all4_mv]
      exact congrArg (fun l => some (HO.lst l)) (filter_mv _)
def mvB (v : V) : Bool := inV v [.str "ff", .str "fb", .str "bf", .str "bb"]
def Askm (K : PySem.W.Frag) (H : Hp) (v : V) (b : Bool) : Prop := (∃ z, v = .str z ∧ b = mvB v) ∨ (NoT K "str" H v ∧ b = false)
theorem Askm.same {K : PySem.W.Frag} {H H' : Hp} {v : V} {b : Bool} (h : Askm K H v b) (s : Same H H') : Askm K H' v b := h.elim .inl fun q => .inr ⟨q.1.same s, q.2⟩
def sp_is_move (K : PySem.W.Frag) : Sp := fun vs H Q _ => ∃ v b, vs = [v] ∧ Askm K H v b ∧ Q (.bl b) H
theorem ok_is_move (T : Txt P w K mg A) : FnOk P w K mg base CX0 1 A.a_is_move A.d_is_move ["value"] (sp_is_move K) := by
  refine T.F_is_move.ok sc_is_move (fun vs H Q E h => ?_) (fun cdv Ar outer s H vs Q E hr h => ?_)
  · obtain ⟨v, b, rfl, _⟩ := h
    rfl
  · obtain ⟨v, b, rfl, h, q⟩ := h
    have hu := hu_of hr
    refine ⟨_, (pss_one (ps_ret (pe_and (pe_callB call_isinst rfl T.b_isinstance boot_isinstance (pa_cons (pv 0) (pa_cons (pe_bltn (v := .ty "str") rfl T.b_str boot_str rfl) pa_nil))) (pe_one (pe_cmpR op_in_seq (pv 0) (pe_glob (v := .ref A.g_MOVES) rfl T.m_MOVES rfl) rfl))))), ?_⟩
    rcases h with ⟨z, rfl, rfl⟩ | ⟨⟨t, ty, hk⟩, rfl⟩
    · refine ⟨_, rfl, _, _, _, _, rfl, .str _, rfl, _, rfl, iteT ?_⟩
      exact ⟨_, rfl, _, _, rfl, .inr (T.t_MOVES H), rfl, rfl, q⟩
    · exact ⟨_, rfl, _, _, _, _, rfl, ty, hk, _, rfl, iteF q⟩
def NoM (K : PySem.W.Frag) (H : Hp) (v : V) : Prop := NoT K "list" H v ∨ ∃ a xs, v = .ref a ∧ H a = some (.lst xs) ∧ xs.length ≤ 100 ∧ (∀ x ∈ xs, ∃ b, Askm K H x b) ∧ ∃ x ∈ xs, Askm K H x false
def mvF : V → Bool
  | .str z => mvB (.str z)
  | _ => false
theorem Askm.eq {K : PySem.W.Frag} {H : Hp} {v : V} {b : Bool} (h : Askm K H v b) : b = mvF v := by
  rcases h with ⟨z, rfl, rfl⟩ | ⟨⟨t, ty, hk⟩, rfl⟩
  · rfl
  · cases ty <;> first | rfl | cases hk
def sp_check_moves (K : PySem.W.Frag) (C : Addr) : Sp := fun vs H Q E => ∃ v, vs = [v] ∧ ((∃ a, v = .ref a ∧ H a = some (.lst []) ∧ ∀ H', Same H H' → Q .non H') ∨ (NoM K H v ∧ ∀ H', Same H H' → E (.ref C) none H'))
theorem all_false {bs : List Bool} (h : false ∈ bs) : bs.all id = false := by
  rw [Bool.eq_false_iff]
  intro z
  exact absurd (List.all_eq_true.mp z false h) (by decide)
theorem ok_check_moves (T : Txt P w K mg A) : FnOk P w K mg base (CXf P w) 2 A.a_check_moves A.d_check_moves ["values"] (sp_check_moves K A.c_BadMoves) := by
  have G_is_move : FnOk P w K mg base CX0 1 A.a_is_move A.d_is_move ["value"] (sp_is_move K) := ok_is_move T
  refine T.F_check_moves.okX sc_check_moves (fun vs H Q E h => ?_) (fun cdv Ar outer s H vs Q E hr h => ?_)
  · obtain ⟨v, rfl, _⟩ := h
    rfl
  · obtain ⟨v, rfl, h⟩ := h
    have hu := hu_of hr
    have z1 : 1 ≤ sizeLine := by decide
    refine ⟨_, (pss_one (ps_if (PW.pt (pw_or (pt_not (pt_val (pe_callB call_isinst rfl T.b_isinstance boot_isinstance (pa_cons (pv 0) (pa_cons (pe_bltn (v := .ty "list") rfl T.b_list boot_list rfl) pa_nil))))) (pw_or1 (pt_not (pt_val (pe_callB (call_all rfl) rfl T.b_all boot_all (pa_cons (pe_comp (te := (tCall _ _ _ (tCons (tVar 0) tNil))) c0_check_moves rfl (pi_list (pv 0)) (fun cl C s' H' fp => pifs_nil) (fun cl C s' H' fp => (pe_call G_is_move (hr.mono (by decide)) rfl T.m_is_move T.k_is_move T.B_is_move .nil pass0 (pa_cons (pv 0) pa_nil)))) pa_nil)))))))
      (pss_one (ps_raise lets_def rfl rfl T.m_BadMoves T.x_BadMoves (pa_cons pe_str pa_nil)))
      pss_nil)), ?_⟩
    rcases h with ⟨a, rfl, ha, k⟩ | ⟨⟨t, ty, hk⟩ | ⟨a, xs, rfl, ha, hl, hx, x0, hx0, h0⟩, k⟩
    · refine ⟨_, rfl, _, _, _, _, rfl, .lst ha, rfl, _, rfl, iteF ?_⟩
      refine ⟨_, rfl, a, rfl, ⟨_, SqL.of ha⟩, comp_map (ItOf.list K a []) id (Nat.zero_le _) (fun _ s1 => SqL.of (s1 _ _ ha)) (fun x hx => nomatch hx) (fun D H2 hD s2 e => ?_)⟩
      exact ⟨D, [], rfl, SqL.of e, _, rfl, iteF (k H2 s2)⟩
    · exact ⟨_, rfl, _, _, _, _, rfl, ty, hk, _, rfl, iteT ⟨z1, k H (Same.refl _)⟩⟩
    · refine ⟨_, rfl, _, _, _, _, rfl, .lst ha, rfl, _, rfl, iteF ?_⟩
      refine ⟨_, rfl, a, rfl, ⟨_, SqL.of ha⟩, comp_map (ItOf.list K a xs) (fun v => .bl (mvF v)) (bigM (by omega)) (fun _ s1 => SqL.of (s1 _ _ ha)) (fun x hx2 H2 s2 Rk kk => ?_) (fun D H2 hD s2 e => ?_)⟩
      · obtain ⟨b, hb⟩ := hx x hx2
        refine ⟨_, rfl, x, b, rfl, hb.same s2, ?_⟩
        rw [hb.eq]
        exact kk H2 (Same.refl _)
      · have e2 : xs.map (fun v => V.bl (mvF v)) = (xs.map mvF).map V.bl := by rw [List.map_map]; rfl
        rw [e2] at e
        refine ⟨D, _, rfl, SqL.of e, _, rfl, ?_⟩
        rw [all_false (List.mem_map.mpr ⟨x0, hx0, h0.eq.symm⟩)]
        exact iteT ⟨z1, k H2 s2⟩
def spG_thinned : Sp := fun vs H Q _ => ∃ a, vs = [.ref a] ∧ H a = some (.lst []) ∧ ∀ p H', H p = none → Same H H' → H' p = some (.lst []) → Q (.ref p) H'
def spBadM (K : PySem.W.Frag) (C : Addr) : Sp := fun vs H _ E => ∃ v, vs = [v] ∧ NoM K H v ∧ ∀ H', Same H H' → E (.ref C) none H'
def sp_thinned (K : PySem.W.Frag) (C : Addr) : Sp := fun vs H Q E => spG_thinned vs H Q E ∨ spBadM K C vs H Q E
theorem ok_thinned (T : Txt P w K mg A) : FnOk P w K mg base (CXf P w) 3 A.a_thinned A.d_thinned ["moves"] (sp_thinned K A.c_BadMoves) := by
  have G_check_moves : FnOk P w K mg base (CXf P w) 2 A.a_check_moves A.d_check_moves ["values"] (sp_check_moves K A.c_BadMoves) := ok_check_moves T
  refine T.F_thinned.okX sc_thinned (fun vs H Q E h => ?_) (fun cdv Ar outer s H vs Q E hr h => ?_)
  · rcases h with ⟨a, rfl, _⟩ | ⟨v, rfl, _⟩ <;> rfl
  · have hu := hu_of hr
    refine ⟨_, (pss_cons (ps_expr (pe_call G_check_moves (hr.mono (by decide)) rfl T.m_check_moves T.k_check_moves T.B_check_moves .nil (passes_of rfl rfl lets_def) (pa_cons (pv 0) pa_nil)))
    (pss_cons (ps_set (i := 1) sc_thinned.nd rfl (Or.inl rfl) (pe_lst pa_nil))
    (pss_cons (PS.nox <| ps_for PassesOwn.never rfl (pi_list (pv 0)) (pg_name (i := 2) sc_thinned.nd rfl (Or.inl rfl))
      (pss_one (ps_if (PW.pt (pw_and (pt_cmpR op_gt (pe_callB call_lenV rfl T.b_len boot_len (pa_cons (pv 1) pa_nil)) pe_int (nomark _)) (pw_and1 (pt_cmpR op_eq (pe_ix ix_gtab (pe_glob (v := .ref A.g_TAKEN_BACK) rfl T.m_TAKEN_BACK rfl) (pe_ix ix_list (pv 1) (pe_un un_neg pe_int) (fun _ _ => rfl)) (fun _ _ => rfl)) (pv 2) (nomark _)))))
        (pss_one (ps_expr (pe_bm0 PySem.F.plainAttrs_list PySem.F.slot_list_pop PySem.F.type_list_pop mt_pop (pv 1))))
        (pss_one (ps_expr (pe_bm PySem.F.plainAttrs_list PySem.F.slot_list_append PySem.F.type_list_append mt_append (pv 1) (pa_cons (pv 2) pa_nil)))))))
    (pss_one (ps_ret (pv 1)))))), ?_⟩
    rcases h with ⟨a, rfl, ha, k⟩ | ⟨v, rfl, hn, k⟩
    · refine ⟨_, rfl, _, rfl, .inl ⟨a, rfl, ha, fun H1 s1 => ?_⟩⟩
      refine ⟨by decide, fun p hp => ?_⟩
      have ea := same_upd (o := .lst []) hp _ _ (s1 _ _ ha)
      refine ⟨_, rfl, a, rfl, ⟨_, SqL.of ea⟩, for_each (ItOf.list K a []) (fun rest σ H2 => rest = [] ∧ ∃ z, σ = [some (.ref a), some (.ref p), z] ∧ H2 = upd H1 p (.lst [])) ⟨rfl, none, rfl, rfl⟩ (fun r σ H2 ⟨_, _, _, e⟩ => by rw [e]; exact SqL.of ea) ?_ ?_⟩
      · rintro x rest σ H2 ⟨e, _⟩
        cases e
      · rintro σ H2 ⟨_, z, rfl, rfl⟩
        exact ⟨_, rfl, k p _ (s1.free hp) (s1.upd (s1.free hp) rfl) upd_same⟩
    · exact ⟨_, rfl, _, rfl, .inr ⟨hn, k⟩⟩
end
end K09
set_option Elab.async false
set_option linter.all false
set_option maxRecDepth 100000
set_option maxHeartbeats 4000000
namespace K09
open PySem PySem.Spec PyProof.Rows L2 UM UT
def refs (N : List (Addr × Pr)) : List V := N.map fun t => V.ref t.1
structure EXS (xs ys : List Int) (H : Hp) (d q : Addr) (D : Dc) (F : List (Addr × Pr)) (D2 : Dc) (H2 : Hp) : Prop where
  kp : ∀ c o, c ≠ d → H c = some o → H2 c = some o
  q2 : H2 q = some (.lst (refs F))
  tf : ∀ t ∈ F, H2 t.1 = some (.tup (pt2 t.2))
  d2 : H2 d = some (.dT (kvD D2))
  g : GD xs ys D2
  ln : D2.length = D.length + F.length
  fk : ∀ t ∈ F, t.2 ∈ ks D2
  sub : ∀ p ∈ ks D, p ∈ ks D2
  new : ∀ p ∈ ks D2, p ∈ ks D ∨ ∃ t ∈ F, t.2 = p
theorem EXS.grow {xs ys : List Int} {H : Hp} {d q : Addr} {D : Dc} {F : List (Addr × Pr)} {D2 : Dc} {H2 H3 : Hp} (e : EXS xs ys H d q D F D2 H2) (s : Same H2 H3) : EXS xs ys H d q D F D2 H3 :=
  ⟨fun c o n h => s _ _ (e.kp c o n h), s _ _ e.q2, fun t h => s _ _ (e.tf t h), s _ _ e.d2, e.g, e.ln, e.fk, e.sub, e.new⟩
theorem EXS.more {xs ys : List Int} {H : Hp} {d q : Addr} {D : Dc} {F : List (Addr × Pr)} {D2 : Dc} {H2 : Hp} {t : Addr} {p : Pr} {m : Mv} (e : EXS xs ys H d q D F D2 H2) (hq : H q = none) (et : H2 t = some (.tup (pt2 (adv p m)))) (hp : p ∈ ks D2) (ha : alk xs ys (adv p m) = true) (hn : adv p m ∉ ks D2) :
    EXS xs ys H d q D (F ++ [(t, adv p m)]) (D2 ++ [(adv p m, some m)]) (upd (upd H2 d (.dT (kvD (D2 ++ [(adv p m, some m)])))) q (.lst (refs F ++ [.ref t]))) := by
  have nqd : q ≠ d := ne_of e.q2 e.d2 (fun z => nomatch z)
  have tup : ∀ (c : Addr) (zs : List V), H2 c = some (.tup zs) → upd (upd H2 d (.dT (kvD (D2 ++ [(adv p m, some m)])))) q (.lst (refs F ++ [.ref t])) c = some (.tup zs) := by
    intro c zs h
    rw [upd_ne (ne_of h e.q2 (fun z => nomatch z)), upd_ne (ne_of h e.d2 (fun z => nomatch z))]
    exact h
  refine ⟨fun c o n h => ?_, ?_, fun t' h => ?_, ?_, e.g.snoc hp ha hn, ?_, fun t' h => ?_, fun r h => ?_, fun r h => ?_⟩
  · rw [upd_ne (ne_of_none h hq), upd_ne n]
    exact e.kp c o n h
  · rw [upd_same]
    unfold refs
    rw [List.map_append]
    rfl
  · rcases List.mem_append.mp h with h | h
    · exact tup _ _ (e.tf t' h)
    · rw [List.mem_singleton] at h
      subst h
      exact tup _ _ et
  · rw [upd_ne nqd.symm, upd_same]
  · rw [List.length_append, List.length_append, List.length_singleton, List.length_singleton, e.ln]
    omega
  · rw [ks_snoc]
    rcases List.mem_append.mp h with h | h
    · exact List.mem_append_left _ (e.fk t' h)
    · rw [List.mem_singleton] at h
      subst h
      exact List.mem_append_right _ (List.mem_singleton.mpr rfl)
  · rw [ks_snoc]
    exact List.mem_append_left _ (e.sub r h)
  · rw [ks_snoc] at h
    rcases List.mem_append.mp h with h | h
    · rcases e.new r h with z | ⟨t', z1, z2⟩
      · exact .inl z
      · exact .inr ⟨t', List.mem_append_left _ z1, z2⟩
    · rw [List.mem_singleton] at h
      exact .inr ⟨(t, adv p m), List.mem_append_right _ (List.mem_singleton.mpr rfl), h.symm⟩
def CloN (xs ys : List Int) (N : List (Addr × Pr)) (D : Dc) : Prop := ∀ p ∈ ks D, (∃ t ∈ N, t.2 = p) ∨ ∀ m, alk xs ys (adv p m) = true → adv p m ∈ ks D
def sp_explored_next : Sp := fun vs H Q _ => ∃ a b n d xs ys N D, vs = [.ref a, .ref b, .ref n, .ref d] ∧ H a = some (.lst (List.map V.int xs)) ∧ H b = some (.lst (List.map V.int ys)) ∧ H n = some (.lst (refs N)) ∧ (∀ t ∈ N, H t.1 = some (.tup (pt2 t.2))) ∧ H d = some (.dT (kvD D)) ∧
  GD xs ys D ∧ alk xs ys (0, 0) = true ∧ (∀ t ∈ N, t.2 ∈ ks D) ∧ cnt xs ys ≤ 16000000 ∧ CloN xs ys N D ∧
  ∀ q F D2 H2, H q = none → EXS xs ys H d q D F D2 H2 → CloN xs ys F D2 → Q (.ref q) H2
section
variable {P : Program} {w : World} {K : PySem.W.Frag} {mg : Str → Option Value} {base : Heap} {A : Adr}
theorem all4_mem (m : Mv) : m ∈ all4 := by
  obtain ⟨a, b⟩ := m
  cases a <;> cases b <;> decide
theorem ok_explored_next (T : Txt P w K mg A) : FnOk P w K mg base CX0 3 A.a_explored_next A.d_explored_next ["levels", "other_levels", "newest", "came_by"] sp_explored_next := by
  have G_are_alike : FnOk P w K mg base CX0 2 A.a_are_alike A.d_are_alike ["levels", "other_levels", "first", "second"] (sp_are_alike K) := ok_are_alike T
  have G_led_to : FnOk P w K mg base CX0 1 A.a_led_to A.d_led_to ["first", "second", "move"] sp_led_to := ok_led_to T
  refine T.F_explored_next.ok sc_explored_next (fun vs H Q E h => ?_) (fun cdv Ar outer s H vs Q E hr h => ?_)
  · obtain ⟨a, b, n, d, xs, ys, N, D, rfl, _⟩ := h
    rfl
  · obtain ⟨a, b, n, d, xs, ys, N, D, rfl, ha, hb, hn, hN, hd, hg, h0, hND, hc, hcl, k⟩ := h
    have hu := hu_of hr
    refine ⟨_, (pss_cons (ps_set (i := 4) sc_explored_next.nd rfl (Or.inl rfl) (pe_lst pa_nil))
    (pss_cons (ps_for PassesOwn.never rfl (pi_list (pv 2)) (pg_name (i := 5) sc_explored_next.nd rfl (Or.inl rfl))
      (pss_one (ps_for PassesOwn.never rfl (pi_tup (pe_glob (v := .ref A.g_MOVES) rfl T.m_MOVES rfl)) (pg_name (i := 6) sc_explored_next.nd rfl (Or.inl rfl))
        (pss_cons (ps_set (i := 7) sc_explored_next.nd rfl (Or.inl rfl) (pe_call G_led_to (hr.mono (by decide)) rfl T.m_led_to T.k_led_to T.B_led_to .nil pass0 (pa_cons (pe_ix ix_tup (pv 5) pe_int (fun _ _ => rfl)) (pa_cons (pe_ix ix_tup (pv 5) pe_int (fun _ _ => rfl)) (pa_cons (pv 6) pa_nil)))))
        (pss_one (ps_if (PW.pt (pw_and (pt_cmp (pc_dnotin hu (pv 7) (pv 3))) (pw_and1 (pt_val (pe_call G_are_alike (hr.mono (by decide)) rfl T.m_are_alike T.k_are_alike T.B_are_alike .nil pass0 (pa_cons (pv 0) (pa_cons (pv 1) (pa_cons (pe_ix ix_tup (pv 7) pe_int (fun _ _ => rfl)) (pa_cons (pe_ix ix_tup (pv 7) pe_int (fun _ _ => rfl)) pa_nil)))))))))
          (pss_cons (ps_dput hu (pv 3) (pv 7) (pv 6) rfl)
          (pss_one (ps_expr (pe_bm PySem.F.plainAttrs_list PySem.F.slot_list_append PySem.F.type_list_append mt_append (pv 4) (pa_cons (pv 7) pa_nil)))))
          pss_nil))))))
    (pss_one (ps_ret (pv 4))))), ?_⟩
    have nad : a ≠ d := ne_of ha hd (fun z => nomatch z)
    have nbd : b ≠ d := ne_of hb hd (fun z => nomatch z)
    have nnd : n ≠ d := ne_of hn hd (fun z => nomatch z)
    have ntd : ∀ t ∈ N, t.1 ≠ d := fun t h => ne_of (hN t h) hd (fun z => nomatch z)
    refine ⟨Nat.zero_le _, fun q hq => ?_⟩
    have nqd : d ≠ q := ne_of_none hd hq
    have e0 : EXS xs ys H d q D [] D (upd H q (.lst [])) := ⟨fun c o _ h => same_upd hq _ _ h, upd_same, (fun t h => nomatch h), same_upd hq _ _ hd, hg, rfl, (fun t h => nomatch h), fun p h => h, fun p h => .inl h⟩
    refine ⟨_, rfl, n, rfl, ⟨_, SqL.of (e0.kp _ _ nnd hn)⟩, for_each (ItOf.list K n (refs N)) (fun rest σ H2 => ∃ (N1 N2 : List (Addr × Pr)) (F : List (Addr × Pr)) (D2 : Dc) (y1 y2 y3 : Option V), N = N1 ++ N2 ∧ rest = refs N2 ∧
      σ = [some (.ref a), some (.ref b), some (.ref n), some (.ref d), some (.ref q), y1, y2, y3] ∧ EXS xs ys H d q D F D2 H2 ∧ ∀ t ∈ N1, ∀ m, alk xs ys (adv t.2 m) = true → adv t.2 m ∈ ks D2)
      ⟨[], N, [], D, none, none, none, rfl, rfl, rfl, e0, (fun t h => nomatch h)⟩ (fun r σ H2 ⟨_, _, _, _, _, _, _, _, _, _, e, _⟩ => SqL.of (e.kp _ _ nnd hn)) ?_ ?_⟩
    · rintro x rest σ H2 ⟨N1, N2, F, D2, y1, y2, y3, eN, er, rfl, ex, hd1⟩
      cases N2 with
      | nil => cases er
      | cons t0 N2 =>
        obtain ⟨t, p⟩ := t0
        obtain ⟨rfl, rfl⟩ := List.cons.inj er
        have htN : (t, p) ∈ N := by rw [eN]; exact List.mem_append_right _ List.mem_cons_self
        refine ⟨_, rfl, ⟨_, T.t_MOVES _⟩, for_each (ItOf.tup K A.g_MOVES _) (fun rest σ H3 => ∃ (m1 m2 : List Mv) (F : List (Addr × Pr)) (D3 : Dc) (y2 y3 : Option V), all4 = m1 ++ m2 ∧ rest = m2.map mvV ∧
          σ = [some (.ref a), some (.ref b), some (.ref n), some (.ref d), some (.ref q), some (.ref t), y2, y3] ∧ EXS xs ys H d q D F D3 H3 ∧ (∀ r ∈ ks D2, r ∈ ks D3) ∧ ∀ m ∈ m1, alk xs ys (adv p m) = true → adv p m ∈ ks D3)
          ⟨[], all4, F, D2, _, _, rfl, all4_mv.symm, rfl, ex, fun r h => h, (fun m h => nomatch h)⟩ (fun r σ H3 _ => T.t_MOVES H3) ?_ ?_⟩
        · rintro x rest σ H3 ⟨m1, m2, F3, D3, y2, y3, em, er, rfl, ex3, hs3, hm3⟩
          cases m2 with
          | nil => cases er
          | cons m m2 =>
            obtain ⟨rfl, rfl⟩ := List.cons.inj er
            have em' : all4 = (m1 ++ [m]) ++ m2 := by rw [em, List.append_assoc]; rfl
            have et : H3 t = some (.tup (pt2 p)) := ex3.kp _ _ (ntd _ htN) (hN _ htN)
            have hp3 : p ∈ ks D3 := ex3.sub p (hND _ htN)
            refine ⟨_, rfl, t, _, _, _, rfl, rfl, SqT.of et, atI_nat (j := 0) rfl, _, rfl, t, _, _, _, rfl, rfl, SqT.of et, atI_nat (j := 1) rfl, _, rfl, p.1, p.2, m, rfl, fun t1 ht1 => ?_⟩
            have s4 := same_upd (o := .tup (pt2 (adv (p.1, p.2) m))) ht1
            have et1 : upd H3 t1 (.tup (pt2 (adv (p.1, p.2) m))) t1 = some (.tup (pt2 (adv p m))) := upd_same
            have ex4 := ex3.grow s4
            generalize upd H3 t1 (.tup (pt2 (adv (p.1, p.2) m))) = H4 at s4 et1 ex4
            refine ⟨_, rfl, _, rfl, d, _, rfl, DGet.t (k := pkey (adv p m)) ex4.d2 et1, _, rfl, ?_⟩
            rw [get_kvD]
            by_cases hk : adv p m ∈ ks D3
            · rw [decide_eq_true hk]
              refine iteF (iteF ?_)
              exact ⟨m1 ++ [m], m2, F3, D3, _, _, em', rfl, rfl, ex4, hs3, fun m' h z => by
                rcases List.mem_append.mp h with h | h
                · exact hm3 m' h z
                · rw [List.mem_singleton] at h
                  rw [h]; exact hk⟩
            · rw [decide_eq_false hk]
              refine iteT ?_
              have ea : H4 a = some (.lst (List.map V.int xs)) := ex4.kp _ _ nad ha
              have eb : H4 b = some (.lst (List.map V.int ys)) := ex4.kp _ _ nbd hb
              refine ⟨_, rfl, _, rfl, _, rfl, t1, _, _, _, rfl, rfl, SqT.of et1, atI_nat (j := 0) rfl, _, rfl, t1, _, _, _, rfl, rfl, SqT.of et1, atI_nat (j := 1) rfl, ?_⟩
              refine ⟨a, b, xs, ys, (adv p m).1, (adv p m).2, rfl, SqL.of ea, SqL.of eb, _, rfl, ?_⟩
              cases hal : alike xs ys (adv p m).1 (adv p m).2 with
              | false =>
                refine iteF ?_
                exact ⟨m1 ++ [m], m2, F3, D3, _, _, em', rfl, rfl, ex4, hs3, fun m' h z => by
                  rcases List.mem_append.mp h with h | h
                  · exact hm3 m' h z
                  · rw [List.mem_singleton] at h
                    rw [h] at z
                    have z : alike xs ys (adv p m).1 (adv p m).2 = true := z
                    rw [hal] at z
                    cases z⟩
              | true =>
                refine iteT ?_
                have ln := ex4.ln
                have lg := (ex4.g.snoc hp3 hal hk).len h0
                rw [List.length_append, List.length_singleton] at lg
                have exm := ex4.more hq et1 hp3 hal hk
                refine ⟨_, rfl, _, rfl, _, rfl, d, _, rfl, DPut.t (k := pkey (adv p m)) ex4.d2 et1 (by rw [kvD_len]; exact smallM (by omega)), ?_⟩
                have ep : putK (kvD D3) (pkey (adv p m)) (mvV m) = kvD (D3 ++ [(adv p m, some m)]) := put_kvD (some m) hk
                rw [ep]
                have eq5 : upd H4 d (.dT (kvD (D3 ++ [(adv p m, some m)]))) q = some (.lst (refs F3)) := by rw [upd_ne nqd.symm]; exact ex4.q2
                refine ⟨_, rfl, .inl ⟨rfl, _, SqL.of eq5⟩, _, rfl, q, _, _, rfl, rfl, eq5, (by unfold refs; rw [List.length_map]; exact smallM (by omega)), ?_⟩
                exact ⟨m1 ++ [m], m2, F3 ++ [(t1, adv p m)], D3 ++ [(adv p m, some m)], _, _, em', rfl, rfl, exm, fun r h => by rw [ks_snoc]; exact List.mem_append_left _ (hs3 r h), fun m' h z => by
                  rw [ks_snoc]
                  rcases List.mem_append.mp h with h | h
                  · exact List.mem_append_left _ (hm3 m' h z)
                  · rw [List.mem_singleton] at h
                    rw [h]
                    exact List.mem_append_right _ (List.mem_singleton.mpr rfl)⟩
        · rintro σ H3 ⟨m1, m2, F3, D3, y2, y3, em, er, rfl, ex3, hs3, hm3⟩
          cases m2 with
          | cons m m2 => cases er
          | nil =>
            rw [List.append_nil] at em
            exact ⟨N1 ++ [(t, p)], N2, F3, D3, _, _, _, by rw [eN, List.append_assoc]; rfl, rfl, rfl, ex3, fun t' h m z => by
              rcases List.mem_append.mp h with h | h
              · exact hs3 _ (hd1 t' h m z)
              · rw [List.mem_singleton] at h
                subst h
                exact hm3 m (by rw [← em]; exact all4_mem m) z⟩
    · rintro σ H2 ⟨N1, N2, F, D2, y1, y2, y3, eN, er, rfl, ex, hd1⟩
      cases N2 with
      | cons t0 N2 => cases er
      | nil =>
        rw [List.append_nil] at eN
        refine ⟨_, rfl, k q F D2 H2 hq ex fun p hp => ?_⟩
        rcases ex.new p hp with h | h
        · right
          intro m z
          rcases hcl p h with ⟨t, ht, rfl⟩ | hdn
          · exact hd1 t (by rw [← eN]; exact ht) m z
          · exact ex.sub _ (hdn m z)
        · exact .inl h
def sp_explored : Sp := fun vs H Q _ => ∃ a b g xs ys G, vs = [.ref a, .ref b, .ref g] ∧ H a = some (.lst (List.map V.int xs)) ∧ H b = some (.lst (List.map V.int ys)) ∧ H g = some (.tup (pt2 G)) ∧ alk xs ys (0, 0) = true ∧ cnt xs ys ≤ 16000000 ∧
  ∀ d D H', H d = none → Same H H' → H' d = some (.dT (kvD D)) → GD xs ys D → (G ∈ ks D ∨ Clo xs ys (ks D)) → Q (.ref d) H'
theorem ok_explored (T : Txt P w K mg A) : FnOk P w K mg base CX0 4 A.a_explored A.d_explored ["levels", "other_levels", "goal"] sp_explored := by
  have G_explored_next : FnOk P w K mg base CX0 3 A.a_explored_next A.d_explored_next ["levels", "other_levels", "newest", "came_by"] sp_explored_next := ok_explored_next T
  refine T.F_explored.ok sc_explored (fun vs H Q E h => ?_) (fun cdv Ar outer s H vs Q E hr h => ?_)
  · obtain ⟨a, b, g, xs, ys, G, rfl, _⟩ := h
    rfl
  · obtain ⟨a, b, g, xs, ys, G, rfl, ha, hb, hG, h0, hc, k⟩ := h
    have hu := hu_of hr
    refine ⟨_, (pss_cons (ps_set (i := 3) sc_explored.nd rfl (Or.inl rfl) (pe_dispT (hu_of hr) (pe_tup (pa_cons pe_int (pa_cons pe_int pa_nil))) pe_non))
    (pss_cons (ps_set (i := 4) sc_explored.nd rfl (Or.inl rfl) (pe_lst (pa_cons (pe_tup (pa_cons pe_int (pa_cons pe_int pa_nil))) pa_nil)))
    (pss_cons (ps_while PassesOwn.never (PW.pt (pw_and (pt_cmpR op_gt (pe_callB call_lenV rfl T.b_len boot_len (pa_cons (pv 4) pa_nil)) pe_int (nomark _)) (pw_and1 (pt_cmp (pc_dnotin hu (pv 2) (pv 3))))))
      (pss_one (ps_set (i := 4) sc_explored.nd rfl (Or.inl rfl) (pe_call G_explored_next (hr.mono (by decide)) rfl T.m_explored_next T.k_explored_next T.B_explored_next .nil pass0 (pa_cons (pv 0) (pa_cons (pv 1) (pa_cons (pv 4) (pa_cons (pv 3) pa_nil))))))))
    (pss_one (ps_ret (pv 3)))))), ?_⟩
    have z2 : 2 ≤ sizeLine := by decide
    have z1 : 1 ≤ sizeLine := by decide
    refine fun d hd => ⟨z2, fun t0 ht0 => ?_⟩
    have S0 := same_upd (o := .dT []) hd
    have S1 := same_upd (o := .tup [V.int 0, V.int 0]) ht0
    have ed1 := S1 d _ upd_same
    have et0 : upd (upd H d (.dT [])) t0 (.tup [V.int 0, V.int 0]) t0 = some (.tup [V.int 0, V.int 0]) := upd_same
    have s1 := S0.trans S1
    generalize upd (upd H d (.dT [])) t0 (.tup [V.int 0, V.int 0]) = H1 at ed1 et0 s1
    refine ⟨t0, pkey (0, 0), rfl, et0, ed1, ?_⟩
    have ed2 : upd H1 d (.dT [(pkey (0, 0), V.non)]) d = some (.dT (kvD [((0, 0), none)])) := upd_same
    have s2 : Same H (upd H1 d (.dT [(pkey (0, 0), V.non)])) := s1.upd hd rfl
    generalize upd H1 d (.dT [(pkey (0, 0), V.non)]) = H2 at ed2 s2
    refine ⟨z2, fun t1 ht1 => ⟨z1, fun n hn => ?_⟩⟩
    have T1 := same_upd (o := .tup [V.int 0, V.int 0]) ht1
    have T2 := same_upd (o := .lst [V.ref t1]) hn
    have et1 := T2 t1 _ upd_same
    have en : upd (upd H2 t1 (.tup [V.int 0, V.int 0])) n (.lst [V.ref t1]) n = some (.lst (refs [(t1, (0, 0))])) := upd_same
    have ed3 := T2 _ _ (T1 _ _ ed2)
    have s3 := (s2.trans T1).trans T2
    generalize upd (upd H2 t1 (.tup [V.int 0, V.int 0])) n (.lst [V.ref t1]) = H3 at et1 en ed3 s3
    refine ⟨fun mm σ H4 => ∃ (n : Addr) (N : List (Addr × Pr)) (D : Dc), σ = [some (.ref a), some (.ref b), some (.ref g), some (.ref d), some (.ref n)] ∧ Same H H4 ∧ H4 n = some (.lst (refs N)) ∧ (∀ t ∈ N, H4 t.1 = some (.tup (pt2 t.2))) ∧ H4 d = some (.dT (kvD D)) ∧ GD xs ys D ∧ (∀ t ∈ N, t.2 ∈ ks D) ∧ CloN xs ys N D ∧
      cnt xs ys - D.length + (if N.length = 0 then 0 else 1) ≤ mm, ⟨_, n, [(t1, (0, 0))], [((0, 0), none)], rfl, s3, en, ?_, ed3, .base, ?_, ?_, Nat.le_refl _⟩, ?_⟩
    · intro t ht
      rw [List.mem_singleton] at ht
      subst ht
      exact et1
    · intro t ht
      rw [List.mem_singleton] at ht
      subst ht
      exact List.mem_singleton.mpr rfl
    · intro p hp
      exact .inl ⟨(t1, (0, 0)), List.mem_singleton.mpr rfl, (List.mem_singleton.mp hp).symm⟩
    · rintro mm σ H4 ⟨n, N, D, rfl, s4, en, hN, ed, hg, hND, hcl, hmm⟩
      refine ⟨_, rfl, _, _, rfl, .inl ⟨_, SqL.of en, rfl⟩, _, _, rfl, rfl, _, rfl, ?_⟩
      have lN : (refs N).length = N.length := List.length_map _
      rw [lN]
      by_cases hN0 : N.length = 0
      · rw [decide_eq_false (by omega)]
        refine iteF (iteF ⟨_, rfl, ?_⟩)
        refine k d D H4 hd s4 ed hg (.inr fun p hp m z => ?_)
        rcases hcl p hp with ⟨t, ht, _⟩ | h
        · rw [List.length_eq_zero_iff.mp hN0] at ht
          cases ht
        · exact h m z
      · rw [decide_eq_true (by omega)]
        refine iteT ⟨_, rfl, _, rfl, d, _, rfl, DGet.t (k := pkey G) ed (s4 _ _ hG), _, rfl, ?_⟩
        rw [get_kvD]
        by_cases hk : G ∈ ks D
        · rw [decide_eq_true hk]
          exact iteF ⟨_, rfl, k d D H4 hd s4 ed hg (.inl hk)⟩
        · rw [decide_eq_false hk]
          refine iteT ⟨fun σ' H' => ∃ (n : Addr) (N : List (Addr × Pr)) (D' : Dc), σ' = [some (.ref a), some (.ref b), some (.ref g), some (.ref d), some (.ref n)] ∧ Same H H' ∧ H' n = some (.lst (refs N)) ∧ (∀ t ∈ N, H' t.1 = some (.tup (pt2 t.2))) ∧ H' d = some (.dT (kvD D')) ∧ GD xs ys D' ∧ (∀ t ∈ N, t.2 ∈ ks D') ∧ CloN xs ys N D' ∧ D'.length = D.length + N.length, ?_, ?_⟩
          · rintro σ' H' ⟨n', N', D', rfl, s', en', hN', ed', hg', hND', hcl', hl'⟩
            refine ⟨_, ?_, n', N', D', rfl, s', en', hN', ed', hg', hND', hcl', Nat.le_refl _⟩
            have l1 := hg'.len h0
            rw [if_neg hN0] at hmm
            by_cases hN1 : N'.length = 0
            · rw [if_pos hN1]
              omega
            · rw [if_neg hN1]
              omega
          · refine ⟨_, rfl, _, rfl, _, rfl, _, rfl, a, b, n, d, xs, ys, N, D, rfl, s4 _ _ ha, s4 _ _ hb, en, hN, ed, hg, h0, hND, hc, hcl, fun q F D2 H5 hq ex hclF => ?_⟩
            exact ⟨q, F, D2, rfl, fun c o h => ex.kp c o (ne_of_none h hd) (s4 _ _ h), ex.q2, ex.tf, ex.d2, ex.g, ex.fk, hclF, ex.ln⟩
def sp_moves_to : Sp := fun vs H Q _ => ∃ g d xs ys G D, vs = [.ref g, .ref d] ∧ H g = some (.tup (pt2 G)) ∧ H d = some (.dT (kvD D)) ∧ GD xs ys D ∧ alk xs ys (0, 0) = true ∧ cnt xs ys ≤ 16000000 ∧ G ∈ ks D ∧
  ∀ p ms H', H p = none → Same H H' → H' p = some (.lst (List.map mvV ms)) → wlk xs ys (0, 0) ms = some G → ms.length ≤ cnt xs ys → (trc (0, 0) ms).Nodup → Q (.ref p) H'
theorem ok_moves_to (T : Txt P w K mg A) : FnOk P w K mg base CX0 2 A.a_moves_to A.d_moves_to ["goal", "came_by"] sp_moves_to := by
  have G_led_to : FnOk P w K mg base CX0 1 A.a_led_to A.d_led_to ["first", "second", "move"] sp_led_to := ok_led_to T
  refine T.F_moves_to.ok sc_moves_to (fun vs H Q E h => ?_) (fun cdv Ar outer s H vs Q E hr h => ?_)
  · obtain ⟨g, d, xs, ys, G, D, rfl, _⟩ := h
    rfl
  · obtain ⟨g, d, xs, ys, G, D, rfl, hG, hd, hg, h0, hc, hGD, k⟩ := h
    have hu := hu_of hr
    refine ⟨_, (pss_cons (ps_set (i := 2) sc_moves_to.nd rfl (Or.inl rfl) (pe_lst pa_nil))
    (pss_cons (ps_set (i := 3) sc_moves_to.nd rfl (Or.inl rfl) (pv 0))
    (pss_cons (ps_while PassesOwn.never (pt_cmpR (op_neT hr.units0) (pv 3) (pe_tup (pa_cons pe_int (pa_cons pe_int pa_nil))) (nomark _))
      (pss_cons (ps_set (i := 4) sc_moves_to.nd rfl (Or.inl rfl) (pe_dget hu (pv 1) (pv 3) (fun _ _ => rfl)))
      (pss_cons (ps_expr (pe_bm PySem.F.plainAttrs_list PySem.F.slot_list_append PySem.F.type_list_append mt_append (pv 2) (pa_cons (pv 4) pa_nil)))
      (pss_one (ps_set (i := 3) sc_moves_to.nd rfl (Or.inl rfl) (pe_call G_led_to (hr.mono (by decide)) rfl T.m_led_to T.k_led_to T.B_led_to .nil pass0 (pa_cons (pe_ix ix_tup (pv 3) pe_int (fun _ _ => rfl)) (pa_cons (pe_ix ix_tup (pv 3) pe_int (fun _ _ => rfl)) (pa_cons (pe_ix ix_gtab (pe_glob (v := .ref A.g_TAKEN_BACK) rfl T.m_TAKEN_BACK rfl) (pv 4) (fun _ _ => rfl)) pa_nil)))))))))
    (pss_one (ps_ret (pe_rev (pv 2))))))), ?_⟩
    have z2 : 2 ≤ sizeLine := by decide
    have lD := hg.len h0
    refine ⟨Nat.zero_le _, fun l hl => ?_⟩
    refine ⟨_, rfl, ?_⟩
    refine ⟨fun mm σ H4 => ∃ (t : Addr) (p : Pr) (ms : List Mv) (y : Option V), σ = [some (.ref g), some (.ref d), some (.ref l), some (.ref t), y] ∧ Same H H4 ∧ H4 t = some (.tup (pt2 p)) ∧ H4 l = some (.lst (List.map mvV ms)) ∧ p ∈ ks D ∧ wlk xs ys p ms.reverse = some G ∧ ms.length + (ks D).idxOf p ≤ D.length ∧ ((trc p ms.reverse).Nodup ∧ ∀ q ∈ trc p ms.reverse, (ks D).idxOf p ≤ (ks D).idxOf q) ∧ mm = (ks D).idxOf p,
      ⟨_, g, G, [], none, rfl, same_upd hl, same_upd hl _ _ hG, upd_same, hGD, rfl, ?_, ⟨List.nodup_cons.mpr ⟨(fun z => nomatch z), List.nodup_nil⟩, fun q hq => by rw [List.mem_singleton.mp hq]; exact Nat.le_refl _⟩, rfl⟩, ?_⟩
    · have := List.idxOf_lt_length_of_mem hGD
      rw [List.length_map] at this
      rw [List.length_nil]
      omega
    · rintro mm σ H4 ⟨t, p, ms, y, rfl, s4, et, el, hp, hw, hlen, hnd, rfl⟩
      refine ⟨_, rfl, z2, fun t0 ht0 => ?_⟩
      have S0 := same_upd (o := .tup [V.int 0, V.int 0]) ht0
      have et0 : upd H4 t0 (.tup [V.int 0, V.int 0]) t0 = some (.tup (pt2 (0, 0))) := upd_same
      have et := S0 _ _ et
      have el := S0 _ _ el
      have s5 := s4.trans S0
      generalize upd H4 t0 (.tup [V.int 0, V.int 0]) = H5 at et0 et el s5
      refine ⟨t, t0, _, _, rfl, rfl, SqT.of et, SqT.of et0, rfl, rfl, _, rfl, ?_⟩
      rw [eqL_pt]
      by_cases hp0 : p = (0, 0)
      · rw [decide_eq_true hp0]
        refine iteF ?_
        refine ⟨_, rfl, .inr ⟨l, _, rfl, SqL.of el, fun r hr' => ?_⟩⟩
        rw [← List.map_reverse]
        refine k r ms.reverse _ (s5.free hr') (s5.upd (s5.free hr') rfl) upd_same (by rw [← hp0]; exact hw) ?_ (by rw [← hp0]; exact hnd.1)
        rw [List.length_reverse]
        omega
      · rw [decide_eq_false hp0]
        obtain ⟨m, hm, hb, hi⟩ := hg.back hp hp0
        have hal := hg.alk h0 p hp
        refine iteT ⟨fun σ' H' => ∃ (t : Addr) (p' : Pr) (ms : List Mv) (y : Option V), σ' = [some (.ref g), some (.ref d), some (.ref l), some (.ref t), y] ∧ Same H H' ∧ H' t = some (.tup (pt2 p')) ∧ H' l = some (.lst (List.map mvV ms)) ∧ p' ∈ ks D ∧ wlk xs ys p' ms.reverse = some G ∧ ms.length + (ks D).idxOf p' ≤ D.length ∧ ((trc p' ms.reverse).Nodup ∧ ∀ q ∈ trc p' ms.reverse, (ks D).idxOf p' ≤ (ks D).idxOf q) ∧ (ks D).idxOf p' < (ks D).idxOf p, ?_, ?_⟩
        · rintro σ' H' ⟨t', p', ms', y', rfl, s', et', el', hp', hw', hl', hn', hlt⟩
          exact ⟨_, hlt, t', p', ms', y', rfl, s', et', el', hp', hw', hl', hn', rfl⟩
        · have ev : valV (kvD D) (pkey p) = some (mvV m) := by rw [val_kvD, hm]; rfl
          refine ⟨_, rfl, _, rfl, d, _, rfl, ev ▸ DGet.t (k := pkey p) (s5 _ _ hd) et, ?_⟩
          have lm : (List.map mvV ms).length < sizeLine := by rw [List.length_map]; exact smallM (by omega)
          refine ⟨_, rfl, .inl ⟨rfl, _, SqL.of el⟩, _, rfl, l, _, _, rfl, rfl, el, lm, ?_⟩
          have ntl : t ≠ l := ne_of et el (fun z => nomatch z)
          have et6 : upd H5 l (.lst (List.map mvV ms ++ [mvV m])) t = some (.tup (pt2 p)) := by rw [upd_ne ntl]; exact et
          have el6 : upd H5 l (.lst (List.map mvV ms ++ [mvV m])) l = some (.lst (List.map mvV (ms ++ [m]))) := by rw [upd_same, List.map_append]; rfl
          have s6 : Same H (upd H5 l (.lst (List.map mvV ms ++ [mvV m]))) := s5.upd hl rfl
          generalize upd H5 l (.lst (List.map mvV ms ++ [mvV m])) = H6 at et6 el6 s6
          refine ⟨_, rfl, t, _, _, _, rfl, rfl, SqT.of et6, atI_nat (j := 0) rfl, _, rfl, t, _, _, _, rfl, rfl, SqT.of et6, atI_nat (j := 1) rfl, ?_⟩
          refine ⟨_, rfl, _, _, _, _, rfl, rfl, T.t_TAKEN_BACK, back_tab m, ?_⟩
          refine ⟨p.1, p.2, bk m, rfl, fun t1 ht1 => ?_⟩
          refine ⟨t1, adv p (bk m), ms ++ [m], _, rfl, s6.trans (same_upd ht1), upd_same, same_upd ht1 _ _ el6, hb, ?_, ?_, ?_, hi⟩
          · rw [List.reverse_append, List.reverse_singleton, List.singleton_append]
            show (if UM.alk xs ys (adv (adv p (bk m)) m) = true then wlk xs ys (adv (adv p (bk m)) m) ms.reverse else none) = some G
            rw [adv_bk', if_pos hal]
            exact hw
          · rw [List.length_append, List.length_singleton]
            omega
          · rw [List.reverse_append, List.reverse_singleton, List.singleton_append]
            have et : trc (adv p (bk m)) (m :: ms.reverse) = adv p (bk m) :: trc p ms.reverse := by
              show adv p (bk m) :: trc (adv (adv p (bk m)) m) ms.reverse = _
              rw [adv_bk']
            rw [et]
            refine ⟨List.nodup_cons.mpr ⟨fun z => ?_, hnd.1⟩, fun q hq => ?_⟩
            · have := hnd.2 _ z
              omega
            · rcases List.mem_cons.mp hq with e | hq
              · rw [e]; exact Nat.le_refl _
              · have := hnd.2 q hq
                omega
end
end K09
set_option Elab.async false
set_option linter.all false
set_option maxRecDepth 100000
set_option maxHeartbeats 4000000
namespace K09
open PySem PySem.Spec PyProof.Rows L2 UM UT
section
variable {P : Program} {w : World} {K : PySem.W.Frag} {mg : Str → Option Value} {base : Heap} {A : Adr}
def sp_Way_init (C : Addr) : Sp := fun vs H Q _ => ∃ p dx b xs, vs = [.ref p, .ref b] ∧ H p = some (.ins C dx []) ∧ H b = some (.lst xs) ∧ ∀ l, H l = none → Q .non (upd (upd H l (.lst xs)) p (.ins C dx [("moves", .ref l)]))
theorem ok_Way_init (T : Txt P w K mg A) : FnOk P w K mg base CX0 1 A.a_Way_init A.d_Way_init ["self", "moves"] (sp_Way_init A.c_Way) := by
  refine T.F_Way_init.ok sc_Way_init (fun vs H Q E h => ?_) (fun cdv Ar outer s H vs Q E hr h => ?_)
  · obtain ⟨p, dx, b, xs, rfl, _⟩ := h
    rfl
  · obtain ⟨p, dx, b, xs, rfl, hp, hb, k⟩ := h
    have hu := hu_of hr
    refine ⟨_, (pss_one (ps_fld (pv 0) (pe_callTy call_list_of rfl T.b_list boot_list (pa_cons (pv 1) pa_nil)) rfl)), ?_⟩
    refine ⟨_, rfl, b, xs, rfl, .inl (SqL.of hb), fun l hl => ?_⟩
    exact ⟨_, rfl, p, _, dx, [], rfl, same_upd hl _ _ hp, T.cl_Way, T.n_Way_moves, (by show 0 < 1000; decide), k l hl⟩
def sp_Shut_init (C : Addr) : Sp := fun vs H Q _ => ∃ p dx b xs, vs = [.ref p, .ref b] ∧ H p = some (.ins C dx []) ∧ H b = some (.lst xs) ∧ ∀ l, H l = none → Q .non (upd (upd H l (.lst xs)) p (.ins C dx [("pairs", .ref l)]))
theorem ok_Shut_init (T : Txt P w K mg A) : FnOk P w K mg base CX0 1 A.a_Shut_init A.d_Shut_init ["self", "pairs"] (sp_Shut_init A.c_Shut) := by
  refine T.F_Shut_init.ok sc_Shut_init (fun vs H Q E h => ?_) (fun cdv Ar outer s H vs Q E hr h => ?_)
  · obtain ⟨p, dx, b, xs, rfl, _⟩ := h
    rfl
  · obtain ⟨p, dx, b, xs, rfl, hp, hb, k⟩ := h
    have hu := hu_of hr
    refine ⟨_, (pss_one (ps_fld (pv 0) (pe_callTy call_list_of rfl T.b_list boot_list (pa_cons (pv 1) pa_nil)) rfl)), ?_⟩
    refine ⟨_, rfl, b, xs, rfl, .inl (SqL.of hb), fun l hl => ?_⟩
    exact ⟨_, rfl, p, _, dx, [], rfl, same_upd hl _ _ hp, T.cl_Shut, T.n_Shut_pairs, (by show 0 < 1000; decide), k l hl⟩
def spG_reached (CW : Addr) : Sp := fun vs H Q _ => ∃ R S i j, vs = [.str (rt R), .str (rt S), .int i, .int j] ∧ R.length ≤ 16000000 ∧ S.length ≤ 16000000 ∧ alike (hts 0 R) (hts 0 S) i j = true ∧ cnt (hts 0 R) (hts 0 S) ≤ 16000000 ∧
  (∀ p dx l ms H', H l = none → Same H H' → H' p = some (.ins CW dx [("moves", .ref l)]) → H' l = some (.lst (List.map mvV ms)) → wlk (hts 0 R) (hts 0 S) (0, 0) ms = some (i, j) → Q (.ref p) H') ∧
  (∀ p Kp H', (0, 0) ∈ Kp → Clo (hts 0 R) (hts 0 S) Kp → (i, j) ∉ Kp → Q (.ref p) H')
def sp_reached (K : PySem.W.Frag) (Cr Cp CW : Addr) : Sp := fun vs H Q E => spG_reached CW vs H Q E ∨ spBad4 K Cr Cp vs H Q E
theorem ok_reached (T : Txt P w K mg A) : FnOk P w K mg base (CXf P w) 5 A.a_reached A.d_reached ["one", "other", "first", "second"] (sp_reached K A.c_BadRidge A.c_BadPlaces A.c_Way) := by
  have G_heights : FnOk P w K mg base (CXf P w) 3 A.a_heights A.d_heights ["ridge"] (sp_heights K A.c_BadRidge) := ok_heights T
  have G_check_places : FnOk P w K mg base (CXf P w) 3 A.a_check_places A.d_check_places ["levels", "other_levels", "first", "second"] (sp_check_places K A.c_BadPlaces) := ok_check_places T
  have G_explored : FnOk P w K mg base CX0 4 A.a_explored A.d_explored ["levels", "other_levels", "goal"] sp_explored := ok_explored T
  have G_moves_to : FnOk P w K mg base CX0 2 A.a_moves_to A.d_moves_to ["goal", "came_by"] sp_moves_to := ok_moves_to T
  have G_Way_init : FnOk P w K mg base CX0 1 A.a_Way_init A.d_Way_init ["self", "moves"] (sp_Way_init A.c_Way) := ok_Way_init T
  have G_Shut_init : FnOk P w K mg base CX0 1 A.a_Shut_init A.d_Shut_init ["self", "pairs"] (sp_Shut_init A.c_Shut) := ok_Shut_init T
  refine T.F_reached.okX sc_reached (fun vs H Q E h => ?_) (fun cdv Ar outer s H vs Q E hr h => ?_)
  · rcases h with ⟨R, S, i, j, rfl, _⟩ | ⟨C, h, _⟩
    · rfl
    · cases h <;> rfl
  · have hu := hu_of hr
    refine ⟨_, (pss_cons (ps_set (i := 4) sc_reached.nd rfl (Or.inl rfl) (pe_call G_heights (hr.mono (by decide)) rfl T.m_heights T.k_heights T.B_heights .nil (passes_of rfl rfl lets_def) (pa_cons (pv 0) pa_nil)))
    (pss_cons (ps_set (i := 5) sc_reached.nd rfl (Or.inl rfl) (pe_call G_heights (hr.mono (by decide)) rfl T.m_heights T.k_heights T.B_heights .nil (passes_of rfl rfl lets_def) (pa_cons (pv 1) pa_nil)))
    (pss_cons (ps_expr (pe_call G_check_places (hr.mono (by decide)) rfl T.m_check_places T.k_check_places T.B_check_places .nil (passes_of rfl rfl lets_def) (pa_cons (pv 4) (pa_cons (pv 5) (pa_cons (pv 2) (pa_cons (pv 3) pa_nil))))))
    (pss_cons (ps_set (i := 6) sc_reached.nd rfl (Or.inl rfl) (pe_call G_explored (hr.mono (by decide)) rfl T.m_explored T.k_explored T.B_explored .nil pass0 (pa_cons (pv 4) (pa_cons (pv 5) (pa_cons (pe_tup (pa_cons (pv 2) (pa_cons (pv 3) pa_nil))) pa_nil)))))
    (pss_cons (ps_if (pt_cmp (pc_din hu (pe_tup (pa_cons (pv 2) (pa_cons (pv 3) pa_nil))) (pv 6)))
      (pss_one (ps_ret (pe_make T.M_Way G_Way_init (hr.mono (by decide)) rfl T.m_Way T.B_Way_init .nil pass0 (pa_cons (pe_call G_moves_to (hr.mono (by decide)) rfl T.m_moves_to T.k_moves_to T.B_moves_to .nil pass0 (pa_cons (pe_tup (pa_cons (pv 2) (pa_cons (pv 3) pa_nil))) (pa_cons (pv 6) pa_nil))) pa_nil))))
      pss_nil)
    (pss_one (ps_ret (pe_make T.M_Shut G_Shut_init (hr.mono (by decide)) rfl T.m_Shut T.B_Shut_init .nil pass0 (pa_cons (pe_callTy (call_list_dT rfl) rfl T.b_list boot_list (pa_cons (pv 6) pa_nil)) pa_nil))))))))), ?_⟩
    have z2 : 2 ≤ sizeLine := by decide
    rcases h with ⟨R, S, i, j, rfl, hR, hS, hal, hc, kW, kS⟩ | ⟨C, h, k⟩
    rotate_left
    · cases h with
      | one h => exact ⟨_, rfl, .inr ⟨_, rfl, h, k⟩⟩
      | two hR h => exact ⟨_, rfl, .inl ⟨_, rfl, hR, fun p H1 hp s1 e1 => ⟨_, rfl, .inr ⟨_, rfl, h.same s1, fun H2 s2 => k H2 (s1.trans s2)⟩⟩⟩⟩
      | pl hR hS h =>
        refine ⟨_, rfl, .inl ⟨_, rfl, hR, fun p H1 hp s1 e1 => ⟨_, rfl, .inl ⟨_, rfl, hS, fun p' H2 hp' s2 e2 => ?_⟩⟩⟩⟩
        exact ⟨_, rfl, _, rfl, _, rfl, _, rfl, p, p', _, _, _, _, rfl, SqL.of (s2 _ _ e1), SqL.of e2, .inr ⟨h.same (s1.trans s2), k H2 (s1.trans s2)⟩⟩
    refine ⟨_, rfl, .inl ⟨R, rfl, hR, fun a H1 ha s1 e1 => ?_⟩⟩
    refine ⟨_, rfl, .inl ⟨S, rfl, hS, fun b H2 hb s2 e2 => ?_⟩⟩
    have e1 := s2 _ _ e1
    have s2 := s1.trans s2
    refine ⟨_, rfl, _, rfl, _, rfl, _, rfl, a, b, _, _, _, _, rfl, SqL.of e1, SqL.of e2, .inl ⟨i, j, rfl, rfl, hal, ?_⟩⟩
    refine ⟨_, rfl, _, rfl, _, rfl, _, rfl, z2, fun t ht => ?_⟩
    have S3 := same_upd (o := .tup [V.int i, V.int j]) ht
    refine ⟨a, b, t, _, _, (i, j), rfl, S3 _ _ e1, S3 _ _ e2, upd_same, alk00 R S, hc, fun d D H3 hd s3 e3 hg hgo => ?_⟩
    have s3 := (s2.trans S3).trans s3
    refine ⟨_, rfl, _, rfl, z2, fun t2 ht2 => ?_⟩
    have S4 := same_upd (o := .tup [V.int i, V.int j]) ht2
    have et2 : upd H3 t2 (.tup [V.int i, V.int j]) t2 = some (.tup (pt2 (i, j))) := upd_same
    have e4 := S4 _ _ e3
    have s4 := s3.trans S4
    generalize upd H3 t2 (.tup [V.int i, V.int j]) = H4 at et2 e4 s4
    refine ⟨_, rfl, d, _, rfl, DGet.t (k := pkey (i, j)) e4 et2, _, rfl, ?_⟩
    rw [get_kvD]
    by_cases hmem : (i, j) ∈ ks D
    · rw [decide_eq_true hmem]
      refine iteT ?_
      refine ⟨_, rfl, _, rfl, z2, fun t3 ht3 => ⟨_, rfl, t3, d, _, _, (i, j), D, rfl, upd_same, same_upd ht3 _ _ e4, hg, alk00 R S, hc, hmem, fun r ms H5 hr5 s5 e5 hw hl hnd => ?_⟩⟩
      have s5 := (s4.trans (same_upd ht3)).trans s5
      refine fun x dx hx hdx hne => ?_
      have e6 : upd (upd H5 dx (.own x)) x (.ins A.c_Way dx []) r = some (.lst (List.map mvV ms)) := by
        rw [upd_ne (ne_of_none e5 hx), upd_ne (ne_of_none e5 hdx)]
        exact e5
      have s6 : Same H (upd (upd H5 dx (.own x)) x (.ins A.c_Way dx [])) := (s5.upd (s5.free hdx) rfl).upd (s5.free hx) rfl
      refine ⟨x, dx, r, _, rfl, upd_same, e6, fun l hl6 => ⟨rfl, ?_⟩⟩
      have nlx : l ≠ x := fun z => by rw [z, upd_same] at hl6; cases hl6
      refine kW x dx l ms _ (s6.free hl6) ((s6.upd (s6.free hl6) rfl).upd (s5.free hx) rfl) upd_same ?_ hw
      rw [upd_ne nlx, upd_same]
    · rw [decide_eq_false hmem]
      refine iteF ?_
      have hcl := hgo.resolve_left hmem
      refine ⟨_, rfl, d, _, rfl, e4, fun r bs hr5 hlen hb => ?_⟩
      have e5 : upd H4 r (.lst (bs.map V.ref)) r = some (.lst (bs.map V.ref)) := upd_same
      generalize upd H4 r (.lst (bs.map V.ref)) = H5 at e5
      refine fun x dx hx hdx hne => ?_
      have e6 : upd (upd H5 dx (.own x)) x (.ins A.c_Shut dx []) r = some (.lst (bs.map V.ref)) := by
        rw [upd_ne (ne_of_none e5 hx), upd_ne (ne_of_none e5 hdx)]
        exact e5
      exact ⟨x, dx, r, _, rfl, upd_same, e6, fun l hl6 => ⟨rfl, kS x (ks D) _ hg.foot hcl hmem⟩⟩
theorem last_tot (R : List Bool) : atI ((hts 0 R).map V.int) (-1) = some (V.int (tot R)) := by
  refine atI_end ?_
  rw [List.length_map, List.getElem?_map, hts_last, Int.zero_add]
  rfl
inductive HT (K : PySem.W.Frag) (Cr Cc : Addr) (H : Hp) : V → Sum Int Addr → Prop
  | ok {R : List Bool} (hR : R.length ≤ 16000000) (hC : Clm R) : HT K Cr Cc H (.str (rt R)) (.inl (tot R))
  | rdg {v : V} (h : NoR K H v) : HT K Cr Cc H v (.inr Cr)
  | clm {R : List Bool} (hR : R.length ≤ 16000000) (h : ∃ x ∈ hts 0 R, x < 0 ∨ tot R < x) : HT K Cr Cc H (.str (rt R)) (.inr Cc)
theorem HT.same {K : PySem.W.Frag} {Cr Cc : Addr} {H H' : Hp} {v : V} {r : Sum Int Addr} (h : HT K Cr Cc H v r) (s : Same H H') : HT K Cr Cc H' v r := by
  cases h with
  | ok hR hC => exact .ok hR hC
  | rdg h => exact .rdg (h.same s)
  | clm hR h => exact .clm hR h
def sp_height_of_top (K : PySem.W.Frag) (Cr Cc : Addr) : Sp := fun vs H Q E => ∃ v r, vs = [v] ∧ HT K Cr Cc H v r ∧ (∀ t, r = .inl t → ∀ H', Same H H' → Q (.int t) H') ∧ (∀ C, r = .inr C → ∀ H', Same H H' → E (.ref C) none H')
theorem ok_height_of_top (T : Txt P w K mg A) : FnOk P w K mg base (CXf P w) 4 A.a_height_of_top A.d_height_of_top ["climb"] (sp_height_of_top K A.c_BadRidge A.c_BadClimb) := by
  have G_heights : FnOk P w K mg base (CXf P w) 3 A.a_heights A.d_heights ["ridge"] (sp_heights K A.c_BadRidge) := ok_heights T
  refine T.F_height_of_top.okX sc_height_of_top (fun vs H Q E h => ?_) (fun cdv Ar outer s H vs Q E hr h => ?_)
  · obtain ⟨v, r, rfl, _⟩ := h
    rfl
  · obtain ⟨v, r, rfl, h, k1, k2⟩ := h
    have hu := hu_of hr
    have z1 : 1 ≤ sizeLine := by decide
    refine ⟨_, (pss_cons (ps_set (i := 1) sc_height_of_top.nd rfl (Or.inl rfl) (pe_call G_heights (hr.mono (by decide)) rfl T.m_heights T.k_heights T.B_heights .nil (passes_of rfl rfl lets_def) (pa_cons (pv 0) pa_nil)))
    (pss_cons (ps_if (PW.pt (pw_or (pt_cmpR op_lt (pe_callB (call_minL rfl) rfl T.b_min boot_min (pa_cons (pv 1) pa_nil)) pe_int (nomark _)) (pw_or1 (pt_cmpR op_gt (pe_callB (call_maxL rfl) rfl T.b_max boot_max (pa_cons (pv 1) pa_nil)) (pe_ix ix_list (pv 1) (pe_un un_neg pe_int) (fun _ _ => rfl)) (nomark _)))))
      (pss_one (ps_raise lets_def rfl rfl T.m_BadClimb T.x_BadClimb (pa_cons pe_str pa_nil)))
      pss_nil)
    (pss_one (ps_ret (pe_ix ix_list (pv 1) (pe_un un_neg pe_int) (fun _ _ => rfl)))))), ?_⟩
    cases h with
    | rdg h => exact ⟨_, rfl, .inr ⟨_, rfl, h, k2 _ rfl⟩⟩
    | @ok R hR hC =>
      refine ⟨_, rfl, .inl ⟨R, rfl, hR, fun a H1 ha s1 e1 => ?_⟩⟩
      refine ⟨_, rfl, a, hts 0 R, rfl, SqL.of e1, hts_ne 0 R, fun m hm hle => ⟨_, _, rfl, rfl, _, rfl, ?_⟩⟩
      have q1 := (hC m hm).1
      refine iteFe (decide_eq_false (by omega)) ?_
      refine ⟨_, rfl, a, hts 0 R, rfl, SqL.of e1, hts_ne 0 R, fun M hM hge => ⟨_, rfl, _, rfl, a, _, _, _, rfl, rfl, SqL.of e1, last_tot R, _, _, rfl, rfl, _, rfl, ?_⟩⟩
      have q2 := (hC M hM).2
      refine iteFe (decide_eq_false (by omega)) ?_
      exact ⟨_, rfl, _, rfl, a, _, _, _, rfl, rfl, SqL.of e1, last_tot R, k1 _ rfl H1 s1⟩
    | @clm R hR h =>
      obtain ⟨x, hx, hb⟩ := h
      refine ⟨_, rfl, .inl ⟨R, rfl, hR, fun a H1 ha s1 e1 => ?_⟩⟩
      refine ⟨_, rfl, a, hts 0 R, rfl, SqL.of e1, hts_ne 0 R, fun m hm hle => ⟨_, _, rfl, rfl, _, rfl, ?_⟩⟩
      by_cases q1 : m < 0
      · exact iteTe (decide_eq_true q1) (iteT ⟨z1, k2 _ rfl H1 s1⟩)
      refine iteFe (decide_eq_false q1) ?_
      refine ⟨_, rfl, a, hts 0 R, rfl, SqL.of e1, hts_ne 0 R, fun M hM hge => ⟨_, rfl, _, rfl, a, _, _, _, rfl, rfl, SqL.of e1, last_tot R, _, _, rfl, rfl, _, rfl, ?_⟩⟩
      have q2 := hle x hx
      have q3 := hge x hx
      have q4 : tot R < M := by omega
      exact iteTe (decide_eq_true q4) ⟨z1, k2 _ rfl H1 s1⟩
def sp_check_alike (K : PySem.W.Frag) (C : Addr) : Sp := fun vs H Q E => ∃ p ns, vs = [.ref p] ∧ SqL K H p (List.map V.int ns) ∧ ns ≠ [] ∧ ((∀ x ∈ ns, ∀ y ∈ ns, x = y) → Q .non H) ∧ (∀ x ∈ ns, ∀ y ∈ ns, x ≠ y → E (.ref C) none H)
theorem ok_check_alike (T : Txt P w K mg A) : FnOk P w K mg base (CXf P w) 1 A.a_check_alike A.d_check_alike ["tops"] (sp_check_alike K A.c_Unlike) := by
  refine T.F_check_alike.okX sc_check_alike (fun vs H Q E h => ?_) (fun cdv Ar outer s H vs Q E hr h => ?_)
  · obtain ⟨p, ns, rfl, _⟩ := h
    rfl
  · obtain ⟨p, ns, rfl, hq, hne, k1, k2⟩ := h
    have hu := hu_of hr
    refine ⟨_, (pss_one (ps_if (pt_cmpR op_ne (pe_callB (call_minL rfl) rfl T.b_min boot_min (pa_cons (pv 0) pa_nil)) (pe_callB (call_maxL rfl) rfl T.b_max boot_max (pa_cons (pv 0) pa_nil)) (nomark _))
      (pss_one (ps_raise lets_def rfl rfl T.m_Unlike T.x_Unlike (pa_cons pe_str pa_nil)))
      pss_nil)), ?_⟩
    refine ⟨_, rfl, p, ns, rfl, hq, hne, fun m hm hle => ⟨_, rfl, p, ns, rfl, hq, hne, fun M hM hge => ⟨rfl, _, rfl, ?_⟩⟩⟩
    rw [dcI]
    by_cases e : m = M
    · rw [decide_eq_true e]
      refine iteF (k1 fun x hx y hy => ?_)
      have a1 := hle x hx
      have a2 := hge x hx
      have b1 := hle y hy
      have b2 := hge y hy
      omega
    · rw [decide_eq_false e]
      exact iteT ⟨by show 1 ≤ sizeLine; decide, k2 m hm M hM e⟩
inductive Bad2 (K : PySem.W.Frag) (Cr Cc Cu : Addr) (H : Hp) : List V → Addr → Prop
  | one {v u : V} {C : Addr} (h : HT K Cr Cc H v (.inr C)) : Bad2 K Cr Cc Cu H [v, u] C
  | two {v u : V} {t : Int} {C : Addr} (h : HT K Cr Cc H v (.inl t)) (h' : HT K Cr Cc H u (.inr C)) : Bad2 K Cr Cc Cu H [v, u] C
  | unl {v u : V} {t t' : Int} (h : HT K Cr Cc H v (.inl t)) (h' : HT K Cr Cc H u (.inl t')) (n : t ≠ t') : Bad2 K Cr Cc Cu H [v, u] Cu
def spBad2 (K : PySem.W.Frag) (Cr Cc Cu : Addr) : Sp := fun vs H _ E => ∃ C, Bad2 K Cr Cc Cu H vs C ∧ ∀ H', Same H H' → E (.ref C) none H'
def spG_together : Sp := fun vs H Q _ => vs = [.str (rt [true]), .str (rt [true])] ∧ ∀ l ms H', H l = none → Same H H' → H' l = some (.lst (List.map mvV ms)) → ms ≠ [] → Q (.ref l) H'
def sp_together (K : PySem.W.Frag) (Cr Cc Cu : Addr) : Sp := fun vs H Q E => spG_together vs H Q E ∨ spBad2 K Cr Cc Cu vs H Q E
theorem clm_u : Clm [true] := by
  intro x hx
  simp [hts, stp] at hx
  rcases hx with rfl | rfl <;> simp [tot, stp]
theorem ok_together (T : Txt P w K mg A) : FnOk P w K mg base (CXf P w) 6 A.a_together A.d_together ["one", "other"] (sp_together K A.c_BadRidge A.c_BadClimb A.c_Unlike) := by
  have G_height_of_top : FnOk P w K mg base (CXf P w) 4 A.a_height_of_top A.d_height_of_top ["climb"] (sp_height_of_top K A.c_BadRidge A.c_BadClimb) := ok_height_of_top T
  have G_check_alike : FnOk P w K mg base (CXf P w) 1 A.a_check_alike A.d_check_alike ["tops"] (sp_check_alike K A.c_Unlike) := ok_check_alike T
  have G_reached : FnOk P w K mg base (CXf P w) 5 A.a_reached A.d_reached ["one", "other", "first", "second"] (sp_reached K A.c_BadRidge A.c_BadPlaces A.c_Way) := ok_reached T
  refine T.F_together.okX sc_together (fun vs H Q E h => ?_) (fun cdv Ar outer s H vs Q E hr h => ?_)
  · rcases h with ⟨rfl, _⟩ | ⟨C, h, _⟩
    · rfl
    · cases h <;> rfl
  · have hu := hu_of hr
    refine ⟨_, (pss_cons (ps_expr (pe_call G_check_alike (hr.mono (by decide)) rfl T.m_check_alike T.k_check_alike T.B_check_alike .nil (passes_of rfl rfl lets_def) (pa_cons (pe_lst (pa_cons (pe_call G_height_of_top (hr.mono (by decide)) rfl T.m_height_of_top T.k_height_of_top T.B_height_of_top .nil (passes_of rfl rfl lets_def) (pa_cons (pv 0) pa_nil)) (pa_cons (pe_call G_height_of_top (hr.mono (by decide)) rfl T.m_height_of_top T.k_height_of_top T.B_height_of_top .nil (passes_of rfl rfl lets_def) (pa_cons (pv 1) pa_nil)) pa_nil))) pa_nil)))
    (pss_one (ps_ret (pe_fld (pe_call G_reached (hr.mono (by decide)) rfl T.m_reached T.k_reached T.B_reached .nil (passes_of rfl rfl lets_def) (pa_cons (pv 0) (pa_cons (pv 1) (pa_cons (pe_callB call_lenV rfl T.b_len boot_len (pa_cons (pv 0) pa_nil)) (pa_cons (pe_callB call_lenV rfl T.b_len boot_len (pa_cons (pv 1) pa_nil)) pa_nil))))) rfl)))), ?_⟩
    have z2 : 2 ≤ sizeLine := by decide
    rcases h with ⟨rfl, k⟩ | ⟨C, h, k⟩
    rotate_left
    · cases h with
      | one h => exact ⟨_, rfl, _, _, rfl, h, (fun t e => nomatch e), fun C' e => by cases e; exact k⟩
      | two h h' => exact ⟨_, rfl, _, _, rfl, h, (fun t e H1 s1 => ⟨_, rfl, _, _, rfl, h'.same s1, (fun t e => nomatch e), fun C' e => by cases e; exact fun H2 s2 => k H2 (s1.trans s2)⟩), fun C' e => nomatch e⟩
      | @unl v u t t' h h' n =>
        refine ⟨_, rfl, _, _, rfl, h, (fun t e H1 s1 => ⟨_, rfl, _, _, rfl, h'.same s1, (fun t' e' H2 s2 => ?_), fun C' e => nomatch e⟩), fun C' e => nomatch e⟩
        cases e
        cases e'
        refine ⟨z2, fun p hp => ?_⟩
        have s3 := (s1.trans s2).trans (same_upd (o := .lst [V.int t, V.int t']) hp)
        refine ⟨p, [t, t'], rfl, SqL.of upd_same, (fun z => nomatch z), (fun heq => absurd (heq t (by simp) t' (by simp)) n), fun x hx y hy hne => k _ s3⟩
    have z1 : (rt [true]).length ≤ sizeLine := by decide
    have hT : HT K A.c_BadRidge A.c_BadClimb H (.str (rt [true])) (.inl (tot [true])) := .ok (by decide) clm_u
    refine ⟨_, rfl, _, _, rfl, hT, (fun t e H1 s1 => ⟨_, rfl, _, _, rfl, hT.same s1, (fun t' e' H2 s2 => ?_), fun C' e => nomatch e⟩), fun C' e => nomatch e⟩
    cases e
    cases e'
    refine ⟨z2, fun p hp => ?_⟩
    have s3 := (s1.trans s2).trans (same_upd (o := .lst [V.int (tot [true]), V.int (tot [true])]) hp)
    refine ⟨p, [tot [true], tot [true]], rfl, SqL.of upd_same, (fun z => nomatch z), fun heq => ?_, fun x hx y hy hne => ?_⟩
    · refine ⟨_, rfl, _, rfl, _, rfl, _, _, rfl, ⟨z1, rfl⟩, _, rfl, _, _, rfl, ⟨z1, rfl⟩, .inl ⟨[true], [true], _, _, rfl, by decide, by decide, by decide +kernel, by decide +kernel, fun p dx l ms H' hl s' ep el hw => ?_, fun p Kp H' h0 hc hn => ?_⟩⟩
      · refine ⟨p, _, dx, _, _, rfl, ep, T.cl_Way, T.n_Way_moves, rfl, k l ms H' (s3.free hl) (s3.trans s') el fun z => ?_⟩
        subst z
        revert hw
        decide +kernel
      · exact absurd (hc (0, 0) h0 (true, true) (by decide +kernel)) hn
    · apply absurd _ hne
      simp only [List.mem_cons, List.not_mem_nil, or_false] at hx hy
      rcases hx with rfl | rfl <;> rcases hy with rfl | rfl <;> rfl
inductive BadU (K : PySem.W.Frag) (Cr Cc Cu : Addr) (H : Hp) : V → Addr → Prop
  | nol {v : V} (h : NoT K "list" H v) : BadU K Cr Cc Cu H v Cc
  | nil {a : Addr} (h : H a = some (.lst [])) : BadU K Cr Cc Cu H (.ref a) Cc
  | itm {a : Addr} {pre rest : List V} {x : V} {C : Addr} (h : H a = some (.lst (pre ++ x :: rest))) (hl : (pre ++ x :: rest).length ≤ 100) (hp : ∀ y ∈ pre, ∃ t, HT K Cr Cc H y (.inl t)) (hx : HT K Cr Cc H x (.inr C)) : BadU K Cr Cc Cu H (.ref a) C
  | unl {a : Addr} {xs : List V} {x y : V} {t t' : Int} (h : H a = some (.lst xs)) (hl : xs.length ≤ 100) (hp : ∀ y ∈ xs, ∃ t, HT K Cr Cc H y (.inl t)) (hx : x ∈ xs) (hy : y ∈ xs) (h1 : HT K Cr Cc H x (.inl t)) (h2 : HT K Cr Cc H y (.inl t')) (n : t ≠ t') : BadU K Cr Cc Cu H (.ref a) Cu
def spBadU (K : PySem.W.Frag) (Cr Cc Cu : Addr) : Sp := fun vs H _ E => ∃ v C, vs = [v] ∧ BadU K Cr Cc Cu H v C ∧ ∀ H', Same H H' → E (.ref C) none H'
def totS (z : Str) : Int := (z.cps.toList.map fun c => if c = 117 then (1 : Int) else -1).sum
def topV : V → V
  | .str z => .int (totS z)
  | v => v
theorem totS_rt (R : List Bool) : totS (rt R) = tot R := by
  unfold totS rt tx tot
  rw [List.map_map]
  congr 1
  apply List.map_congr_left
  intro b _
  cases b <;> rfl
theorem HT.top {K : PySem.W.Frag} {Cr Cc : Addr} {H : Hp} {v : V} {t : Int} (h : HT K Cr Cc H v (.inl t)) : topV v = .int t := by
  cases h with
  | ok hR hC => exact congrArg V.int (totS_rt _)
theorem tops_int {K : PySem.W.Frag} {Cr Cc : Addr} {H : Hp} : ∀ {xs : List V}, (∀ y ∈ xs, ∃ t, HT K Cr Cc H y (.inl t)) → ∃ ns : List Int, xs.map topV = ns.map V.int
  | [], _ => ⟨[], rfl⟩
  | x :: xs, h => by
    obtain ⟨t, ht⟩ := h x List.mem_cons_self
    obtain ⟨ns, e⟩ := tops_int fun y hy => h y (List.mem_cons_of_mem _ hy)
    exact ⟨t :: ns, by rw [List.map_cons, List.map_cons, e, ht.top]⟩
theorem ok_check_climbs (T : Txt P w K mg A) : FnOk P w K mg base (CXf P w) 5 A.a_check_climbs A.d_check_climbs ["values"] (spBadU K A.c_BadRidge A.c_BadClimb A.c_Unlike) := by
  have G_height_of_top : FnOk P w K mg base (CXf P w) 4 A.a_height_of_top A.d_height_of_top ["climb"] (sp_height_of_top K A.c_BadRidge A.c_BadClimb) := ok_height_of_top T
  have G_check_alike : FnOk P w K mg base (CXf P w) 1 A.a_check_alike A.d_check_alike ["tops"] (sp_check_alike K A.c_Unlike) := ok_check_alike T
  refine T.F_check_climbs.okX sc_check_climbs (fun vs H Q E h => ?_) (fun cdv Ar outer s H vs Q E hr h => ?_)
  · obtain ⟨v, C, rfl, _⟩ := h
    rfl
  · obtain ⟨v, C, rfl, h, k⟩ := h
    have hu := hu_of hr
    have z1 : 1 ≤ sizeLine := by decide
    refine ⟨_, (pss_cons (ps_if (PW.pt (pw_or (pt_not (pt_val (pe_callB call_isinst rfl T.b_isinstance boot_isinstance (pa_cons (pv 0) (pa_cons (pe_bltn (v := .ty "list") rfl T.b_list boot_list rfl) pa_nil))))) (pw_or1 (pt_cmpR op_eq (pe_callB call_lenV rfl T.b_len boot_len (pa_cons (pv 0) pa_nil)) pe_int (nomark _)))))
      (pss_one (ps_raise lets_def rfl rfl T.m_BadClimb T.x_BadClimb (pa_cons pe_str pa_nil)))
      pss_nil)
    (pss_one (ps_expr (pe_call G_check_alike (hr.mono (by decide)) rfl T.m_check_alike T.k_check_alike T.B_check_alike .nil (passes_of rfl rfl lets_def) (pa_cons (pe_compX (te := (tCall _ _ _ (tCons (tVar 0) tNil))) lets_def c0_check_climbs rfl (pi_list (pv 0)) (fun cl C s' H' fp => pifs_nil) (fun cl C s' H' fp pn xe L => (pe_call G_height_of_top (hr.mono (by decide)) rfl T.m_height_of_top T.k_height_of_top T.B_height_of_top .nil (passes_of rfl rfl L) (pa_cons (pv 0) pa_nil)))) pa_nil))))), ?_⟩
    cases h with
    | nol h =>
      obtain ⟨t, ty, hk⟩ := h
      exact ⟨_, rfl, _, _, _, _, rfl, ty, hk, _, rfl, iteT (iteT ⟨z1, k H (Same.refl _)⟩)⟩
    | nil h =>
      refine ⟨_, rfl, _, _, _, _, rfl, .lst h, rfl, _, rfl, iteF ?_⟩
      exact ⟨_, rfl, _, _, rfl, .inl ⟨_, SqL.of h, rfl⟩, rfl, _, rfl, iteTe (by decide) ⟨z1, k H (Same.refl _)⟩⟩
    | @itm a pre rest x C h hl hp hx =>
      have hlen : (pre ++ x :: rest).length ≠ 0 := by rw [List.length_append, List.length_cons]; omega
      rw [List.length_append, List.length_cons] at hl
      refine ⟨_, rfl, _, _, _, _, rfl, .lst h, rfl, _, rfl, iteF ?_⟩
      refine ⟨_, rfl, _, _, rfl, .inl ⟨_, SqL.of h, rfl⟩, rfl, _, rfl, iteFe (decide_eq_false fun z => ?_) ?_⟩
      · have z := V.int.inj z
        omega
      refine ⟨_, rfl, a, rfl, ⟨_, SqL.of h⟩, comp_stop (ItOf.list K a (pre ++ x :: rest)) topV (smallM (by omega)) (fun _ s1 => SqL.of (s1 _ _ h)) (fun y hy H2 s2 Rk kk => ?_) (fun H2 s2 Rk => ?_)⟩
      · obtain ⟨t, ht⟩ := hp y hy
        refine ⟨_, rfl, _, _, rfl, ht.same s2, (fun t' e H3 s3 => ?_), fun C' e => nomatch e⟩
        cases e
        have q := kk H3 s3
        rw [ht.top] at q
        exact q
      · exact ⟨_, rfl, _, _, rfl, hx.same s2, (fun t' e => nomatch e), fun C' e => by cases e; exact fun H3 s3 => k H3 (s2.trans s3)⟩
    | @unl a xs x y t t' h hl hp hx hy h1 h2 n =>
      refine ⟨_, rfl, _, _, _, _, rfl, .lst h, rfl, _, rfl, iteF ?_⟩
      have hlen : xs.length ≠ 0 := fun z => by rw [List.length_eq_zero_iff] at z; rw [z] at hx; cases hx
      refine ⟨_, rfl, _, _, rfl, .inl ⟨_, SqL.of h, rfl⟩, rfl, _, rfl, iteFe (decide_eq_false fun z => ?_) ?_⟩
      · have z := V.int.inj z
        omega
      obtain ⟨ns, en⟩ := tops_int hp
      have mem : ∀ {v : V} {t : Int}, v ∈ xs → HT K A.c_BadRidge A.c_BadClimb H v (.inl t) → t ∈ ns := fun {v t} hv ht => by
        have z : V.int t ∈ xs.map topV := List.mem_map.mpr ⟨v, hv, ht.top⟩
        rw [en] at z
        obtain ⟨t2, z1, z2⟩ := List.mem_map.mp z
        cases z2
        exact z1
      refine ⟨_, rfl, a, rfl, ⟨_, SqL.of h⟩, comp_map (ItOf.list K a xs) topV (bigM (by omega)) (fun _ s1 => SqL.of (s1 _ _ h)) (fun y hy H2 s2 Rk kk => ?_) (fun D H2 hD s2 e => ?_)⟩
      · obtain ⟨t, ht⟩ := hp y hy
        refine ⟨_, rfl, _, _, rfl, ht.same s2, (fun t' e H3 s3 => ?_), fun C' e => nomatch e⟩
        cases e
        have q := kk H3 s3
        rw [ht.top] at q
        exact q
      · rw [en] at e
        exact ⟨D, ns, rfl, SqL.of e, (fun z => by have := mem hx h1; rw [z] at this; cases this), (fun heq => absurd (heq t (mem hx h1) t' (mem hy h2)) n), fun x hx y hy hne => k H2 s2⟩
theorem ok_in_unison (T : Txt P w K mg A) : FnOk P w K mg base (CXf P w) 6 A.a_in_unison A.d_in_unison ["climbs"] (spBadU K A.c_BadRidge A.c_BadClimb A.c_Unlike) := by
  have G_check_climbs : FnOk P w K mg base (CXf P w) 5 A.a_check_climbs A.d_check_climbs ["values"] (spBadU K A.c_BadRidge A.c_BadClimb A.c_Unlike) := ok_check_climbs T
  refine T.F_in_unison.okX sc_in_unison (fun vs H Q E h => ?_) (fun cdv Ar outer s H vs Q E hr h => ?_)
  · obtain ⟨v, C, rfl, _⟩ := h
    rfl
  · obtain ⟨v, C, rfl, h, k⟩ := h
    have hu := hu_of hr
    refine ⟨_, (pss_cons (ps_expr (pe_call G_check_climbs (hr.mono (by decide)) rfl T.m_check_climbs T.k_check_climbs T.B_check_climbs .nil (passes_of rfl rfl lets_def) (pa_cons (pv 0) pa_nil)))
    (pss_cons ps_never (pss_cons ps_never (pss_cons ps_never (pss_one ps_never))))), ?_⟩
    exact ⟨_, rfl, v, C, rfl, h, k⟩
def NoG (R : List Bool) : Prop := tot R ≠ 0 ∨ ∃ x ∈ hts 0 R, x < 0
def sp_check_range (K : PySem.W.Frag) (C : Addr) : Sp := fun vs H Q E => ∃ a R, vs = [.ref a] ∧ SqL K H a ((hts 0 R).map V.int) ∧ ((Rng R ∧ Q .non H) ∨ (NoG R ∧ E (.ref C) none H))
theorem ok_check_range (T : Txt P w K mg A) : FnOk P w K mg base (CXf P w) 1 A.a_check_range A.d_check_range ["levels"] (sp_check_range K A.c_BadRange) := by
  refine T.F_check_range.okX sc_check_range (fun vs H Q E h => ?_) (fun cdv Ar outer s H vs Q E hr h => ?_)
  · obtain ⟨a, R, rfl, _⟩ := h
    rfl
  · obtain ⟨a, R, rfl, hx, h⟩ := h
    have hu := hu_of hr
    have z1 : 1 ≤ sizeLine := by decide
    refine ⟨_, (pss_one (ps_if (PW.pt (pw_or (pt_cmpR op_ne (pe_ix ix_list (pv 0) (pe_un un_neg pe_int) (fun _ _ => rfl)) pe_int (nomark _)) (pw_or1 (pt_cmpR op_lt (pe_callB (call_minL rfl) rfl T.b_min boot_min (pa_cons (pv 0) pa_nil)) pe_int (nomark _)))))
      (pss_one (ps_raise lets_def rfl rfl T.m_BadRange T.x_BadRange (pa_cons pe_str pa_nil)))
      pss_nil)), ?_⟩
    refine ⟨_, rfl, _, rfl, a, _, _, _, rfl, rfl, hx, last_tot R, rfl, _, rfl, ?_⟩
    rw [dcI]
    rcases h with ⟨hR, q⟩ | ⟨hn, q⟩
    · rw [decide_eq_true hR.1]
      refine iteF ⟨_, rfl, a, hts 0 R, rfl, hx, hts_ne 0 R, fun m hm _ => ⟨_, _, rfl, rfl, _, rfl, ?_⟩⟩
      have q1 := hR.2 m hm
      exact iteFe (decide_eq_false (by omega)) q
    · by_cases e : tot R = 0
      · rw [decide_eq_true e]
        obtain ⟨x, hx2, hb⟩ := hn.resolve_left fun z => z e
        refine iteF ⟨_, rfl, a, hts 0 R, rfl, hx, hts_ne 0 R, fun m hm hle => ⟨_, _, rfl, rfl, _, rfl, ?_⟩⟩
        have q1 := hle x hx2
        exact iteTe (decide_eq_true (by omega)) ⟨z1, q⟩
      · rw [decide_eq_false e]
        exact iteT (iteT ⟨z1, q⟩)
inductive BadG (K : PySem.W.Frag) (Cr Cg : Addr) (H : Hp) : V → Addr → Prop
  | rdg {v : V} (h : NoR K H v) : BadG K Cr Cg H v Cr
  | rng {R : List Bool} (hR : R.length ≤ 16000000) (h : NoG R) : BadG K Cr Cg H (.str (rt R)) Cg
def spBadG (K : PySem.W.Frag) (Cr Cg : Addr) : Sp := fun vs H _ E => ∃ v C, vs = [v] ∧ BadG K Cr Cg H v C ∧ ∀ H', Same H H' → E (.ref C) none H'
def spG_meeting : Sp := fun vs H Q _ => vs = [.str (rt [true, false])] ∧ ∀ l ms H', H l = none → Same H H' → H' l = some (.lst (List.map mvV ms)) → ms ≠ [] → Q (.ref l) H'
def sp_meeting (K : PySem.W.Frag) (Cr Cg : Addr) : Sp := fun vs H Q E => spG_meeting vs H Q E ∨ spBadG K Cr Cg vs H Q E
theorem rng_ud : Rng [true, false] := by
  refine ⟨by decide, fun x hx => ?_⟩
  simp [hts, stp] at hx
  rcases hx with rfl | rfl | rfl <;> decide
theorem ok_meeting (T : Txt P w K mg A) : FnOk P w K mg base (CXf P w) 7 A.a_meeting A.d_meeting ["ridge"] (sp_meeting K A.c_BadRidge A.c_BadRange) := by
  have G_heights : FnOk P w K mg base (CXf P w) 3 A.a_heights A.d_heights ["ridge"] (sp_heights K A.c_BadRidge) := ok_heights T
  have G_check_range : FnOk P w K mg base (CXf P w) 1 A.a_check_range A.d_check_range ["levels"] (sp_check_range K A.c_BadRange) := ok_check_range T
  have G_about : FnOk P w K mg base (CXf P w) 4 A.a_about A.d_about ["ridge"] (sp_about K A.c_BadRidge) := ok_about T
  have G_together : FnOk P w K mg base (CXf P w) 6 A.a_together A.d_together ["one", "other"] (sp_together K A.c_BadRidge A.c_BadClimb A.c_Unlike) := ok_together T
  refine T.F_meeting.okX sc_meeting (fun vs H Q E h => ?_) (fun cdv Ar outer s H vs Q E hr h => ?_)
  · rcases h with ⟨rfl, _⟩ | ⟨v, C, rfl, _⟩ <;> rfl
  · have hu := hu_of hr
    refine ⟨_, (pss_cons (ps_set (i := 1) sc_meeting.nd rfl (Or.inl rfl) (pe_call G_heights (hr.mono (by decide)) rfl T.m_heights T.k_heights T.B_heights .nil (passes_of rfl rfl lets_def) (pa_cons (pv 0) pa_nil)))
    (pss_cons (ps_expr (pe_call G_check_range (hr.mono (by decide)) rfl T.m_check_range T.k_check_range T.B_check_range .nil (passes_of rfl rfl lets_def) (pa_cons (pv 1) pa_nil)))
    (pss_cons (ps_set (i := 2) sc_meeting.nd rfl (Or.inl rfl) (pe_bm PySem.F.plainAttrs_list PySem.F.slot_list_index PySem.F.type_list_index mt_index (pv 1) (pa_cons (pe_callB (call_maxL rfl) rfl T.b_max boot_max (pa_cons (pv 1) pa_nil)) pa_nil)))
    (pss_one (ps_ret (pe_call G_together (hr.mono (by decide)) rfl T.m_together T.k_together T.B_together .nil (passes_of rfl rfl lets_def) (pa_cons (pe_slice sl_str (pv 0) po_none (po_some (pv 2))) (pa_cons (pe_call G_about (hr.mono (by decide)) rfl T.m_about T.k_about T.B_about .nil (passes_of rfl rfl lets_def) (pa_cons (pe_slice sl_str (pv 0) (po_some (pv 2)) po_none) pa_nil)) pa_nil)))))))), ?_⟩
    rcases h with ⟨rfl, k⟩ | ⟨v, C, rfl, h, k⟩
    rotate_left
    · cases h with
      | rdg h => exact ⟨_, rfl, .inr ⟨_, rfl, h, k⟩⟩
      | @rng R hR h => exact ⟨_, rfl, .inl ⟨R, rfl, hR, fun a H1 ha s1 e1 => ⟨_, rfl, a, R, rfl, SqL.of e1, .inr ⟨h, k H1 s1⟩⟩⟩⟩
    refine ⟨_, rfl, .inl ⟨[true, false], rfl, by decide, fun a H1 ha s1 e1 => ?_⟩⟩
    refine ⟨_, rfl, a, [true, false], rfl, SqL.of e1, .inl ⟨rng_ud, ?_⟩⟩
    refine ⟨_, rfl, .inl ⟨rfl, _, SqL.of e1⟩, _, rfl, a, hts 0 [true, false], rfl, SqL.of e1, hts_ne 0 _, fun M hM hge => ?_⟩
    have eM : M = 1 := by
      have h1 := hge 1 (by decide)
      have : hts 0 [true, false] = [0, 1, 0] := by decide
      rw [this] at hM
      simp at hM
      omega
    subst eM
    have hno : ∀ n : Nat, n < 1 → (hts 0 [true, false])[n]? ≠ some 1 := fun n hn => by
      have z : n = 0 := by omega
      subst z
      decide
    refine ⟨a, hts 0 [true, false], 1, 1, rfl, rfl, SqL.of e1, by decide, hno, ?_⟩
    have lz : (rt [true, false]).length ≤ sizeLine := by decide
    refine ⟨_, rfl, _, rfl, _, rfl, _, rfl, lz, _, rfl, _, rfl, _, rfl, _, rfl, lz, .inl ⟨[false], (by rw [show ((1 : Nat) : Int) = ((1 : Nat) : Int) from rfl, cut_rt_from]; rfl), by decide, fun H2 s2 => ?_⟩⟩
    refine .inl ⟨by rw [cut_rt_to]; rfl, fun l ms H3 hl s3 e3 hne => k l ms H3 ((s1.trans s2).free hl) ((s1.trans s2).trans s3) e3 hne⟩
theorem ok_changed (T : Txt P w K mg A) : FnOk P w K mg base (CXf P w) 8 A.a_changed A.d_changed ["ridge"] (spBadG K A.c_BadRidge A.c_BadRange) := by
  have G_meeting : FnOk P w K mg base (CXf P w) 7 A.a_meeting A.d_meeting ["ridge"] (sp_meeting K A.c_BadRidge A.c_BadRange) := ok_meeting T
  refine T.F_changed.okX sc_changed (fun vs H Q E h => ?_) (fun cdv Ar outer s H vs Q E hr h => ?_)
  · obtain ⟨v, C, rfl, _⟩ := h
    rfl
  · obtain ⟨v, C, rfl, h, k⟩ := h
    have hu := hu_of hr
    refine ⟨_, (pss_cons (ps_set (i := 1) sc_changed.nd rfl (Or.inl rfl) (pe_call G_meeting (hr.mono (by decide)) rfl T.m_meeting T.k_meeting T.B_meeting .nil (passes_of rfl rfl lets_def) (pa_cons (pv 0) pa_nil)))
    (pss_one ps_never)), ?_⟩
    exact ⟨_, rfl, .inr ⟨v, C, rfl, h, k⟩⟩
end
end K09
set_option Elab.async false
set_option linter.all false
set_option maxRecDepth 100000
set_option maxHeartbeats 4000000
namespace K09
open PySem PySem.Spec PyProof.Rows L2 UM UT
theorem rd_pick {K : PySem.W.Frag} {H : Hp} {Q : VK} {l : Addr} {xs : List V} {i : Int} (hx : SqL K H l xs) (h0 : 0 ≤ i) (h1 : i < (xs.length : Int)) (k : ∀ v ∈ xs, Q v H) : rIxL K (.ref l) (.int i) H Q := by
  obtain ⟨n, rfl⟩ : ∃ n : Nat, i = (n : Int) := ⟨i.toNat, by omega⟩
  have hn : n < xs.length := by omega
  exact ⟨l, xs, _, xs[n], rfl, rfl, hx, atI_nat (List.getElem?_eq_getElem hn), k _ (List.getElem_mem hn)⟩
theorem NoR.txt {K : PySem.W.Frag} {H : Hp} {z : Str} (h : (decide (z.length ≤ sizeLine) && !decide (Txt.count z "u" + Txt.count z "d" = (z.length : Int))) = true) : NoR K H (.str z) := by
  rw [Bool.and_eq_true, Bool.not_eq_true'] at h
  exact .inr ⟨z, rfl, of_decide_eq_true h.1, of_decide_eq_false h.2⟩
theorem five (P : Nat → Prop) (h0 : P 0) (h1 : P 1) (h2 : P 2) (h3 : P 3) (h4 : P 4) (j : Int) : P (j % 5).toNat := by
  have h : (j % 5).toNat = 0 ∨ (j % 5).toNat = 1 ∨ (j % 5).toNat = 2 ∨ (j % 5).toNat = 3 ∨ (j % 5).toNat = 4 := by omega
  rcases h with h | h | h | h | h <;> rw [h] <;> assumption
def uds (n : Nat) : Str := (⟨((List.replicate n (Str.ofString "ud").cps.toList).flatten).toArray⟩ : Str) ++ Str.ofString "-"
theorem uds_len (j : Int) : (⟨((List.replicate (j % 5).toNat (Str.ofString "ud").cps.toList).flatten).toArray⟩ : Str).length + (Str.ofString "-").length ≤ sizeLine :=
  five (fun n => (⟨((List.replicate n (Str.ofString "ud").cps.toList).flatten).toArray⟩ : Str).length + (Str.ofString "-").length ≤ sizeLine) (by decide +kernel) (by decide +kernel) (by decide +kernel) (by decide +kernel) (by decide +kernel) j
theorem uds_no {K : PySem.W.Frag} {H : Hp} (j : Int) : NoR K H (.str (uds (j % 5).toNat)) :=
  five (fun n => NoR K H (.str (uds n))) (NoR.txt (by decide +kernel)) (NoR.txt (by decide +kernel)) (NoR.txt (by decide +kernel)) (NoR.txt (by decide +kernel)) (NoR.txt (by decide +kernel)) j
section
variable {P : Program} {w : World} {K : PySem.W.Frag} {mg : Str → Option Value} {base : Heap} {A : Adr}
def spAll (C : Addr) : Sp := fun vs H _ E => ∃ i j : Int, vs = [.int i, .int j] ∧ 0 ≤ i ∧ 0 ≤ j ∧ j < 1000 ∧ ∀ H', Same H H' → E (.ref C) none H'
theorem z9 : ∀ {n : Nat}, n ≤ 16 → n ≤ sizeLine := fun h => Nat.le_trans h (by decide)
theorem zz {n : Nat} (h : Nat.ble n 16 = true) : n ≤ sizeLine := z9 (Nat.le_of_ble_eq_true h)
def Door (P : Program) (w : World) (K : PySem.W.Frag) (mg : Str → Option Value) (base : Heap) (sp : Sp) (v : V) : Prop := ∃ f, v = .ref f ∧ ∃ fd ps, FnOk P w K mg base (CXf P w) 8 f fd ps sp ∧ PySem.W.keepIn K (.ref f) = true ∧ Binds K fd ps []
theorem badR_G {K : PySem.W.Frag} {Cr Cg : Addr} {vs : List V} {H : Hp} {Q : VK} {E : XK} (h : spBadR K Cr vs H Q E) : spBadG K Cr Cg vs H Q E := by
  obtain ⟨v, rfl, hn, k⟩ := h
  exact ⟨v, Cr, rfl, .rdg hn, k⟩
theorem doors (T : Txt P w K mg A) : ∀ v ∈ [V.ref A.a_heights, .ref A.a_upside_down, .ref A.a_about, .ref A.a_meeting, .ref A.a_changed], Door P w K mg base (spBadR K A.c_BadRidge) v := by
  intro v hv
  simp only [List.mem_cons, List.not_mem_nil, or_false] at hv
  rcases hv with rfl | rfl | rfl | rfl | rfl
  · exact ⟨_, rfl, _, _, ((ok_heights T).mono (by decide)).imp fun vs H Q E h => .inr h, T.k_heights, T.B_heights⟩
  · exact ⟨_, rfl, _, _, ((ok_upside_down T).mono (by decide)).imp fun vs H Q E h => .inr h, T.k_upside_down, T.B_upside_down⟩
  · exact ⟨_, rfl, _, _, ((ok_about T).mono (by decide)).imp fun vs H Q E h => .inr h, T.k_about, T.B_about⟩
  · exact ⟨_, rfl, _, _, ((ok_meeting T).mono (by decide)).imp fun vs H Q E h => .inr (badR_G h), T.k_meeting, T.B_meeting⟩
  · exact ⟨_, rfl, _, _, (ok_changed T).imp fun vs H Q E h => badR_G h, T.k_changed, T.B_changed⟩
theorem doors4 (T : Txt P w K mg A) : ∀ v ∈ [V.ref A.a_moves_at, .ref A.a_reached], Door P w K mg base (spBad4 K A.c_BadRidge A.c_BadPlaces) v := by
  intro v hv
  simp only [List.mem_cons, List.not_mem_nil, or_false] at hv
  rcases hv with rfl | rfl
  · exact ⟨_, rfl, _, _, ((ok_moves_at T).mono (by decide)).imp fun vs H Q E h => .inr h, T.k_moves_at, T.B_moves_at⟩
  · exact ⟨_, rfl, _, _, ((ok_reached T).mono (by decide)).imp fun vs H Q E h => .inr h, T.k_reached, T.B_reached⟩
theorem doorsG (T : Txt P w K mg A) : ∀ v ∈ [V.ref A.a_meeting, .ref A.a_changed], Door P w K mg base (spBadG K A.c_BadRidge A.c_BadRange) v := by
  intro v hv
  simp only [List.mem_cons, List.not_mem_nil, or_false] at hv
  rcases hv with rfl | rfl
  · exact ⟨_, rfl, _, _, ((ok_meeting T).mono (by decide)).imp fun vs H Q E h => .inr h, T.k_meeting, T.B_meeting⟩
  · exact ⟨_, rfl, _, _, ok_changed T, T.k_changed, T.B_changed⟩
def Pair (K : PySem.W.Frag) (H : Hp) (v : V) : Prop := ∃ q x y, v = .ref q ∧ H q = some (.lst [x, y]) ∧ (NoR K H x ∨ (x = .str (rt [true]) ∧ NoR K H y))
theorem rt_uu : V.str (rt [true, true]) = .str (Str.ofString "uu") := by decide +kernel
theorem clm_uu : Clm [true, true] := by
  intro x hx
  simp [hts, stp] at hx
  rcases hx with rfl | rfl | rfl <;> simp [tot, stp]
theorem rt_u : Str.ofString "u" = rt [true] := by decide +kernel
def BadC (v : V) : Prop := ∃ R, v = .str (rt R) ∧ R.length ≤ 16 ∧ ∃ x ∈ hts 0 R, x < 0 ∨ tot R < x
theorem BadC.of {z : Str} (R : List Bool) (h : (decide (z = rt R) && decide (R.length ≤ 16) && (hts 0 R).any fun x => decide (x < 0) || decide (tot R < x)) = true) : BadC (.str z) := by
  rw [Bool.and_eq_true, Bool.and_eq_true] at h
  obtain ⟨⟨h1, h2⟩, h3⟩ := h
  obtain ⟨x, hx, h4⟩ := List.any_eq_true.mp h3
  rw [Bool.or_eq_true] at h4
  exact ⟨R, congrArg V.str (of_decide_eq_true h1), of_decide_eq_true h2, x, hx, h4.imp of_decide_eq_true of_decide_eq_true⟩
theorem BadC.ht {K : PySem.W.Frag} {Cr Cc : Addr} {H : Hp} {v : V} (h : BadC v) : HT K Cr Cc H v (.inr Cc) := by
  obtain ⟨R, rfl, hR, hx⟩ := h
  exact .clm (by omega) hx
def uus (n : Nat) : Str := (⟨((List.replicate n (Str.ofString "u").cps.toList).flatten).toArray⟩ : Str) ++ Str.ofString "d"
theorem uus_bad (j : Int) : BadC (.str (uus (2 + j % 5).toNat)) := by
  have h : (2 + j % 5).toNat = 2 ∨ (2 + j % 5).toNat = 3 ∨ (2 + j % 5).toNat = 4 ∨ (2 + j % 5).toNat = 5 ∨ (2 + j % 5).toNat = 6 := by omega
  rcases h with h | h | h | h | h <;> rw [h]
  · exact BadC.of [true, true, false] (by decide +kernel)
  · exact BadC.of [true, true, true, false] (by decide +kernel)
  · exact BadC.of [true, true, true, true, false] (by decide +kernel)
  · exact BadC.of [true, true, true, true, true, false] (by decide +kernel)
  · exact BadC.of [true, true, true, true, true, true, false] (by decide +kernel)
theorem uus_len (j : Int) : (⟨((List.replicate (2 + j % 5).toNat (Str.ofString "u").cps.toList).flatten).toArray⟩ : Str).length + (Str.ofString "d").length ≤ sizeLine := by
  have h : (2 + j % 5).toNat = 2 ∨ (2 + j % 5).toNat = 3 ∨ (2 + j % 5).toNat = 4 ∨ (2 + j % 5).toNat = 5 ∨ (2 + j % 5).toNat = 6 := by omega
  rcases h with h | h | h | h | h <;> rw [h] <;> decide +kernel
theorem ht_u {K : PySem.W.Frag} {Cr Cc : Addr} {H : Hp} : HT K Cr Cc H (.str (Str.ofString "u")) (.inl (tot [true])) := by
  rw [rt_u]
  exact .ok (by decide) clm_u
theorem ht_uu {K : PySem.W.Frag} {Cr Cc : Addr} {H : Hp} : HT K Cr Cc H (.str (Str.ofString "uu")) (.inl (tot [true, true])) := by
  rw [← rt_uu]
  exact .ok (by decide) clm_uu
abbrev hA : List Int := hts 0 [true, true, false]
abbrev hB : List Int := hts 0 [true, false]
def TP (K : PySem.W.Frag) (H : Hp) (v : V) : Prop := ∃ t x y, v = .ref t ∧ H t = some (.tup [x, y]) ∧ NoP K H hA hB x y
theorem NoP.one {K : PySem.W.Frag} {H : Hp} {v u : V} {c : Bool} (h : PlV K H hA.length v false) (h2 : PlV K H hB.length u c) : NoP K H hA hB v u := ⟨_, _, h, h2, .inl rfl⟩
theorem NoP.two {K : PySem.W.Frag} {H : Hp} {v u : V} {b : Bool} (h : PlV K H hA.length v b) (h2 : PlV K H hB.length u false) : NoP K H hA hB v u := ⟨_, _, h, h2, .inr (.inl rfl)⟩
theorem NoP.unl {K : PySem.W.Frag} {H : Hp} {i j : Int} (h : alike hA hB i j = false) : NoP K H hA hB (.int i) (.int j) := ⟨_, _, .int i, .int j, .inr (.inr ⟨i, j, rfl, rfl, h⟩)⟩
theorem PlV.out {K : PySem.W.Frag} {H : Hp} {n : Nat} {i : Int} (h : i < 0 ∨ (n : Int) ≤ i) : PlV K H n (.int i) false := by
  have e : (decide (0 ≤ i) && decide (i < (n : Int))) = false := by
    rw [Bool.and_eq_false_iff, decide_eq_false_iff_not, decide_eq_false_iff_not]
    omega
  exact e ▸ .int i
theorem badG_of {K : PySem.W.Frag} {Cr Cg : Addr} {H : Hp} {z : Str} (R : List Bool) (h : (decide (z = rt R) && decide (R.length ≤ 16) && (!decide (tot R = 0) || (hts 0 R).any fun x => decide (x < 0))) = true) : BadG K Cr Cg H (.str z) Cg := by
  rw [Bool.and_eq_true, Bool.and_eq_true, Bool.or_eq_true] at h
  obtain ⟨⟨h1, h2⟩, h3⟩ := h
  rw [of_decide_eq_true h1]
  have h2 := of_decide_eq_true h2
  refine .rng (by omega) (h3.imp (fun q e => ?_) fun q => ?_)
  · rw [decide_eq_true e] at q
    cases q
  · obtain ⟨x, hx, h4⟩ := List.any_eq_true.mp q
    exact ⟨x, hx, of_decide_eq_true h4⟩
theorem uus9 {K : PySem.W.Frag} {Cr Cg : Addr} {H : Hp} (j : Int) : BadG K Cr Cg H (.str (uus (2 + j % 9).toNat)) Cg ∧ (⟨((List.replicate (2 + j % 9).toNat (Str.ofString "u").cps.toList).flatten).toArray⟩ : Str).length + (Str.ofString "d").length ≤ sizeLine := by
  have h : (2 + j % 9).toNat = 2 ∨ (2 + j % 9).toNat = 3 ∨ (2 + j % 9).toNat = 4 ∨ (2 + j % 9).toNat = 5 ∨ (2 + j % 9).toNat = 6 ∨ (2 + j % 9).toNat = 7 ∨ (2 + j % 9).toNat = 8 ∨ (2 + j % 9).toNat = 9 ∨ (2 + j % 9).toNat = 10 := by omega
  rcases h with h | h | h | h | h | h | h | h | h <;> rw [h]
  · exact ⟨badG_of (List.replicate 2 true ++ [false]) (by decide +kernel), by decide +kernel⟩
  · exact ⟨badG_of (List.replicate 3 true ++ [false]) (by decide +kernel), by decide +kernel⟩
  · exact ⟨badG_of (List.replicate 4 true ++ [false]) (by decide +kernel), by decide +kernel⟩
  · exact ⟨badG_of (List.replicate 5 true ++ [false]) (by decide +kernel), by decide +kernel⟩
  · exact ⟨badG_of (List.replicate 6 true ++ [false]) (by decide +kernel), by decide +kernel⟩
  · exact ⟨badG_of (List.replicate 7 true ++ [false]) (by decide +kernel), by decide +kernel⟩
  · exact ⟨badG_of (List.replicate 8 true ++ [false]) (by decide +kernel), by decide +kernel⟩
  · exact ⟨badG_of (List.replicate 9 true ++ [false]) (by decide +kernel), by decide +kernel⟩
  · exact ⟨badG_of (List.replicate 10 true ++ [false]) (by decide +kernel), by decide +kernel⟩
theorem ht_of {K : PySem.W.Frag} {Cr Cc : Addr} {H : Hp} {z : Str} (R : List Bool) (t : Int) (h : (decide (z = rt R) && decide (R.length ≤ 16) && decide (tot R = t) && (hts 0 R).all fun x => decide (0 ≤ x) && decide (x ≤ tot R)) = true) : HT K Cr Cc H (.str z) (.inl t) := by
  rw [Bool.and_eq_true, Bool.and_eq_true, Bool.and_eq_true] at h
  obtain ⟨⟨⟨h1, h2⟩, h3⟩, h4⟩ := h
  have h2 := of_decide_eq_true h2
  rw [of_decide_eq_true h1, ← of_decide_eq_true h3]
  refine .ok (by omega) fun x hx => ?_
  have q := List.all_eq_true.mp h4 x hx
  rw [Bool.and_eq_true] at q
  exact ⟨of_decide_eq_true q.1, of_decide_eq_true q.2⟩
def uu (n : Nat) : Str := ⟨((List.replicate n (Str.ofString "u").cps.toList).flatten).toArray⟩
structure Ups (K : PySem.W.Frag) (Cr Cc : Addr) (H : Hp) (n : Nat) : Prop where
  a : HT K Cr Cc H (.str (uu n)) (.inl n)
  b : HT K Cr Cc H (.str (uu n ++ Str.ofString "u")) (.inl (n + 1))
  c : HT K Cr Cc H (.str (uu n ++ Str.ofString "du")) (.inl n)
  d : HT K Cr Cc H (.str (uu n ++ Str.ofString "uu")) (.inl (n + 2))
  z1 : (uu n).length + (Str.ofString "u").length ≤ sizeLine
  z2 : (uu n).length + (Str.ofString "du").length ≤ sizeLine
  z3 : (uu n).length + (Str.ofString "uu").length ≤ sizeLine
theorem ups {K : PySem.W.Frag} {Cr Cc : Addr} {H : Hp} (j : Int) : Ups K Cr Cc H (1 + j % 6).toNat := by
  have h : (1 + j % 6).toNat = 1 ∨ (1 + j % 6).toNat = 2 ∨ (1 + j % 6).toNat = 3 ∨ (1 + j % 6).toNat = 4 ∨ (1 + j % 6).toNat = 5 ∨ (1 + j % 6).toNat = 6 := by omega
  rcases h with h | h | h | h | h | h <;> rw [h]
  · exact ⟨ht_of (List.replicate 1 true) _ (by decide +kernel), ht_of (List.replicate 2 true) _ (by decide +kernel), ht_of (List.replicate 1 true ++ [false, true]) _ (by decide +kernel), ht_of (List.replicate 3 true) _ (by decide +kernel), by decide +kernel, by decide +kernel, by decide +kernel⟩
  · exact ⟨ht_of (List.replicate 2 true) _ (by decide +kernel), ht_of (List.replicate 3 true) _ (by decide +kernel), ht_of (List.replicate 2 true ++ [false, true]) _ (by decide +kernel), ht_of (List.replicate 4 true) _ (by decide +kernel), by decide +kernel, by decide +kernel, by decide +kernel⟩
  · exact ⟨ht_of (List.replicate 3 true) _ (by decide +kernel), ht_of (List.replicate 4 true) _ (by decide +kernel), ht_of (List.replicate 3 true ++ [false, true]) _ (by decide +kernel), ht_of (List.replicate 5 true) _ (by decide +kernel), by decide +kernel, by decide +kernel, by decide +kernel⟩
  · exact ⟨ht_of (List.replicate 4 true) _ (by decide +kernel), ht_of (List.replicate 5 true) _ (by decide +kernel), ht_of (List.replicate 4 true ++ [false, true]) _ (by decide +kernel), ht_of (List.replicate 6 true) _ (by decide +kernel), by decide +kernel, by decide +kernel, by decide +kernel⟩
  · exact ⟨ht_of (List.replicate 5 true) _ (by decide +kernel), ht_of (List.replicate 6 true) _ (by decide +kernel), ht_of (List.replicate 5 true ++ [false, true]) _ (by decide +kernel), ht_of (List.replicate 7 true) _ (by decide +kernel), by decide +kernel, by decide +kernel, by decide +kernel⟩
  · exact ⟨ht_of (List.replicate 6 true) _ (by decide +kernel), ht_of (List.replicate 7 true) _ (by decide +kernel), ht_of (List.replicate 6 true ++ [false, true]) _ (by decide +kernel), ht_of (List.replicate 8 true) _ (by decide +kernel), by decide +kernel, by decide +kernel, by decide +kernel⟩
def sp_law_others_asked (Cg Cm Cu : Addr) : Sp := fun vs H _ E => ∃ (c i j : Int) (C : Addr), vs = [.int c, .int i, .int j] ∧ 0 ≤ i ∧ 0 ≤ j ∧ j < 1000 ∧ ((c = 2 ∧ C = Cg) ∨ (c = 4 ∧ C = Cm) ∨ (c = 5 ∧ C = Cu)) ∧ ∀ H', Same H H' → E (.ref C) none H'
theorem askS {K : PySem.W.Frag} {H : Hp} {z : Str} (h : mvB (.str z) = false) : Askm K H (.str z) false := .inl ⟨z, rfl, h.symm⟩
theorem askN {K : PySem.W.Frag} {H : Hp} {v : V} (h : NoT K "str" H v) : Askm K H v false := .inr ⟨h, rfl⟩
theorem nom1 {K : PySem.W.Frag} {H : Hp} {a : Addr} {x : V} (e : H a = some (.lst [x])) (h : Askm K H x false) : NoM K H (.ref a) :=
  .inr ⟨a, [x], rfl, e, Nat.le_of_ble_eq_true rfl, fun y hy => by simp only [List.mem_cons, List.not_mem_nil, or_false] at hy; subst hy; exact ⟨_, h⟩, x, List.mem_cons_self, h⟩
theorem nom2 {K : PySem.W.Frag} {H : Hp} {a : Addr} {z : Str} {y : V} (e : H a = some (.lst [.str z, y])) (h : Askm K H y false) : NoM K H (.ref a) :=
  .inr ⟨a, [.str z, y], rfl, e, Nat.le_of_ble_eq_true rfl, fun x hx => by
    simp only [List.mem_cons, List.not_mem_nil, or_false] at hx
    rcases hx with rfl | rfl
    · exact ⟨_, .inl ⟨z, rfl, rfl⟩⟩
    · exact ⟨_, h⟩, y, List.mem_cons_of_mem _ List.mem_cons_self, h⟩
end
end K09
set_option Elab.async false
set_option linter.all false
set_option maxRecDepth 100000
set_option maxHeartbeats 4000000
namespace K09
open PySem PySem.Spec PyProof.Rows L2 UM UT
section
variable {P : Program} {w : World} {K : PySem.W.Frag} {mg : Str → Option Value} {base : Heap} {A : Adr}
theorem ok_law_ridge_asked (T : Txt P w K mg A) : FnOk P w K mg base (CXf P w) 9 A.a_law_ridge_asked A.d_law_ridge_asked ["_law_which", "_law_more"] (spAll A.c_BadRidge) := by
  have G_together : FnOk P w K mg base (CXf P w) 6 A.a_together A.d_together ["one", "other"] (sp_together K A.c_BadRidge A.c_BadClimb A.c_Unlike) := ok_together T
  have G_in_unison : FnOk P w K mg base (CXf P w) 6 A.a_in_unison A.d_in_unison ["climbs"] (spBadU K A.c_BadRidge A.c_BadClimb A.c_Unlike) := ok_in_unison T
  refine T.F_law_ridge_asked.okX sc_law_ridge_asked (fun vs H Q E h => ?_) (fun cdv Ar outer s H vs Q E hr h => ?_)
  · obtain ⟨i, j, rfl, _⟩ := h
    rfl
  · obtain ⟨i, j, rfl, hi, hj, hj2, k⟩ := h
    have hu := hu_of hr
    refine ⟨_, (@pss_cons _ _ _ _ _ (@ps_set (i := 2) _ _ _ _ _ _ sc_law_ridge_asked.nd rfl (Or.inl rfl) (@pe_ix _ _ _ _ _ _ _ ix_list (@pe_lst _ _ _ _ (@pa_consN _ _ _ _ _ pe_non (@pa_consN _ _ _ _ _ pe_int (@pa_consN _ _ _ _ _ (@pe_lst _ _ _ _ (@pa_consN _ _ _ _ _ pe_str pa_nil (by rfl))) (@pa_consN _ _ _ _ _ (@pe_tup _ _ _ _ _ (@pa_consN _ _ _ _ _ pe_str (@pa_consN _ _ _ _ _ pe_str pa_nil (by rfl)) (by rfl))) (@pa_consN _ _ _ _ _ pe_str (@pa_consN _ _ _ _ _ pe_str (@pa_consN _ _ _ _ _ pe_str (@pa_consN _ _ _ _ _ pe_str (@pa_consN _ _ _ _ _ (@pe_op _ _ _ _ _ _ _ _ op_add_str (@pe_op _ _ _ _ _ _ _ _ op_mulS pe_str (@pe_op _ _ _ _ _ _ _ _ op_mod (pv 1) pe_int)) pe_str) pa_nil (by rfl)) (by rfl)) (by rfl)) (by rfl)) (by rfl)) (by rfl)) (by rfl)) (by rfl)) (by rfl))) (@pe_op _ _ _ _ _ _ _ _ op_mod (pv 0) pe_int) (fun _ _ => rfl)) (by rfl) (by first | exact .inl rfl | exact .inr rfl | assumption)) (@pss_cons _ _ _ _ _ (@ps_set (i := 3) _ _ _ _ _ _ sc_law_ridge_asked.nd rfl (Or.inl rfl) (@pe_op _ _ _ _ _ _ _ _ op_mod (@pe_op _ _ _ _ _ _ _ _ op_fdiv (pv 0) pe_int) pe_int) (by rfl) (by first | exact .inl rfl | exact .inr rfl | assumption)) (@pss_cons _ _ _ _ _ (@ps_if _ _ _ _ _ _ _ _ (@pt_cmpR _ _ _ _ _ _ _ _ op_lt (pv 3) pe_int (nomark _)) (@pss_one _ _ _ (@ps_ret _ _ _ _ (@pe_callD (k := 8) _ _ _ _ _ _ _ _ _ _ _ (@pe_ix _ _ _ _ _ _ _ ix_list (@pe_lst _ _ _ _ (@pa_consN _ _ _ _ _ (pe_glob (v := .ref A.a_heights) rfl T.m_heights rfl) (@pa_consN _ _ _ _ _ (pe_glob (v := .ref A.a_upside_down) rfl T.m_upside_down rfl) (@pa_consN _ _ _ _ _ (pe_glob (v := .ref A.a_about) rfl T.m_about rfl) (@pa_consN _ _ _ _ _ (pe_glob (v := .ref A.a_meeting) rfl T.m_meeting rfl) (@pa_consN _ _ _ _ _ (pe_glob (v := .ref A.a_changed) rfl T.m_changed rfl) pa_nil (by rfl)) (by rfl)) (by rfl)) (by rfl)) (by rfl))) (pv 3) (fun _ _ => rfl)) (hr.mono (by decide)) (passes_of rfl rfl lets_def) (@pa_consN _ _ _ _ _ (pv 2) pa_nil (by rfl)) (by rfl) (by rfl)))) pss_nil) (@pss_cons _ _ _ _ _ (@ps_if _ _ _ _ _ _ _ _ (@pt_cmpR _ _ _ _ _ _ _ _ op_lt (pv 3) pe_int (nomark _)) (@pss_cons _ _ _ _ _ (@ps_set (i := 4) _ _ _ _ _ _ sc_law_ridge_asked.nd rfl (Or.inl rfl) (@pe_ix _ _ _ _ _ _ _ ix_list (@pe_lst _ _ _ _ (@pa_consN _ _ _ _ _ (@pe_lst _ _ _ _ (@pa_consN _ _ _ _ _ (pv 2) (@pa_consN _ _ _ _ _ pe_str pa_nil (by rfl)) (by rfl))) (@pa_consN _ _ _ _ _ (@pe_lst _ _ _ _ (@pa_consN _ _ _ _ _ pe_str (@pa_consN _ _ _ _ _ (pv 2) pa_nil (by rfl)) (by rfl))) pa_nil (by rfl)) (by rfl))) (@pe_op _ _ _ _ _ _ _ _ op_mod (pv 3) pe_int) (fun _ _ => rfl)) (by rfl) (by first | exact .inl rfl | exact .inr rfl | assumption)) (@pss_one _ _ _ (@ps_ret _ _ _ _ (@pe_callD (k := 8) _ _ _ _ _ _ _ _ _ _ _ (@pe_ix _ _ _ _ _ _ _ ix_list (@pe_lst _ _ _ _ (@pa_consN _ _ _ _ _ (pe_glob (v := .ref A.a_moves_at) rfl T.m_moves_at rfl) (@pa_consN _ _ _ _ _ (pe_glob (v := .ref A.a_reached) rfl T.m_reached rfl) pa_nil (by rfl)) (by rfl))) (@pe_op _ _ _ _ _ _ _ _ op_fdiv (pv 3) pe_int) (fun _ _ => rfl)) (hr.mono (by decide)) (passes_of rfl rfl lets_def) (@pa_consN _ _ _ _ _ (@pe_ix _ _ _ _ _ _ _ ix_list (pv 4) pe_int (fun _ _ => rfl)) (@pa_consN _ _ _ _ _ (@pe_ix _ _ _ _ _ _ _ ix_list (pv 4) pe_int (fun _ _ => rfl)) (@pa_consN _ _ _ _ _ pe_non (@pa_consN _ _ _ _ _ pe_non pa_nil (by rfl)) (by rfl)) (by rfl)) (by rfl)) (by rfl) (by rfl))))) pss_nil) (@pss_cons _ _ _ _ _ (@ps_set (i := 4) _ _ _ _ _ _ sc_law_ridge_asked.nd rfl (Or.inl rfl) (@pe_ix _ _ _ _ _ _ _ ix_list (@pe_lst _ _ _ _ (@pa_consN _ _ _ _ _ (@pe_lst _ _ _ _ (@pa_consN _ _ _ _ _ (pv 2) (@pa_consN _ _ _ _ _ pe_str pa_nil (by rfl)) (by rfl))) (@pa_consN _ _ _ _ _ (@pe_lst _ _ _ _ (@pa_consN _ _ _ _ _ pe_str (@pa_consN _ _ _ _ _ (pv 2) pa_nil (by rfl)) (by rfl))) pa_nil (by rfl)) (by rfl))) (@pe_op _ _ _ _ _ _ _ _ op_mod (pv 3) pe_int) (fun _ _ => rfl)) (by rfl) (by first | exact .inl rfl | exact .inr rfl | assumption)) (@pss_cons _ _ _ _ _ (@ps_if _ _ _ _ _ _ _ _ (@pt_cmpR _ _ _ _ _ _ _ _ op_lt (pv 3) pe_int (nomark _)) (@pss_one _ _ _ (@ps_ret _ _ _ _ (@pe_call _ _ _ _ _ _ _ _ _ _ _ _ _ _ _ _ G_together (hr.mono (by decide)) rfl T.m_together T.k_together T.B_together .nil (passes_of rfl rfl lets_def) (@pa_consN _ _ _ _ _ (@pe_ix _ _ _ _ _ _ _ ix_list (pv 4) pe_int (fun _ _ => rfl)) (@pa_consN _ _ _ _ _ (@pe_ix _ _ _ _ _ _ _ ix_list (pv 4) pe_int (fun _ _ => rfl)) pa_nil (by rfl)) (by rfl)) (by decide) (by rfl) (by rfl)))) pss_nil) (@pss_one _ _ _ (@ps_ret _ _ _ _ (@pe_ifExp _ _ _ _ _ _ _ _ (@pt_cmpR _ _ _ _ _ _ _ _ op_eq (pv 3) pe_int (nomark _)) (@pe_call _ _ _ _ _ _ _ _ _ _ _ _ _ _ _ _ G_in_unison (hr.mono (by decide)) rfl T.m_in_unison T.k_in_unison T.B_in_unison .nil (passes_of rfl rfl lets_def) (@pa_consN _ _ _ _ _ (@pe_ix _ _ _ _ _ _ _ ix_list (@pe_lst _ _ _ _ (@pa_consN _ _ _ _ _ (@pe_lst _ _ _ _ (@pa_consN _ _ _ _ _ pe_str (@pa_consN _ _ _ _ _ (pv 2) (@pa_consN _ _ _ _ _ pe_str pa_nil (by rfl)) (by rfl)) (by rfl))) (@pa_consN _ _ _ _ _ (@pe_lst _ _ _ _ (@pa_consN _ _ _ _ _ pe_str (@pa_consN _ _ _ _ _ pe_str (@pa_consN _ _ _ _ _ (pv 2) pa_nil (by rfl)) (by rfl)) (by rfl))) pa_nil (by rfl)) (by rfl))) (@pe_op _ _ _ _ _ _ _ _ op_mod (pv 1) pe_int) (fun _ _ => rfl)) pa_nil (by rfl)) (by decide) (by rfl) (by rfl)) (@pe_call _ _ _ _ _ _ _ _ _ _ _ _ _ _ _ _ G_in_unison (hr.mono (by decide)) rfl T.m_in_unison T.k_in_unison T.B_in_unison .nil (passes_of rfl rfl lets_def) (@pa_consN _ _ _ _ _ (@pe_lst _ _ _ _ (@pa_consN _ _ _ _ _ (pv 2) pa_nil (by rfl))) pa_nil (by rfl)) (by decide) (by rfl) (by rfl))))))))))), ?_⟩
    have hj5 : 0 ≤ j % 5 ∧ j % 5 < 5 := by omega
    refine ⟨zz rfl, fun p hp => ⟨zz rfl, fun t ht => ⟨_, rfl, _, _, rfl, rfl, (by show (0 : Int) < 5; decide), _, _, rfl, rfl, (by decide), (by show j % 5 ≤ 1048576; omega), (by show -(2 ^ 63 : Int) ≤ j % 5; omega), _, _, rfl, rfl, ?_, zz rfl, fun l hl => ⟨_, rfl, _, _, rfl, rfl, (by show (0 : Int) < 9; decide), rd_pick (SqL.of upd_same) (by show 0 ≤ i % 9; omega) (by show i % 9 < 9; omega) fun v hv => ?_⟩⟩⟩⟩
    · exact uds_len j
    have s0 := (same_upd (o := .lst [V.str "u"]) hp).trans (same_upd (o := .tup [V.str "u", V.str "d"]) ht)
    have ep0 := same_upd (o := .tup [V.str "u", V.str "d"]) ht _ _ (upd_same (H := H) (a := p) (o := .lst [V.str "u"]))
    have et0 := upd_same (H := upd H p (.lst [V.str "u"])) (a := t) (o := .tup [V.str "u", V.str "d"])
    generalize upd (upd H p (.lst [V.str "u"])) t (.tup [V.str "u", V.str "d"]) = H0 at hl s0 ep0 et0
    generalize hH : upd H0 l _ = H1
    have s01 : Same H0 H1 := hH ▸ same_upd hl
    have s1 := s0.trans s01
    clear hH
    have hn : NoR K H1 v := by
      have ep := s01 _ _ ep0
      have et := s01 _ _ et0
      simp only [List.mem_cons, List.not_mem_nil, or_false] at hv
      rcases hv with rfl | rfl | rfl | rfl | rfl | rfl | rfl | rfl | rfl
      · exact .inl ⟨_, .non, rfl⟩
      · exact .inl ⟨_, .int _, rfl⟩
      · exact .inl ⟨_, .lst ep, rfl⟩
      · exact .inl ⟨_, .tup et, rfl⟩
      · exact NoR.txt (by decide +kernel)
      · exact NoR.txt (by decide +kernel)
      · exact NoR.txt (by decide +kernel)
      · exact NoR.txt (by decide +kernel)
      · exact uds_no j
    clear hv
    dsimp only [gName, tSeq, tAsg]
    refine ⟨_, rfl, _, _, rfl, rfl, ⟨by show (0 : Int) < 9; decide, by show (9 : Int) < 1073741824; decide⟩, _, _, rfl, rfl, (by show (0 : Int) < 13; decide), ?_⟩
    have hd : 0 ≤ i / 9 % 13 ∧ i / 9 % 13 < 13 := by omega
    dsimp only [gName, tSeq, tAsg]
    generalize i / 9 % 13 = d at hd
    have k1 : ∀ H', Same H1 H' → E (.ref A.c_BadRidge) none H' := fun H' s' => k H' (s1.trans s')
    refine ⟨_, rfl, _, _, rfl, rfl, _, rfl, ite2 (fun hc => ?_) (fun hc => ?_)⟩
    · have hc : d < 5 := of_decide_eq_true hc
      refine ⟨zz rfl, fun l2 hl2 => ⟨_, rfl, rd_pick (SqL.of upd_same) hd.1 (by show d < 5; exact hc) fun f hf => ?_⟩⟩
      obtain ⟨f, rfl, cal⟩ := doors T f hf
      exact ⟨f, _, rfl, cal, _, rfl, _, rfl, hn.same (same_upd hl2), fun H' s' => k1 H' ((same_upd hl2).trans s')⟩
    have hu1 : (V.str (Str.ofString "u")) = .str (rt [true]) := by rw [rt_u]
    have pairs : ∀ {H2 : Hp} {p1 p2 : Addr} {v2 : V}, Same H1 H2 → H2 p1 = some (.lst [v, .str "u"]) → H2 p2 = some (.lst [.str "u", v]) → v2 ∈ [V.ref p1, .ref p2] → Pair K H2 v2 := fun {H2 p1 p2 v2} s2 e1 e2 h => by
      simp only [List.mem_cons, List.not_mem_nil, or_false] at h
      rcases h with rfl | rfl
      · exact ⟨p1, _, _, rfl, e1, .inl (hn.same s2)⟩
      · exact ⟨p2, _, _, rfl, e2, .inr ⟨hu1, hn.same s2⟩⟩
    dsimp only [tNext, tSeq, tIfS]
    refine ⟨_, rfl, _, _, rfl, rfl, _, rfl, ite2 (fun hc2 => ?_) (fun hc2 => ?_)⟩
    · have hc2 : d < 9 := of_decide_eq_true hc2
      have hc : ¬ d < 5 := fun z => hc (decide_eq_true z)
      refine ⟨_, rfl, zz rfl, fun p1 h1 => ⟨_, rfl, zz rfl, fun p2 h2 => ⟨zz rfl, fun l2 hl2 => ⟨_, rfl, _, _, rfl, rfl, (by show (0 : Int) < 2; decide), rd_pick (SqL.of upd_same) (by show 0 ≤ d % 2; omega) (by show d % 2 < 2; omega) fun v2 hv2 => ?_⟩⟩⟩⟩
      have s2 := ((same_upd (o := .lst [v, V.str "u"]) h1).trans (same_upd (o := .lst [V.str "u", v]) h2)).trans (same_upd (o := .lst [V.ref p1, .ref p2]) hl2)
      obtain ⟨q, x, y, rfl, eq, hb⟩ := pairs s2 (same_upd hl2 _ _ (same_upd h2 _ _ upd_same)) (same_upd hl2 _ _ upd_same) hv2
      generalize upd _ l2 _ = H2 at s2 eq hb
      dsimp only [gName, tSeq, tAsg]
      refine ⟨zz rfl, fun l3 hl3 => ⟨_, rfl, _, _, rfl, rfl, ⟨by show (0 : Int) < 7; decide, by show (7 : Int) < 1073741824; decide⟩, rd_pick (SqL.of upd_same) (by show 0 ≤ d / 7; omega) (by show d / 7 < 2; omega) fun f hf => ?_⟩⟩
      obtain ⟨f, rfl, cal⟩ := doors4 T f hf
      have s3 := same_upd (o := .lst [V.ref A.a_moves_at, .ref A.a_reached]) hl3
      have eq3 := s3 _ _ eq
      refine ⟨f, _, rfl, cal, _, rfl, q, _, _, _, rfl, rfl, SqL.of eq3, atI_nat (j := 0) rfl, _, rfl, q, _, _, _, rfl, rfl, SqL.of eq3, atI_nat (j := 1) rfl, _, ?_, fun H' s' => k1 H' ((s2.trans s3).trans s')⟩
      rcases hb with hb | ⟨rfl, hb⟩
      · exact .one (hb.same s3)
      · exact .two (by decide) (hb.same s3)
    refine ⟨_, rfl, zz rfl, fun p1 h1 => ⟨_, rfl, zz rfl, fun p2 h2 => ⟨zz rfl, fun l2 hl2 => ⟨_, rfl, _, _, rfl, rfl, (by show (0 : Int) < 2; decide), rd_pick (SqL.of upd_same) (by show 0 ≤ d % 2; omega) (by show d % 2 < 2; omega) fun v2 hv2 => ?_⟩⟩⟩⟩
    have s2 := ((same_upd (o := .lst [v, V.str "u"]) h1).trans (same_upd (o := .lst [V.str "u", v]) h2)).trans (same_upd (o := .lst [V.ref p1, .ref p2]) hl2)
    obtain ⟨q, x, y, rfl, eq, hb⟩ := pairs s2 (same_upd hl2 _ _ (same_upd h2 _ _ upd_same)) (same_upd hl2 _ _ upd_same) hv2
    generalize upd _ l2 _ = H2 at s2 eq hb
    have k2 : ∀ H', Same H2 H' → E (.ref A.c_BadRidge) none H' := fun H' s' => k1 H' (s2.trans s')
    have hn2 := hn.same s2
    dsimp only [gName, tSeq, tAsg]
    refine ⟨_, rfl, _, _, rfl, rfl, _, rfl, ite2 (fun hc3 => ?_) (fun hc3 => ?_)⟩
    · refine ⟨_, rfl, q, _, _, _, rfl, rfl, SqL.of eq, atI_nat (j := 0) rfl, _, rfl, q, _, _, _, rfl, rfl, SqL.of eq, atI_nat (j := 1) rfl, .inr ⟨_, ?_, k2⟩⟩
      rcases hb with hb | ⟨rfl, hb⟩
      · exact .one (.rdg hb)
      · exact .two (.ok (by decide) clm_u) (.rdg hb)
    refine ⟨_, rfl, rfl, _, rfl, ite2 (fun hc4 => ?_) (fun hc4 => ?_)⟩
    · refine ⟨_, rfl, zz rfl, fun p3 h3 => ⟨_, rfl, zz rfl, fun p4 h4 => ⟨zz rfl, fun l3 hl3 => ⟨_, rfl, _, _, rfl, rfl, (by show (0 : Int) < 2; decide), rd_pick (SqL.of upd_same) (by show 0 ≤ j % 2; omega) (by show j % 2 < 2; omega) fun v3 hv3 => ?_⟩⟩⟩⟩
      have s3 := ((same_upd (o := .lst [V.str "u", v, V.str "uu"]) h3).trans (same_upd (o := .lst [V.str "u", V.str "uu", v]) h4)).trans (same_upd (o := .lst [V.ref p3, .ref p4]) hl3)
      have e3 := same_upd (o := .lst [V.ref p3, .ref p4]) hl3 _ _ (same_upd (o := .lst [V.str "u", V.str "uu", v]) h4 _ _ (upd_same (H := H2) (a := p3) (o := .lst [V.str "u", v, V.str "uu"])))
      have e4 := same_upd (o := .lst [V.ref p3, .ref p4]) hl3 _ _ (upd_same (H := upd H2 p3 (.lst [V.str "u", v, V.str "uu"])) (a := p4) (o := .lst [V.str "u", V.str "uu", v]))
      refine ⟨v3, _, rfl, ?_, fun H' s' => k2 H' (s3.trans s')⟩
      generalize upd _ l3 _ = H3 at s3 e3 e4
      simp only [List.mem_cons, List.not_mem_nil, or_false] at hv3
      rcases hv3 with rfl | rfl
      · exact .itm (pre := [.str "u"]) e3 (Nat.le_of_ble_eq_true rfl) (fun y hy => by simp only [List.mem_cons, List.not_mem_nil, or_false] at hy; subst hy; exact ⟨_, ht_u⟩) (.rdg (hn2.same s3))
      · exact .itm (pre := [.str "u", .str "uu"]) e4 (Nat.le_of_ble_eq_true rfl) (fun y hy => by
          simp only [List.mem_cons, List.not_mem_nil, or_false] at hy
          rcases hy with rfl | rfl
          · exact ⟨_, ht_u⟩
          · exact ⟨_, ht_uu⟩) (.rdg (hn2.same s3))
    · refine ⟨_, rfl, zz rfl, fun p3 h3 => ⟨.ref p3, _, rfl, .itm (pre := []) upd_same (Nat.le_of_ble_eq_true rfl) (fun y hy => nomatch hy) (.rdg (hn2.same (same_upd h3))), fun H' s' => k2 H' ((same_upd h3).trans s')⟩⟩
end
end K09
set_option Elab.async false
set_option linter.all false
set_option maxRecDepth 100000
set_option maxHeartbeats 4000000
namespace K09
open PySem PySem.Spec PyProof.Rows L2 UM UT
section
variable {P : Program} {w : World} {K : PySem.W.Frag} {mg : Str → Option Value} {base : Heap} {A : Adr}
theorem ok_law_climb_asked (T : Txt P w K mg A) : FnOk P w K mg base (CXf P w) 9 A.a_law_climb_asked A.d_law_climb_asked ["_law_which", "_law_more"] (spAll A.c_BadClimb) := by
  have G_together : FnOk P w K mg base (CXf P w) 6 A.a_together A.d_together ["one", "other"] (sp_together K A.c_BadRidge A.c_BadClimb A.c_Unlike) := ok_together T
  have G_in_unison : FnOk P w K mg base (CXf P w) 6 A.a_in_unison A.d_in_unison ["climbs"] (spBadU K A.c_BadRidge A.c_BadClimb A.c_Unlike) := ok_in_unison T
  refine T.F_law_climb_asked.okX sc_law_climb_asked (fun vs H Q E h => ?_) (fun cdv Ar outer s H vs Q E hr h => ?_)
  · obtain ⟨i, j, rfl, _⟩ := h
    rfl
  · obtain ⟨i, j, rfl, hi, hj, hj2, k⟩ := h
    have hu := hu_of hr
    refine ⟨_, (@pss_cons _ _ _ _ _ (@ps_set (i := 2) _ _ _ _ _ _ sc_law_climb_asked.nd rfl (Or.inl rfl) (@pe_ix _ _ _ _ _ _ _ ix_list (@pe_lst _ _ _ _ (@pa_consN _ _ _ _ _ pe_str (@pa_consN _ _ _ _ _ pe_str (@pa_consN _ _ _ _ _ pe_str (@pa_consN _ _ _ _ _ (@pe_op _ _ _ _ _ _ _ _ op_add_str (@pe_op _ _ _ _ _ _ _ _ op_mulS pe_str (@pe_op _ _ _ _ _ _ _ _ op_add pe_int (@pe_op _ _ _ _ _ _ _ _ op_mod (pv 1) pe_int))) pe_str) (@pa_consN _ _ _ _ _ pe_str pa_nil (by rfl)) (by rfl)) (by rfl)) (by rfl)) (by rfl))) (@pe_op _ _ _ _ _ _ _ _ op_mod (pv 0) pe_int) (fun _ _ => rfl)) (by rfl) (by first | exact .inl rfl | exact .inr rfl | assumption)) (@pss_cons _ _ _ _ _ (@ps_set (i := 3) _ _ _ _ _ _ sc_law_climb_asked.nd rfl (Or.inl rfl) (@pe_op _ _ _ _ _ _ _ _ op_mod (@pe_op _ _ _ _ _ _ _ _ op_fdiv (pv 0) pe_int) pe_int) (by rfl) (by first | exact .inl rfl | exact .inr rfl | assumption)) (@pss_cons _ _ _ _ _ (@ps_if _ _ _ _ _ _ _ _ (@pt_cmpR _ _ _ _ _ _ _ _ op_eq (pv 3) pe_int (nomark _)) (@pss_one _ _ _ (@ps_ret _ _ _ _ (@pe_call _ _ _ _ _ _ _ _ _ _ _ _ _ _ _ _ G_together (hr.mono (by decide)) rfl T.m_together T.k_together T.B_together .nil (passes_of rfl rfl lets_def) (@pa_consN _ _ _ _ _ (pv 2) (@pa_consN _ _ _ _ _ pe_str pa_nil (by rfl)) (by rfl)) (by decide) (by rfl) (by rfl)))) pss_nil) (@pss_cons _ _ _ _ _ (@ps_if _ _ _ _ _ _ _ _ (@pt_cmpR _ _ _ _ _ _ _ _ op_eq (pv 3) pe_int (nomark _)) (@pss_one _ _ _ (@ps_ret _ _ _ _ (@pe_call _ _ _ _ _ _ _ _ _ _ _ _ _ _ _ _ G_together (hr.mono (by decide)) rfl T.m_together T.k_together T.B_together .nil (passes_of rfl rfl lets_def) (@pa_consN _ _ _ _ _ pe_str (@pa_consN _ _ _ _ _ (pv 2) pa_nil (by rfl)) (by rfl)) (by decide) (by rfl) (by rfl)))) pss_nil) (@pss_cons _ _ _ _ _ (@ps_if _ _ _ _ _ _ _ _ (@pt_cmpR _ _ _ _ _ _ _ _ op_eq (pv 3) pe_int (nomark _)) (@pss_one _ _ _ (@ps_ret _ _ _ _ (@pe_ifExp _ _ _ _ _ _ _ _ (@pt_cmpR _ _ _ _ _ _ _ _ op_eq (@pe_op _ _ _ _ _ _ _ _ op_mod (pv 1) pe_int) pe_int (nomark _)) (@pe_call _ _ _ _ _ _ _ _ _ _ _ _ _ _ _ _ G_together (hr.mono (by decide)) rfl T.m_together T.k_together T.B_together .nil (passes_of rfl rfl lets_def) (@pa_consN _ _ _ _ _ (pv 2) (@pa_consN _ _ _ _ _ (@pe_ix _ _ _ _ _ _ _ ix_list (@pe_lst _ _ _ _ (@pa_consN _ _ _ _ _ pe_non (@pa_consN _ _ _ _ _ pe_str (@pa_consN _ _ _ _ _ pe_int pa_nil (by rfl)) (by rfl)) (by rfl))) (@pe_op _ _ _ _ _ _ _ _ op_mod (pv 1) pe_int) (fun _ _ => rfl)) pa_nil (by rfl)) (by rfl)) (by decide) (by rfl) (by rfl)) (@pe_call _ _ _ _ _ _ _ _ _ _ _ _ _ _ _ _ G_in_unison (hr.mono (by decide)) rfl T.m_in_unison T.k_in_unison T.B_in_unison .nil (passes_of rfl rfl lets_def) (@pa_consN _ _ _ _ _ (@pe_lst _ _ _ _ (@pa_consN _ _ _ _ _ (pv 2) (@pa_consN _ _ _ _ _ pe_non pa_nil (by rfl)) (by rfl))) pa_nil (by rfl)) (by decide) (by rfl) (by rfl))))) pss_nil) (@pss_cons _ _ _ _ _ (@ps_if _ _ _ _ _ _ _ _ (@pt_cmpR _ _ _ _ _ _ _ _ op_eq (pv 3) pe_int (nomark _)) (@pss_one _ _ _ (@ps_ret _ _ _ _ (@pe_call _ _ _ _ _ _ _ _ _ _ _ _ _ _ _ _ G_in_unison (hr.mono (by decide)) rfl T.m_in_unison T.k_in_unison T.B_in_unison .nil (passes_of rfl rfl lets_def) (@pa_consN _ _ _ _ _ (@pe_ix _ _ _ _ _ _ _ ix_list (@pe_lst _ _ _ _ (@pa_consN _ _ _ _ _ (@pe_lst _ _ _ _ (@pa_consN _ _ _ _ _ pe_str (@pa_consN _ _ _ _ _ (pv 2) pa_nil (by rfl)) (by rfl))) (@pa_consN _ _ _ _ _ (@pe_lst _ _ _ _ (@pa_consN _ _ _ _ _ pe_str (@pa_consN _ _ _ _ _ pe_str (@pa_consN _ _ _ _ _ (pv 2) pa_nil (by rfl)) (by rfl)) (by rfl))) (@pa_consN _ _ _ _ _ (@pe_lst _ _ _ _ (@pa_consN _ _ _ _ _ (pv 2) pa_nil (by rfl))) (@pa_consN _ _ _ _ _ (@pe_lst _ _ _ _ (@pa_consN _ _ _ _ _ (pv 2) (@pa_consN _ _ _ _ _ pe_str pa_nil (by rfl)) (by rfl))) pa_nil (by rfl)) (by rfl)) (by rfl)) (by rfl))) (@pe_op _ _ _ _ _ _ _ _ op_mod (pv 1) pe_int) (fun _ _ => rfl)) pa_nil (by rfl)) (by decide) (by rfl) (by rfl)))) pss_nil) (@pss_one _ _ _ (@ps_ret _ _ _ _ (@pe_call _ _ _ _ _ _ _ _ _ _ _ _ _ _ _ _ G_in_unison (hr.mono (by decide)) rfl T.m_in_unison T.k_in_unison T.B_in_unison .nil (passes_of rfl rfl lets_def) (@pa_consN _ _ _ _ _ (@pe_ix _ _ _ _ _ _ _ ix_list (@pe_lst _ _ _ _ (@pa_consN _ _ _ _ _ pe_non (@pa_consN _ _ _ _ _ pe_str (@pa_consN _ _ _ _ _ (@pe_tup _ _ _ _ _ pa_nil) (@pa_consN _ _ _ _ _ (@pe_slice _ _ _ _ _ _ _ _ _ _ sl_list (@pe_lst _ _ _ _ (@pa_consN _ _ _ _ _ pe_str pa_nil (by rfl))) po_none (po_some pe_int)) (@pa_consN _ _ _ _ _ pe_int (@pa_consN _ _ _ _ _ (@pe_tup _ _ _ _ _ (@pa_consN _ _ _ _ _ pe_str pa_nil (by rfl))) (@pa_consN _ _ _ _ _ (@pe_disp _ _ _ _ _ (@pps_cons _ _ _ _ _ _ _ _ _ pe_str pe_int pps_nil) rfl rfl (by simp) (by decide)) pa_nil (by rfl)) (by rfl)) (by rfl)) (by rfl)) (by rfl)) (by rfl)) (by rfl))) (@pe_op _ _ _ _ _ _ _ _ op_mod (pv 1) pe_int) (fun _ _ => rfl)) pa_nil (by rfl)) (by decide) (by rfl) (by rfl)))))))))), ?_⟩
    refine ⟨_, rfl, _, _, rfl, rfl, (by show (0 : Int) < 5; decide), _, _, rfl, rfl, _, _, rfl, rfl, (by decide), (by show 2 + j % 5 ≤ 1048576; omega), (by show -(2 ^ 63 : Int) ≤ 2 + j % 5; omega), _, _, rfl, rfl, uus_len j, zz rfl, fun l hl => ⟨_, rfl, _, _, rfl, rfl, (by show (0 : Int) < 5; decide), rd_pick (SqL.of upd_same) (by show 0 ≤ i % 5; omega) (by show i % 5 < 5; omega) fun v hv => ?_⟩⟩
    have hb : BadC v := by
      simp only [List.mem_cons, List.not_mem_nil, or_false] at hv
      rcases hv with rfl | rfl | rfl | rfl | rfl
      · exact BadC.of [false] (by decide +kernel)
      · exact BadC.of [true, false, false] (by decide +kernel)
      · exact BadC.of [true, true, false] (by decide +kernel)
      · exact uus_bad j
      · exact BadC.of [true, false, false, true, true] (by decide +kernel)
    clear hv
    generalize hH : upd H l _ = H1
    have s1 : Same H H1 := hH ▸ same_upd hl
    dsimp only [gName, tSeq, tAsg]
    refine ⟨_, rfl, _, _, rfl, rfl, ⟨by show (0 : Int) < 5; decide, by show (5 : Int) < 1073741824; decide⟩, _, _, rfl, rfl, (by show (0 : Int) < 5; decide), ?_⟩
    dsimp only [gName, tSeq, tAsg]
    generalize i / 5 % 5 = d
    have k1 : ∀ H', Same H1 H' → E (.ref A.c_BadClimb) none H' := fun H' s' => k H' (s1.trans s')
    dsimp only [tNext, tSeq, tIfS]
    refine ⟨_, rfl, rfl, _, rfl, ite2 (fun hc => ?_) (fun hc => ?_)⟩
    · exact ⟨_, rfl, .inr ⟨_, .one hb.ht, k1⟩⟩
    refine ⟨_, rfl, rfl, _, rfl, ite2 (fun hc => ?_) (fun hc => ?_)⟩
    · exact ⟨_, rfl, .inr ⟨_, .two ht_u hb.ht, k1⟩⟩
    refine ⟨_, rfl, rfl, _, rfl, ite2 (fun hc => ?_) (fun hc => ?_)⟩
    · refine ⟨_, rfl, _, _, rfl, rfl, (by show (0 : Int) < 2; decide), rfl, _, rfl, ite2 (fun hc2 => ?_) (fun hc2 => ?_)⟩
      · exact ⟨_, rfl, zz rfl, fun l2 hl2 => ⟨_, rfl, _, _, rfl, rfl, (by show (0 : Int) < 3; decide), rd_pick (SqL.of upd_same) (by show 0 ≤ j % 3; omega) (by show j % 3 < 3; omega) fun v2 hv2 => .inr ⟨_, .one hb.ht, fun H' s' => k1 H' ((same_upd hl2).trans s')⟩⟩⟩
      · exact ⟨_, rfl, zz rfl, fun p3 h3 => ⟨.ref p3, _, rfl, .itm (pre := []) upd_same (Nat.le_of_ble_eq_true rfl) (fun y hy => nomatch hy) hb.ht, fun H' s' => k1 H' ((same_upd h3).trans s')⟩⟩
    refine ⟨_, rfl, rfl, _, rfl, ite2 (fun hc => ?_) (fun hc => ?_)⟩
    · refine ⟨_, rfl, zz rfl, fun p1 h1 => ⟨_, rfl, zz rfl, fun p2 h2 => ⟨_, rfl, zz rfl, fun p3 h3 => ⟨_, rfl, zz rfl, fun p4 h4 => ⟨zz rfl, fun l2 hl2 => ⟨_, rfl, _, _, rfl, rfl, (by show (0 : Int) < 4; decide), rd_pick (SqL.of upd_same) (by show 0 ≤ j % 4; omega) (by show j % 4 < 4; omega) fun v2 hv2 => ?_⟩⟩⟩⟩⟩⟩
      have s5 := same_upd (o := .lst [V.ref p1, .ref p2, .ref p3, .ref p4]) hl2
      have s4 := same_upd (o := .lst [v, V.str "u"]) h4
      have s3 := same_upd (o := .lst [v]) h3
      have s2 := same_upd (o := .lst [V.str "u", V.str "uu", v]) h2
      have sa := (((same_upd (o := .lst [V.str "u", v]) h1).trans s2).trans s3).trans (s4.trans s5)
      have e1 := s5 _ _ (s4 _ _ (s3 _ _ (s2 _ _ upd_same)))
      have e2 := s5 _ _ (s4 _ _ (s3 _ _ upd_same))
      have e3 := s5 _ _ (s4 _ _ upd_same)
      have e4 := s5 _ _ upd_same
      refine ⟨v2, _, rfl, ?_, fun H' s' => k1 H' (sa.trans s')⟩
      simp only [List.mem_cons, List.not_mem_nil, or_false] at hv2
      rcases hv2 with rfl | rfl | rfl | rfl
      · exact .itm (pre := [.str "u"]) e1 (Nat.le_of_ble_eq_true rfl) (fun y hy => by simp only [List.mem_cons, List.not_mem_nil, or_false] at hy; subst hy; exact ⟨_, ht_u⟩) hb.ht
      · exact .itm (pre := [.str "u", .str "uu"]) e2 (Nat.le_of_ble_eq_true rfl) (fun y hy => by
          simp only [List.mem_cons, List.not_mem_nil, or_false] at hy
          rcases hy with rfl | rfl
          · exact ⟨_, ht_u⟩
          · exact ⟨_, ht_uu⟩) hb.ht
      · exact .itm (pre := []) e3 (Nat.le_of_ble_eq_true rfl) (fun y hy => nomatch hy) hb.ht
      · exact .itm (pre := []) e4 (Nat.le_of_ble_eq_true rfl) (fun y hy => nomatch hy) hb.ht
    · refine ⟨zz rfl, fun t1 ht1 => ⟨zz rfl, fun p hp => ⟨_, rfl, p, _, rfl, SqL.of upd_same, fun q hq => ⟨zz rfl, fun t2 ht2 => fun d2 hd2 => ⟨upd_same, [((Sum.inr ("u" : Str) : Key), V.int 1)], rfl, by decide, zz rfl, fun l2 hl2 => ⟨_, rfl, _, _, rfl, rfl, (by show (0 : Int) < 7; decide), rd_pick (SqL.of upd_same) (by show 0 ≤ j % 7; omega) (by show j % 7 < 7; omega) fun v2 hv2 => ?_⟩⟩⟩⟩⟩⟩
      have sa := same_upd (o := .tup []) ht1
      have sb := same_upd (o := .lst [V.str "u"]) hp
      have sc := same_upd (o := .lst (cutV [V.str "u"] none (some 0))) hq
      have sd := same_upd (o := .tup [V.str "u"]) ht2
      have se := (same_upd (o := .dK []) hd2).upd (o := .dK (mergeK [] [((Sum.inr ("u" : Str) : Key), V.int 1)])) hd2 rfl
      have sf := same_upd (o := .lst [V.non, .str "u", .ref t1, .ref q, .int 5, .ref t2, .ref d2]) hl2
      have e1 := sf _ _ (se _ _ (sd _ _ (sc _ _ (sb _ _ upd_same))))
      have e2 := sf _ _ (se _ _ (sd _ _ upd_same))
      have e3 := sf _ _ (se _ _ upd_same)
      have e4 := sf _ _ upd_same
      have sall := ((((sa.trans sb).trans sc).trans sd).trans se).trans sf
      refine ⟨v2, _, rfl, ?_, fun H' s' => k1 H' (sall.trans s')⟩
      simp only [List.mem_cons, List.not_mem_nil, or_false] at hv2
      rcases hv2 with rfl | rfl | rfl | rfl | rfl | rfl | rfl
      · exact .nol ⟨_, .non, rfl⟩
      · exact .nol ⟨_, .str _, rfl⟩
      · exact .nol ⟨_, .tup e1, rfl⟩
      · exact .nil e2
      · exact .nol ⟨_, .int _, rfl⟩
      · exact .nol ⟨_, .tup e3, rfl⟩
      · exact .nol ⟨_, .dK e4, rfl⟩
end
end K09
set_option Elab.async false
set_option linter.all false
set_option maxRecDepth 100000
set_option maxHeartbeats 4000000
namespace K09
open PySem PySem.Spec PyProof.Rows L2 UM UT
section
variable {P : Program} {w : World} {K : PySem.W.Frag} {mg : Str → Option Value} {base : Heap} {A : Adr}
theorem ok_law_places_asked (T : Txt P w K mg A) : FnOk P w K mg base (CXf P w) 9 A.a_law_places_asked A.d_law_places_asked ["_law_which", "_law_more"] (spAll A.c_BadPlaces) := by
  refine T.F_law_places_asked.okX sc_law_places_asked (fun vs H Q E h => ?_) (fun cdv Ar outer s H vs Q E hr h => ?_)
  · obtain ⟨i, j, rfl, _⟩ := h
    rfl
  · obtain ⟨i, j, rfl, hi, hj, hj2, k⟩ := h
    have hu := hu_of hr
    refine ⟨_, (@pss_cons _ _ _ _ _ (@ps_set (i := 2) _ _ _ _ _ _ sc_law_places_asked.nd rfl (Or.inl rfl) (@pe_lst _ _ _ _ (@pa_consN _ _ _ _ _ (@pe_tup _ _ _ _ _ (@pa_consN _ _ _ _ _ pe_non (@pa_consN _ _ _ _ _ pe_int pa_nil (by rfl)) (by rfl))) (@pa_consN _ _ _ _ _ (@pe_tup _ _ _ _ _ (@pa_consN _ _ _ _ _ pe_int (@pa_consN _ _ _ _ _ pe_non pa_nil (by rfl)) (by rfl))) (@pa_consN _ _ _ _ _ (@pe_tup _ _ _ _ _ (@pa_consN _ _ _ _ _ (@pe_op _ _ _ _ _ _ _ _ op_sub (@pe_un _ _ _ _ _ _ un_neg pe_int) (pv 1)) (@pa_consN _ _ _ _ _ pe_int pa_nil (by rfl)) (by rfl))) (@pa_consN _ _ _ _ _ (@pe_tup _ _ _ _ _ (@pa_consN _ _ _ _ _ pe_int (@pa_consN _ _ _ _ _ (@pe_op _ _ _ _ _ _ _ _ op_add pe_int (pv 1)) pa_nil (by rfl)) (by rfl))) (@pa_consN _ _ _ _ _ (@pe_tup _ _ _ _ _ (@pa_consN _ _ _ _ _ pe_bl (@pa_consN _ _ _ _ _ pe_int pa_nil (by rfl)) (by rfl))) (@pa_consN _ _ _ _ _ (@pe_tup _ _ _ _ _ (@pa_consN _ _ _ _ _ pe_int (@pa_consN _ _ _ _ _ pe_bl pa_nil (by rfl)) (by rfl))) (@pa_consN _ _ _ _ _ (@pe_tup _ _ _ _ _ (@pa_consN _ _ _ _ _ pe_str (@pa_consN _ _ _ _ _ pe_int pa_nil (by rfl)) (by rfl))) (@pa_consN _ _ _ _ _ (@pe_tup _ _ _ _ _ (@pa_consN _ _ _ _ _ pe_int (@pa_consN _ _ _ _ _ pe_int pa_nil (by rfl)) (by rfl))) (@pa_consN _ _ _ _ _ (@pe_tup _ _ _ _ _ (@pa_consN _ _ _ _ _ pe_int (@pa_consN _ _ _ _ _ pe_int pa_nil (by rfl)) (by rfl))) (@pa_consN _ _ _ _ _ (@pe_tup _ _ _ _ _ (@pa_consN _ _ _ _ _ pe_int (@pa_consN _ _ _ _ _ pe_int pa_nil (by rfl)) (by rfl))) pa_nil (by rfl)) (by rfl)) (by rfl)) (by rfl)) (by rfl)) (by rfl)) (by rfl)) (by rfl)) (by rfl)) (by rfl))) (by rfl) (by first | exact .inl rfl | exact .inr rfl | assumption)) (@pss_cons _ _ _ _ _ (@ps_set (i := 2) _ _ _ _ _ _ sc_law_places_asked.nd rfl (Or.inl rfl) (@pe_op _ _ _ _ _ _ _ _ op_catL (pv 2) (@pe_lst _ _ _ _ (@pa_consN _ _ _ _ _ (@pe_tup _ _ _ _ _ (@pa_consN _ _ _ _ _ (@pe_op _ _ _ _ _ _ _ _ op_add pe_int (pv 1)) (@pa_consN _ _ _ _ _ (@pe_op _ _ _ _ _ _ _ _ op_add pe_int (pv 1)) pa_nil (by rfl)) (by rfl))) (@pa_consN _ _ _ _ _ (@pe_tup _ _ _ _ _ (@pa_consN _ _ _ _ _ (@pe_tup _ _ _ _ _ (@pa_consN _ _ _ _ _ pe_int pa_nil (by rfl))) (@pa_consN _ _ _ _ _ pe_int pa_nil (by rfl)) (by rfl))) pa_nil (by rfl)) (by rfl)))) (by rfl) (by first | exact .inl rfl | exact .inr rfl | assumption)) (@pss_cons _ _ _ _ _ (@ps_asg _ _ _ _ _ _ (@pe_ix _ _ _ _ _ _ _ ix_list (pv 2) (@pe_op _ _ _ _ _ _ _ _ op_mod (pv 0) pe_int) (fun _ _ => rfl)) (pg_tup rfl (pgs_cons (pg_name (i := 3) sc_law_places_asked.nd rfl (Or.inl rfl)) (pgs_cons (pg_name (i := 4) sc_law_places_asked.nd rfl (Or.inl rfl)) pgs_nil))) (by rfl) (by rfl) (by rfl)) (@pss_one _ _ _ (@ps_ret _ _ _ _ (@pe_callD (k := 8) _ _ _ _ _ _ _ _ _ _ _ (@pe_ix _ _ _ _ _ _ _ ix_list (@pe_lst _ _ _ _ (@pa_consN _ _ _ _ _ (pe_glob (v := .ref A.a_moves_at) rfl T.m_moves_at rfl) (@pa_consN _ _ _ _ _ (pe_glob (v := .ref A.a_reached) rfl T.m_reached rfl) pa_nil (by rfl)) (by rfl))) (@pe_op _ _ _ _ _ _ _ _ op_mod (@pe_op _ _ _ _ _ _ _ _ op_fdiv (pv 0) pe_int) pe_int) (fun _ _ => rfl)) (hr.mono (by decide)) (passes_of rfl rfl lets_def) (@pa_consN _ _ _ _ _ pe_str (@pa_consN _ _ _ _ _ pe_str (@pa_consN _ _ _ _ _ (pv 3) (@pa_consN _ _ _ _ _ (pv 4) pa_nil (by rfl)) (by rfl)) (by rfl)) (by rfl)) (by rfl) (by rfl))))))), ?_⟩
    refine ⟨zz rfl, fun t1 h1 => ⟨zz rfl, fun t2 h2 => ⟨_, rfl, _, rfl, _, _, rfl, rfl, zz rfl, fun t3 h3 => ⟨_, rfl, _, _, rfl, rfl, zz rfl, fun t4 h4 => ⟨zz rfl, fun t5 h5 => ⟨zz rfl, fun t6 h6 => ⟨zz rfl, fun t7 h7 => ⟨zz rfl, fun t8 h8 => ⟨zz rfl, fun t9 h9 => ⟨zz rfl, fun t10 h10 => ⟨zz rfl, fun l1 hl1 => ?_⟩⟩⟩⟩⟩⟩⟩⟩⟩⟩⟩
    have s1 := same_upd (o := .tup [V.non, .int 0]) h1
    have s2 := same_upd (o := .tup [V.int 0, .non]) h2
    have s3 := same_upd (o := .tup [V.int (-1 - j), .int 0]) h3
    have s4 := same_upd (o := .tup [V.int 0, .int (3 + j)]) h4
    have s5 := same_upd (o := .tup [V.bl true, .int 1]) h5
    have s6 := same_upd (o := .tup [V.int 1, .bl true]) h6
    have s7 := same_upd (o := .tup [V.str "0", .int 0]) h7
    have s8 := same_upd (o := .tup [V.int 0, .int 1]) h8
    have s9 := same_upd (o := .tup [V.int 1, .int 0]) h9
    have s10 := same_upd (o := .tup [V.int 1, .int 2]) h10
    have s11 := same_upd (o := .lst [V.ref t1, .ref t2, .ref t3, .ref t4, .ref t5, .ref t6, .ref t7, .ref t8, .ref t9, .ref t10]) hl1
    have e10 := s11 _ _ upd_same
    have s10' := s10.trans s11
    have e9 := s10' _ _ upd_same
    have s9' := s9.trans s10'
    have e8 := s9' _ _ upd_same
    have s8' := s8.trans s9'
    have e7 := s8' _ _ upd_same
    have s7' := s7.trans s8'
    have e6 := s7' _ _ upd_same
    have s6' := s6.trans s7'
    have e5 := s6' _ _ upd_same
    have s5' := s5.trans s6'
    have e4 := s5' _ _ upd_same
    have s4' := s4.trans s5'
    have e3 := s4' _ _ upd_same
    have s3' := s3.trans s4'
    have e2 := s3' _ _ upd_same
    have s2' := s2.trans s3'
    have e1 := s2' _ _ upd_same
    have sA := s1.trans s2'
    clear s1 s2 s3 s4 s5 s6 s7 s8 s9 s10 s11 s2' s3' s4' s5' s6' s7' s8' s9' s10'
    generalize hH : upd _ l1 (.lst [V.ref t1, .ref t2, .ref t3, .ref t4, .ref t5, .ref t6, .ref t7, .ref t8, .ref t9, .ref t10]) = H1 at sA e1 e2 e3 e4 e5 e6 e7 e8 e9 e10
    have el : H1 l1 = some (.lst [V.ref t1, .ref t2, .ref t3, .ref t4, .ref t5, .ref t6, .ref t7, .ref t8, .ref t9, .ref t10]) := by rw [← hH]; exact upd_same
    clear hH
    dsimp only [gName, tSeq, tAsg]
    refine ⟨_, rfl, _, rfl, _, _, rfl, rfl, _, rfl, _, _, rfl, rfl, zz rfl, fun t11 h11 => ⟨zz rfl, fun t12 h12 => ⟨zz rfl, fun t13 h13 => ⟨zz rfl, fun l2 hl2 => ⟨l1, l2, [V.ref t1, .ref t2, .ref t3, .ref t4, .ref t5, .ref t6, .ref t7, .ref t8, .ref t9, .ref t10], _, rfl, rfl, ?_, SqL.of upd_same, zz rfl, fun l3 hl3 => ?_⟩⟩⟩⟩⟩
    · exact SqL.of (same_upd hl2 _ _ (same_upd h13 _ _ (same_upd h12 _ _ (same_upd h11 _ _ el))))
    have r11 := same_upd (o := .tup [V.int (4 + j), .int (4 + j)]) h11
    have r12 := same_upd (o := .tup [V.int 0]) h12
    have r13 := same_upd (o := .tup [V.ref t12, .int 0]) h13
    have r14 := same_upd (o := .lst [V.ref t11, .ref t13]) hl2
    have r15 := same_upd (o := .lst ([V.ref t1, .ref t2, .ref t3, .ref t4, .ref t5, .ref t6, .ref t7, .ref t8, .ref t9, .ref t10] ++ [V.ref t11, .ref t13])) hl3
    have rB := (((r11.trans r12).trans r13).trans r14).trans r15
    have e1 := rB _ _ e1
    have e2 := rB _ _ e2
    have e3 := rB _ _ e3
    have e4 := rB _ _ e4
    have e5 := rB _ _ e5
    have e6 := rB _ _ e6
    have e7 := rB _ _ e7
    have e8 := rB _ _ e8
    have e9 := rB _ _ e9
    have e10 := rB _ _ e10
    have e11 := r15 _ _ (r14 _ _ (r13 _ _ (r12 _ _ upd_same)))
    have e12 := r15 _ _ (r14 _ _ (r13 _ _ upd_same))
    have e13 := r15 _ _ (r14 _ _ upd_same)
    have sB := sA.trans rB
    clear r11 r12 r13 r14 r15 rB sA el
    generalize hH : upd _ l3 (.lst ([V.ref t1, .ref t2, .ref t3, .ref t4, .ref t5, .ref t6, .ref t7, .ref t8, .ref t9, .ref t10] ++ [V.ref t11, .ref t13])) = H2 at sB e1 e2 e3 e4 e5 e6 e7 e8 e9 e10 e11 e12 e13
    have el3 : H2 l3 = some (.lst ([V.ref t1, .ref t2, .ref t3, .ref t4, .ref t5, .ref t6, .ref t7, .ref t8, .ref t9, .ref t10] ++ [V.ref t11, .ref t13])) := by rw [← hH]; exact upd_same
    clear hH
    dsimp only [gName, tSeq, tAsg]
    refine ⟨_, rfl, _, rfl, _, _, rfl, rfl, (by show (0 : Int) < 12; decide), rd_pick (SqL.of el3) (by show 0 ≤ i % 12; omega) (by show i % 12 < 12; omega) fun v hv => ?_⟩
    have tp : TP K H2 v := by
      simp only [List.cons_append, List.nil_append, List.mem_cons, List.not_mem_nil, or_false] at hv
      rcases hv with rfl | rfl | rfl | rfl | rfl | rfl | rfl | rfl | rfl | rfl | rfl | rfl
      · exact ⟨_, _, _, rfl, e1, .one (.oth ⟨_, .non, rfl⟩) (.int _)⟩
      · exact ⟨_, _, _, rfl, e2, .two (.int _) (.oth ⟨_, .non, rfl⟩)⟩
      · exact ⟨_, _, _, rfl, e3, .one (.out (.inl (by omega))) (.int _)⟩
      · exact ⟨_, _, _, rfl, e4, .two (.int _) (.out (.inr (by show (3 : Int) ≤ 3 + j; omega)))⟩
      · exact ⟨_, _, _, rfl, e5, .one (.bl _) (.int _)⟩
      · exact ⟨_, _, _, rfl, e6, .two (.int _) (.bl _)⟩
      · exact ⟨_, _, _, rfl, e7, .one (.oth ⟨_, .str _, rfl⟩) (.int _)⟩
      · exact ⟨_, _, _, rfl, e8, .unl (by decide +kernel)⟩
      · exact ⟨_, _, _, rfl, e9, .unl (by decide +kernel)⟩
      · exact ⟨_, _, _, rfl, e10, .unl (by decide +kernel)⟩
      · exact ⟨_, _, _, rfl, e11, .one (.out (.inr (by show (4 : Int) ≤ 4 + j; omega))) (.int _)⟩
      · exact ⟨_, _, _, rfl, e13, .one (.oth ⟨_, .tup e12, rfl⟩) (.int _)⟩
    obtain ⟨t, x, y, rfl, et, hn⟩ := tp
    clear hv e1 e2 e3 e4 e5 e6 e7 e8 e9 e10 e11 e12 e13 el3
    refine ⟨t, _, rfl, SqT.of et, rfl, x, [y], rfl, y, [], rfl, rfl, ?_⟩
    refine ⟨zz rfl, fun l4 hl4 => ⟨_, rfl, _, _, rfl, rfl, ⟨by show (0 : Int) < 12; decide, by show (12 : Int) < 1073741824; decide⟩, _, _, rfl, rfl, (by show (0 : Int) < 2; decide), rd_pick (SqL.of upd_same) (by show 0 ≤ i / 12 % 2; omega) (by show i / 12 % 2 < 2; omega) fun f hf => ?_⟩⟩
    obtain ⟨f, rfl, cal⟩ := doors4 T f hf
    have s4 := same_upd (o := .lst [V.ref A.a_moves_at, .ref A.a_reached]) hl4
    refine ⟨f, _, rfl, cal, _, rfl, _, rfl, A.c_BadPlaces, ?_, fun H' s' => k H' ((sB.trans s4).trans s')⟩
    have e1 : V.str (Str.ofString "uud") = .str (rt [true, true, false]) := by decide +kernel
    have e2 : V.str (Str.ofString "ud") = .str (rt [true, false]) := by decide +kernel
    have z := Bad4.pl (K := K) (Cr := A.c_BadRidge) (Cp := A.c_BadPlaces) (R := [true, true, false]) (S := [true, false]) (by decide) (by decide) (hn.same s4)
    rw [← e1, ← e2] at z
    exact z
end
end K09
set_option Elab.async false
set_option linter.all false
set_option maxRecDepth 100000
set_option maxHeartbeats 4000000
namespace K09
open PySem PySem.Spec PyProof.Rows L2 UM UT
section
variable {P : Program} {w : World} {K : PySem.W.Frag} {mg : Str → Option Value} {base : Heap} {A : Adr}
theorem ok_law_others_asked (T : Txt P w K mg A) : FnOk P w K mg base (CXf P w) 9 A.a_law_others_asked A.d_law_others_asked ["_law_kind", "_law_which", "_law_more"] (sp_law_others_asked A.c_BadRange A.c_BadMoves A.c_Unlike) := by
  have G_thinned : FnOk P w K mg base (CXf P w) 3 A.a_thinned A.d_thinned ["moves"] (sp_thinned K A.c_BadMoves) := ok_thinned T
  have G_together : FnOk P w K mg base (CXf P w) 6 A.a_together A.d_together ["one", "other"] (sp_together K A.c_BadRidge A.c_BadClimb A.c_Unlike) := ok_together T
  have G_in_unison : FnOk P w K mg base (CXf P w) 6 A.a_in_unison A.d_in_unison ["climbs"] (spBadU K A.c_BadRidge A.c_BadClimb A.c_Unlike) := ok_in_unison T
  refine T.F_law_others_asked.okX sc_law_others_asked (fun vs H Q E h => ?_) (fun cdv Ar outer s H vs Q E hr h => ?_)
  · obtain ⟨c, i, j, C, rfl, _⟩ := h
    rfl
  · obtain ⟨c, i, j, C, rfl, hi, hj, hj2, hC, k⟩ := h
    have hu := hu_of hr
    refine ⟨_, (@pss_cons _ _ _ _ _ (@ps_if _ _ _ _ _ _ _ _ (@pt_cmpR _ _ _ _ _ _ _ _ op_eq (pv 0) pe_int (nomark _)) (@pss_one _ _ _ (@ps_ret _ _ _ _ (@pe_callD (k := 8) _ _ _ _ _ _ _ _ _ _ _ (@pe_ix _ _ _ _ _ _ _ ix_list (@pe_lst _ _ _ _ (@pa_consN _ _ _ _ _ (pe_glob (v := .ref A.a_meeting) rfl T.m_meeting rfl) (@pa_consN _ _ _ _ _ (pe_glob (v := .ref A.a_changed) rfl T.m_changed rfl) pa_nil (by rfl)) (by rfl))) (@pe_op _ _ _ _ _ _ _ _ op_mod (@pe_op _ _ _ _ _ _ _ _ op_fdiv (pv 1) pe_int) pe_int) (fun _ _ => rfl)) (hr.mono (by decide)) (passes_of rfl rfl lets_def) (@pa_consN _ _ _ _ _ (@pe_ix _ _ _ _ _ _ _ ix_list (@pe_lst _ _ _ _ (@pa_consN _ _ _ _ _ pe_str (@pa_consN _ _ _ _ _ pe_str (@pa_consN _ _ _ _ _ pe_str (@pa_consN _ _ _ _ _ pe_str (@pa_consN _ _ _ _ _ (@pe_op _ _ _ _ _ _ _ _ op_add_str (@pe_op _ _ _ _ _ _ _ _ op_mulS pe_str (@pe_op _ _ _ _ _ _ _ _ op_add pe_int (@pe_op _ _ _ _ _ _ _ _ op_mod (pv 2) pe_int))) pe_str) pa_nil (by rfl)) (by rfl)) (by rfl)) (by rfl)) (by rfl))) (@pe_op _ _ _ _ _ _ _ _ op_mod (pv 1) pe_int) (fun _ _ => rfl)) pa_nil (by rfl)) (by rfl) (by rfl)))) pss_nil) (@pss_cons _ _ _ _ _ (@ps_if _ _ _ _ _ _ _ _ (@pt_cmpR _ _ _ _ _ _ _ _ op_eq (pv 0) pe_int (nomark _)) (@pss_cons _ _ _ _ _ (@ps_set (i := 3) _ _ _ _ _ _ sc_law_others_asked.nd rfl (Or.inl rfl) (@pe_lst _ _ _ _ (@pa_consN _ _ _ _ _ pe_non (@pa_consN _ _ _ _ _ (@pe_tup _ _ _ _ _ (@pa_consN _ _ _ _ _ pe_str pa_nil (by rfl))) (@pa_consN _ _ _ _ _ pe_str (@pa_consN _ _ _ _ _ (@pe_lst _ _ _ _ (@pa_consN _ _ _ _ _ pe_str pa_nil (by rfl))) (@pa_consN _ _ _ _ _ (@pe_lst _ _ _ _ (@pa_consN _ _ _ _ _ pe_str (@pa_consN _ _ _ _ _ pe_str pa_nil (by rfl)) (by rfl))) (@pa_consN _ _ _ _ _ (@pe_lst _ _ _ _ (@pa_consN _ _ _ _ _ pe_str (@pa_consN _ _ _ _ _ pe_non pa_nil (by rfl)) (by rfl))) (@pa_consN _ _ _ _ _ (@pe_lst _ _ _ _ (@pa_consN _ _ _ _ _ pe_int pa_nil (by rfl))) (@pa_consN _ _ _ _ _ (@pe_lst _ _ _ _ (@pa_consN _ _ _ _ _ pe_str pa_nil (by rfl))) (@pa_consN _ _ _ _ _ (@pe_lst _ _ _ _ (@pa_consN _ _ _ _ _ pe_str pa_nil (by rfl))) (@pa_consN _ _ _ _ _ (@pe_lst _ _ _ _ (@pa_consN _ _ _ _ _ (@pe_lst _ _ _ _ (@pa_consN _ _ _ _ _ pe_str (@pa_consN _ _ _ _ _ pe_str pa_nil (by rfl)) (by rfl))) pa_nil (by rfl))) (@pa_consN _ _ _ _ _ (@pe_lst _ _ _ _ (@pa_consN _ _ _ _ _ pe_dnewK pa_nil (by rfl))) pa_nil (by rfl)) (by rfl)) (by rfl)) (by rfl)) (by rfl)) (by rfl)) (by rfl)) (by rfl)) (by rfl)) (by rfl)) (by rfl))) (by rfl) (by first | exact .inl rfl | exact .inr rfl | assumption)) (@pss_one _ _ _ (@ps_ret _ _ _ _ (@pe_call _ _ _ _ _ _ _ _ _ _ _ _ _ _ _ _ G_thinned (hr.mono (by decide)) rfl T.m_thinned T.k_thinned T.B_thinned .nil (passes_of rfl rfl lets_def) (@pa_consN _ _ _ _ _ (@pe_ix _ _ _ _ _ _ _ ix_list (@pe_op _ _ _ _ _ _ _ _ op_catL (pv 3) (@pe_lst _ _ _ _ (@pa_consN _ _ _ _ _ (@pe_lst _ _ _ _ (@pa_consN _ _ _ _ _ (@pe_tup _ _ _ _ _ (@pa_consN _ _ _ _ _ pe_str (@pa_consN _ _ _ _ _ pe_str pa_nil (by rfl)) (by rfl))) pa_nil (by rfl))) (@pa_consN _ _ _ _ _ (@pe_lst _ _ _ _ (@pa_consN _ _ _ _ _ pe_str (@pa_consN _ _ _ _ _ (@pe_lst _ _ _ _ (@pa_consN _ _ _ _ _ pe_str (@pa_consN _ _ _ _ _ pe_str pa_nil (by rfl)) (by rfl))) pa_nil (by rfl)) (by rfl))) pa_nil (by rfl)) (by rfl)))) (@pe_op _ _ _ _ _ _ _ _ op_mod (pv 1) pe_int) (fun _ _ => rfl)) pa_nil (by rfl)) (by decide) (by rfl) (by rfl))))) pss_nil) (@pss_cons _ _ _ _ _ (@ps_set (i := 4) _ _ _ _ _ _ sc_law_others_asked.nd rfl (Or.inl rfl) (@pe_op _ _ _ _ _ _ _ _ op_mulS pe_str (@pe_op _ _ _ _ _ _ _ _ op_add pe_int (@pe_op _ _ _ _ _ _ _ _ op_mod (pv 2) pe_int))) (by rfl) (by first | exact .inl rfl | exact .inr rfl | assumption)) (@pss_cons _ _ _ _ _ (@ps_if _ _ _ _ _ _ _ _ (@pt_cmpR _ _ _ _ _ _ _ _ op_eq (@pe_op _ _ _ _ _ _ _ _ op_mod (pv 1) pe_int) pe_int (nomark _)) (@pss_one _ _ _ (@ps_ret _ _ _ _ (@pe_call _ _ _ _ _ _ _ _ _ _ _ _ _ _ _ _ G_together (hr.mono (by decide)) rfl T.m_together T.k_together T.B_together .nil (passes_of rfl rfl lets_def) (@pa_consN _ _ _ _ _ (pv 4) (@pa_consN _ _ _ _ _ (@pe_op _ _ _ _ _ _ _ _ op_add_str (pv 4) pe_str) pa_nil (by rfl)) (by rfl)) (by decide) (by rfl) (by rfl)))) pss_nil) (@pss_one _ _ _ (@ps_ret _ _ _ _ (@pe_call _ _ _ _ _ _ _ _ _ _ _ _ _ _ _ _ G_in_unison (hr.mono (by decide)) rfl T.m_in_unison T.k_in_unison T.B_in_unison .nil (passes_of rfl rfl lets_def) (@pa_consN _ _ _ _ _ (@pe_ix _ _ _ _ _ _ _ ix_list (@pe_lst _ _ _ _ (@pa_consN _ _ _ _ _ (@pe_lst _ _ _ _ (@pa_consN _ _ _ _ _ (pv 4) (@pa_consN _ _ _ _ _ (@pe_op _ _ _ _ _ _ _ _ op_add_str (pv 4) pe_str) (@pa_consN _ _ _ _ _ (@pe_op _ _ _ _ _ _ _ _ op_add_str (pv 4) pe_str) pa_nil (by rfl)) (by rfl)) (by rfl))) (@pa_consN _ _ _ _ _ (@pe_lst _ _ _ _ (@pa_consN _ _ _ _ _ (pv 4) (@pa_consN _ _ _ _ _ (@pe_op _ _ _ _ _ _ _ _ op_add_str (pv 4) pe_str) (@pa_consN _ _ _ _ _ (pv 4) pa_nil (by rfl)) (by rfl)) (by rfl))) pa_nil (by rfl)) (by rfl))) (@pe_op _ _ _ _ _ _ _ _ op_mod (@pe_op _ _ _ _ _ _ _ _ op_fdiv (pv 1) pe_int) pe_int) (fun _ _ => rfl)) pa_nil (by rfl)) (by decide) (by rfl) (by rfl)))))))), ?_⟩
    refine ⟨_, rfl, rfl, _, rfl, ite2 (fun hc => ?_) (fun hc => ?_)⟩
    · have hc : c = 2 := V.int.inj (of_decide_eq_true hc)
      have hC : C = A.c_BadRange := by
        rcases hC with ⟨_, h⟩ | ⟨h, _⟩ | ⟨h, _⟩
        · exact h
        · omega
        · omega
      subst hC
      refine ⟨zz rfl, fun l hl => ⟨_, rfl, _, _, rfl, rfl, ⟨by show (0 : Int) < 5; decide, by show (5 : Int) < 1073741824; decide⟩, _, _, rfl, rfl, (by show (0 : Int) < 2; decide), rd_pick (SqL.of upd_same) (by show 0 ≤ i / 5 % 2; omega) (by show i / 5 % 2 < 2; omega) fun f hf => ?_⟩⟩
      obtain ⟨f, rfl, cal⟩ := doorsG T f hf
      refine ⟨f, _, rfl, cal, _, rfl, _, _, rfl, rfl, (by show (0 : Int) < 9; decide), _, _, rfl, rfl, _, _, rfl, rfl, (by decide), (by show 2 + j % 9 ≤ 1048576; omega), (by show -(2 ^ 63 : Int) ≤ 2 + j % 9; omega), _, _, rfl, rfl, (uus9 (K := K) (Cr := A.c_BadRidge) (Cg := A.c_BadRange) (H := H) j).2, zz rfl, fun l2 hl2 => ⟨_, rfl, _, _, rfl, rfl, (by show (0 : Int) < 5; decide), rd_pick (SqL.of upd_same) (by show 0 ≤ i % 5; omega) (by show i % 5 < 5; omega) fun v hv => ⟨v, A.c_BadRange, rfl, ?_, fun H' s' => k H' (((same_upd hl).trans (same_upd hl2)).trans s')⟩⟩⟩
      simp only [List.mem_cons, List.not_mem_nil, or_false] at hv
      rcases hv with rfl | rfl | rfl | rfl | rfl
      · exact badG_of [true] (by decide +kernel)
      · exact badG_of [false] (by decide +kernel)
      · exact badG_of [false, true] (by decide +kernel)
      · exact badG_of [true, false, false] (by decide +kernel)
      · exact (uus9 j).1
    have n2 : c ≠ 2 := fun z => hc (decide_eq_true (congrArg V.int z))
    dsimp only [tNext, tSeq, tIfS]
    refine ⟨_, rfl, rfl, _, rfl, ite2 (fun hc => ?_) (fun hc => ?_)⟩
    · have hc : c = 4 := V.int.inj (of_decide_eq_true hc)
      have hC : C = A.c_BadMoves := by
        rcases hC with ⟨h, _⟩ | ⟨_, h⟩ | ⟨h, _⟩
        · omega
        · exact h
        · omega
      subst hC
      refine ⟨zz rfl, fun t1 h1 => ⟨zz rfl, fun p1 g1 => ⟨zz rfl, fun p2 g2 => ⟨zz rfl, fun p3 g3 => ⟨zz rfl, fun p4 g4 => ⟨zz rfl, fun p5 g5 => ⟨zz rfl, fun p6 g6 => ⟨zz rfl, fun q7 f7 => ⟨zz rfl, fun p7 g7 => fun d8 f8 => ⟨zz rfl, fun p8 g8 => ⟨zz rfl, fun l1 hl1 => ?_⟩⟩⟩⟩⟩⟩⟩⟩⟩⟩⟩
      have s0 := same_upd (o := .tup [V.str "ff"]) h1
      have s1 := same_upd (o := .lst [V.str "f"]) g1
      have s2 := same_upd (o := .lst [V.str "ff", .str "fx"]) g2
      have s3 := same_upd (o := .lst [V.str "ff", .non]) g3
      have s4 := same_upd (o := .lst [V.int 5]) g4
      have s5 := same_upd (o := .lst [V.str "FF"]) g5
      have s6 := same_upd (o := .lst [V.str "ffb"]) g6
      have s7 := same_upd (o := .lst [V.str "f", .str "f"]) f7
      have s8 := same_upd (o := .lst [V.ref q7]) g7
      have s9 := same_upd (o := .dK []) f8
      have s10 := same_upd (o := .lst [V.ref d8]) g8
      have s11 := same_upd (o := .lst [V.non, .ref t1, .str "ff", .ref p1, .ref p2, .ref p3, .ref p4, .ref p5, .ref p6, .ref p7, .ref p8]) hl1
      have e10 := s11 _ _ upd_same
      have s10' := s10.trans s11
      have e9 := s10' _ _ upd_same
      have s9' := s9.trans s10'
      have e8 := s9' _ _ upd_same
      have s8' := s8.trans s9'
      have e7 := s8' _ _ upd_same
      have s7' := s7.trans s8'
      have e6 := s7' _ _ upd_same
      have s6' := s6.trans s7'
      have e5 := s6' _ _ upd_same
      have s5' := s5.trans s6'
      have e4 := s5' _ _ upd_same
      have s4' := s4.trans s5'
      have e3 := s4' _ _ upd_same
      have s3' := s3.trans s4'
      have e2 := s3' _ _ upd_same
      have s2' := s2.trans s3'
      have e1 := s2' _ _ upd_same
      have s1' := s1.trans s2'
      have e0 := s1' _ _ upd_same
      have sA := s0.trans s1'
      clear s0 s1 s2 s3 s4 s5 s6 s7 s8 s9 s10 s11 s1' s2' s3' s4' s5' s6' s7' s8' s9' s10'
      generalize hH : upd _ l1 (.lst [V.non, .ref t1, .str "ff", .ref p1, .ref p2, .ref p3, .ref p4, .ref p5, .ref p6, .ref p7, .ref p8]) = H1 at sA e0 e1 e2 e3 e4 e5 e6 e7 e8 e9 e10
      have el : H1 l1 = some (.lst [V.non, .ref t1, .str "ff", .ref p1, .ref p2, .ref p3, .ref p4, .ref p5, .ref p6, .ref p7, .ref p8]) := by rw [← hH]; exact upd_same
      clear hH
      dsimp only [gName, tSeq, tAsg]
      refine ⟨_, rfl, zz rfl, fun t9 f9 => ⟨zz rfl, fun p9 g9 => ⟨zz rfl, fun q10 f10 => ⟨zz rfl, fun p10 g10 => ⟨zz rfl, fun l2 hl2 => ⟨l1, l2, [V.non, .ref t1, .str "ff", .ref p1, .ref p2, .ref p3, .ref p4, .ref p5, .ref p6, .ref p7, .ref p8], _, rfl, rfl, ?_, SqL.of upd_same, zz rfl, fun l3 hl3 => ⟨_, rfl, _, _, rfl, rfl, (by show (0 : Int) < 13; decide), rd_pick (SqL.of upd_same) (by show 0 ≤ i % 13; omega) (by show i % 13 < 13; omega) fun v hv => ?_⟩⟩⟩⟩⟩⟩⟩
      · exact SqL.of (same_upd hl2 _ _ (same_upd g10 _ _ (same_upd f10 _ _ (same_upd g9 _ _ (same_upd f9 _ _ el)))))
      have r1 := same_upd (o := .tup [V.str "f", .str "f"]) f9
      have r2 := same_upd (o := .lst [V.ref t9]) g9
      have r3 := same_upd (o := .lst [V.str "b", .str "b"]) f10
      have r4 := same_upd (o := .lst [V.str "ff", .ref q10]) g10
      have r5 := same_upd (o := .lst [V.ref p9, .ref p10]) hl2
      have r6 := same_upd (o := .lst ([V.non, .ref t1, .str "ff", .ref p1, .ref p2, .ref p3, .ref p4, .ref p5, .ref p6, .ref p7, .ref p8] ++ [V.ref p9, .ref p10])) hl3
      have rB := ((((r1.trans r2).trans r3).trans r4).trans r5).trans r6
      have e0 := rB _ _ e0
      have e1 := rB _ _ e1
      have e2 := rB _ _ e2
      have e3 := rB _ _ e3
      have e4 := rB _ _ e4
      have e5 := rB _ _ e5
      have e6 := rB _ _ e6
      have e7 := rB _ _ e7
      have e8 := rB _ _ e8
      have e9 := rB _ _ e9
      have e10 := rB _ _ e10
      have w4 := r6 _ _ (r5 _ _ upd_same)
      have w3 := r6 _ _ (r5 _ _ (r4 _ _ upd_same))
      have w2 := r6 _ _ (r5 _ _ (r4 _ _ (r3 _ _ upd_same)))
      have w1 := r6 _ _ (r5 _ _ (r4 _ _ (r3 _ _ (r2 _ _ upd_same))))
      have sB := sA.trans rB
      clear r1 r2 r3 r4 r5 r6 rB sA el
      generalize upd _ l3 _ = H2 at sB e0 e1 e2 e3 e4 e5 e6 e7 e8 e9 e10 w1 w2 w3 w4
      refine .inr ⟨v, rfl, ?_, fun H' s' => k H' (sB.trans s')⟩
      simp only [List.cons_append, List.nil_append, List.mem_cons, List.not_mem_nil, or_false] at hv
      rcases hv with rfl | rfl | rfl | rfl | rfl | rfl | rfl | rfl | rfl | rfl | rfl | rfl | rfl
      · exact .inl ⟨_, .non, rfl⟩
      · exact .inl ⟨_, .tup e0, rfl⟩
      · exact .inl ⟨_, .str _, rfl⟩
      · exact nom1 e1 (askS (by decide +kernel))
      · exact nom2 e2 (askS (by decide +kernel))
      · exact nom2 e3 (askN ⟨_, .non, rfl⟩)
      · exact nom1 e4 (askN ⟨_, .int _, rfl⟩)
      · exact nom1 e5 (askS (by decide +kernel))
      · exact nom1 e6 (askS (by decide +kernel))
      · exact nom1 e8 (askN ⟨_, .lst e7, rfl⟩)
      · exact nom1 e10 (askN ⟨_, .dK e9, rfl⟩)
      · exact nom1 w2 (askN ⟨_, .tup w1, rfl⟩)
      · exact nom2 w4 (askN ⟨_, .lst w3, rfl⟩)
    have n4 : c ≠ 4 := fun z => hc (decide_eq_true (congrArg V.int z))
    have hC : C = A.c_Unlike := by
      rcases hC with ⟨h, _⟩ | ⟨h, _⟩ | ⟨_, h⟩
      · omega
      · omega
      · exact h
    subst hC
    dsimp only [tNext, tSeq, tIfS, tAsg]
    refine ⟨_, rfl, _, _, rfl, rfl, (by show (0 : Int) < 6; decide), _, _, rfl, rfl, _, _, rfl, rfl, (by decide), (by show 1 + j % 6 ≤ 1048576; omega), (by show -(2 ^ 63 : Int) ≤ 1 + j % 6; omega), ?_⟩
    have U := @ups K A.c_BadRidge A.c_BadClimb
    change gName 4 (.str (uu (1 + j % 6).toNat)) _ _ _
    have U : ∀ H', Ups K A.c_BadRidge A.c_BadClimb H' (1 + j % 6).toNat := fun H' => ups j
    generalize (1 + j % 6).toNat = n at U
    dsimp only [gName, tSeq, tAsg]
    refine ⟨_, rfl, _, _, rfl, rfl, (by show (0 : Int) < 2; decide), rfl, _, rfl, ite2 (fun hc => ?_) (fun hc => ?_)⟩
    · exact ⟨_, rfl, _, rfl, _, _, rfl, rfl, (U H).z1, .inr ⟨_, .unl (U H).a (U H).b (by omega), k⟩⟩
    · refine ⟨_, rfl, _, rfl, _, _, rfl, rfl, (U H).z2, _, rfl, _, _, rfl, rfl, (U H).z3, zz rfl, fun p1 h1 => ⟨_, rfl, _, rfl, _, _, rfl, rfl, (U H).z3, _, rfl, zz rfl, fun p2 h2 => ⟨zz rfl, fun l hl => ⟨_, rfl, _, _, rfl, rfl, ⟨by show (0 : Int) < 2; decide, by show (2 : Int) < 1073741824; decide⟩, _, _, rfl, rfl, (by show (0 : Int) < 2; decide), rd_pick (SqL.of upd_same) (by show 0 ≤ i / 2 % 2; omega) (by show i / 2 % 2 < 2; omega) fun v hv => ?_⟩⟩⟩⟩
      have s1 := same_upd (o := .lst [V.str (uu n), .str (uu n ++ Str.ofString "du"), .str (uu n ++ Str.ofString "uu")]) h1
      have s2 := same_upd (o := .lst [V.str (uu n), .str (uu n ++ Str.ofString "uu"), .str (uu n)]) h2
      have s3 := same_upd (o := .lst [V.ref p1, .ref p2]) hl
      have e1 := s3 _ _ (s2 _ _ upd_same)
      have e2 := s3 _ _ upd_same
      have sA := (s1.trans s2).trans s3
      refine ⟨v, A.c_Unlike, rfl, ?_, fun H' s' => k H' (sA.trans s')⟩
      clear s1 s2 s3
      generalize upd _ l _ = H2 at sA e1 e2
      simp only [List.mem_cons, List.not_mem_nil, or_false] at hv
      rcases hv with rfl | rfl
      · refine .unl e1 (Nat.le_of_ble_eq_true rfl) (fun y hy => ?_) List.mem_cons_self (List.mem_cons_of_mem _ (List.mem_cons_of_mem _ List.mem_cons_self)) (U H2).a (U H2).d (by omega)
        simp only [List.mem_cons, List.not_mem_nil, or_false] at hy
        rcases hy with rfl | rfl | rfl
        · exact ⟨_, (U H2).a⟩
        · exact ⟨_, (U H2).c⟩
        · exact ⟨_, (U H2).d⟩
      · refine .unl e2 (Nat.le_of_ble_eq_true rfl) (fun y hy => ?_) List.mem_cons_self (List.mem_cons_of_mem _ List.mem_cons_self) (U H2).a (U H2).d (by omega)
        simp only [List.mem_cons, List.not_mem_nil, or_false] at hy
        rcases hy with rfl | rfl | rfl
        · exact ⟨_, (U H2).a⟩
        · exact ⟨_, (U H2).d⟩
        · exact ⟨_, (U H2).a⟩
end
end K09
set_option Elab.async false
set_option linter.all false
set_option maxRecDepth 100000
set_option maxHeartbeats 4000000
namespace K09
open PySem PySem.Spec PyProof.Rows L2 UM UT
def cl6 (A : Adr) (c : Int) : Addr := if c = 0 then A.c_BadRidge else if c = 1 then A.c_BadClimb else if c = 2 then A.c_BadRange else if c = 3 then A.c_BadPlaces else if c = 4 then A.c_BadMoves else A.c_Unlike
def due6 (c : Int) : List Bool := [decide (c = 0), decide (c = 1), decide (c = 2), decide (c = 3), decide (c = 4), decide (c = 5), true]
theorem six {c : Int} (h0 : 0 ≤ c) (h1 : c < 6) : c = 0 ∨ c = 1 ∨ c = 2 ∨ c = 3 ∨ c = 4 ∨ c = 5 := by omega
section
variable {P : Program} {w : World} {K : PySem.W.Frag} {mg : Str → Option Value} {base : Heap} {A : Adr}
structure Cl6 (K : PySem.W.Frag) (A : Adr) (c : Int) : Prop where
  E : ExCls K (cl6 A c)
  h : PySem.W.exmOne K (.ref (cl6 A c)) (.ref A.c_RidgeError) = some true
  i0 : PySem.W.kitOne K (.ref (cl6 A c)) (.ref A.c_BadRidge) = some (decide (c = 0))
  i1 : PySem.W.kitOne K (.ref (cl6 A c)) (.ref A.c_BadClimb) = some (decide (c = 1))
  i2 : PySem.W.kitOne K (.ref (cl6 A c)) (.ref A.c_BadRange) = some (decide (c = 2))
  i3 : PySem.W.kitOne K (.ref (cl6 A c)) (.ref A.c_BadPlaces) = some (decide (c = 3))
  i4 : PySem.W.kitOne K (.ref (cl6 A c)) (.ref A.c_BadMoves) = some (decide (c = 4))
  i5 : PySem.W.kitOne K (.ref (cl6 A c)) (.ref A.c_Unlike) = some (decide (c = 5))
  iV : PySem.W.kitOne K (.ref (cl6 A c)) (.type "ValueError") = some true
theorem cl6_of (T : Txt P w K mg A) {c : Int} (h0 : 0 ≤ c) (h1 : c < 6) : Cl6 K A c := by
  rcases six h0 h1 with rfl | rfl | rfl | rfl | rfl | rfl
  · exact ⟨T.E_BadRidge, T.h_BadRidge_RidgeError, T.i_BadRidge_BadRidge, T.i_BadRidge_BadClimb, T.i_BadRidge_BadRange, T.i_BadRidge_BadPlaces, T.i_BadRidge_BadMoves, T.i_BadRidge_Unlike, T.i_BadRidge_ValueError⟩
  · exact ⟨T.E_BadClimb, T.h_BadClimb_RidgeError, T.i_BadClimb_BadRidge, T.i_BadClimb_BadClimb, T.i_BadClimb_BadRange, T.i_BadClimb_BadPlaces, T.i_BadClimb_BadMoves, T.i_BadClimb_Unlike, T.i_BadClimb_ValueError⟩
  · exact ⟨T.E_BadRange, T.h_BadRange_RidgeError, T.i_BadRange_BadRidge, T.i_BadRange_BadClimb, T.i_BadRange_BadRange, T.i_BadRange_BadPlaces, T.i_BadRange_BadMoves, T.i_BadRange_Unlike, T.i_BadRange_ValueError⟩
  · exact ⟨T.E_BadPlaces, T.h_BadPlaces_RidgeError, T.i_BadPlaces_BadRidge, T.i_BadPlaces_BadClimb, T.i_BadPlaces_BadRange, T.i_BadPlaces_BadPlaces, T.i_BadPlaces_BadMoves, T.i_BadPlaces_Unlike, T.i_BadPlaces_ValueError⟩
  · exact ⟨T.E_BadMoves, T.h_BadMoves_RidgeError, T.i_BadMoves_BadRidge, T.i_BadMoves_BadClimb, T.i_BadMoves_BadRange, T.i_BadMoves_BadPlaces, T.i_BadMoves_BadMoves, T.i_BadMoves_Unlike, T.i_BadMoves_ValueError⟩
  · exact ⟨T.E_Unlike, T.h_Unlike_RidgeError, T.i_Unlike_BadRidge, T.i_Unlike_BadClimb, T.i_Unlike_BadRange, T.i_Unlike_BadPlaces, T.i_Unlike_BadMoves, T.i_Unlike_Unlike, T.i_Unlike_ValueError⟩
def sp_law_told : Sp := fun vs H Q _ => ∃ c i j : Int, vs = [.int c, .int i, .int j] ∧ 0 ≤ c ∧ c < 6 ∧ 0 ≤ i ∧ 0 ≤ j ∧ j < 1000 ∧ ∀ p H', H p = none → Same H H' → H' p = some (.lst ((due6 c).map V.bl)) → Q (.ref p) H'
theorem ok_law_told (T : Txt P w K mg A) : FnOk P w K mg base CX0 10 A.a_law_told A.d_law_told ["_law_kind", "_law_which", "_law_more"] sp_law_told := by
  have G_law_ridge_asked : FnOk P w K mg base (CXf P w) 9 A.a_law_ridge_asked A.d_law_ridge_asked ["_law_which", "_law_more"] (spAll A.c_BadRidge) := ok_law_ridge_asked T
  have G_law_climb_asked : FnOk P w K mg base (CXf P w) 9 A.a_law_climb_asked A.d_law_climb_asked ["_law_which", "_law_more"] (spAll A.c_BadClimb) := ok_law_climb_asked T
  have G_law_places_asked : FnOk P w K mg base (CXf P w) 9 A.a_law_places_asked A.d_law_places_asked ["_law_which", "_law_more"] (spAll A.c_BadPlaces) := ok_law_places_asked T
  have G_law_others_asked : FnOk P w K mg base (CXf P w) 9 A.a_law_others_asked A.d_law_others_asked ["_law_kind", "_law_which", "_law_more"] (sp_law_others_asked A.c_BadRange A.c_BadMoves A.c_Unlike) := ok_law_others_asked T
  refine T.F_law_told.ok sc_law_told (fun vs H Q E h => ?_) (fun cdv Ar outer s H vs Q E hr h => ?_)
  · obtain ⟨c, i, j, rfl, _⟩ := h
    rfl
  · obtain ⟨c, i, j, rfl, h0, h6, hi, hj, hj2, k⟩ := h
    have hu := hu_of hr
    let EX : XK := fun cls _ H' => cls = .ref (cl6 A c) ∧ Same H H'
    refine ⟨_, (pss_cons (ps_try (E := EX) (i := 3) sc_law_told.nd rfl rfl rfl rfl rfl T.m_RidgeError (fun pn xe L =>
      (pss_one (ps_if (pt_cmpR op_eq (pv 0) pe_int (nomark _))
        (pss_one (ps_expr (pe_call G_law_ridge_asked (hr.mono (by decide)) rfl T.m_law_ridge_asked T.k_law_ridge_asked T.B_law_ridge_asked .nil (passes_of rfl rfl L) (pa_cons (pv 1) (pa_cons (pv 2) pa_nil)))))
        (pss_one (ps_if (pt_cmpR op_eq (pv 0) pe_int (nomark _))
          (pss_one (ps_expr (pe_call G_law_climb_asked (hr.mono (by decide)) rfl T.m_law_climb_asked T.k_law_climb_asked T.B_law_climb_asked .nil (passes_of rfl rfl L) (pa_cons (pv 1) (pa_cons (pv 2) pa_nil)))))
          (pss_one (ps_if (pt_cmpR op_eq (pv 0) pe_int (nomark _))
            (pss_one (ps_expr (pe_call G_law_places_asked (hr.mono (by decide)) rfl T.m_law_places_asked T.k_law_places_asked T.B_law_places_asked .nil (passes_of rfl rfl L) (pa_cons (pv 1) (pa_cons (pv 2) pa_nil)))))
            (pss_one (ps_expr (pe_call G_law_others_asked (hr.mono (by decide)) rfl T.m_law_others_asked T.k_law_others_asked T.B_law_others_asked .nil (passes_of rfl rfl L) (pa_cons (pv 0) (pa_cons (pv 1) (pa_cons (pv 2) pa_nil)))))))))))))
      (fun pn a =>
      (pss_cons (ps_set (i := 4) sc_law_told.nd rfl (Or.inl rfl) (pe_lst (pa_cons (pe_callB (show CallR _ (.builtin "isinstance") (rIsX K) from call_isX) rfl T.b_isinstance boot_isinstance (pa_cons (pv 3) (pa_cons (pe_glob (v := .ref A.c_BadRidge) rfl T.m_BadRidge rfl) pa_nil))) (pa_cons (pe_callB (show CallR _ (.builtin "isinstance") (rIsX K) from call_isX) rfl T.b_isinstance boot_isinstance (pa_cons (pv 3) (pa_cons (pe_glob (v := .ref A.c_BadClimb) rfl T.m_BadClimb rfl) pa_nil))) (pa_cons (pe_callB (show CallR _ (.builtin "isinstance") (rIsX K) from call_isX) rfl T.b_isinstance boot_isinstance (pa_cons (pv 3) (pa_cons (pe_glob (v := .ref A.c_BadRange) rfl T.m_BadRange rfl) pa_nil))) pa_nil)))))
      (pss_cons (ps_set (i := 4) sc_law_told.nd rfl (Or.inl rfl) (pe_op (show OpR _ (binaryOp .Add) (rCatL K) from op_catL) (pv 4) (pe_lst (pa_cons (pe_callB (show CallR _ (.builtin "isinstance") (rIsX K) from call_isX) rfl T.b_isinstance boot_isinstance (pa_cons (pv 3) (pa_cons (pe_glob (v := .ref A.c_BadPlaces) rfl T.m_BadPlaces rfl) pa_nil))) (pa_cons (pe_callB (show CallR _ (.builtin "isinstance") (rIsX K) from call_isX) rfl T.b_isinstance boot_isinstance (pa_cons (pv 3) (pa_cons (pe_glob (v := .ref A.c_BadMoves) rfl T.m_BadMoves rfl) pa_nil))) (pa_cons (pe_callB (show CallR _ (.builtin "isinstance") (rIsX K) from call_isX) rfl T.b_isinstance boot_isinstance (pa_cons (pv 3) (pa_cons (pe_glob (v := .ref A.c_Unlike) rfl T.m_Unlike rfl) pa_nil))) pa_nil))))))
      (pss_one (ps_ret (pe_op (show OpR _ (binaryOp .Add) (rCatL K) from op_catL) (pv 4) (pe_lst (pa_cons (pe_callB (show CallR _ (.builtin "isinstance") (rIsX K) from call_isX) rfl T.b_isinstance boot_isinstance (pa_cons (pv 3) (pa_cons (pe_bltn (v := .ty "ValueError") rfl T.b_ValueError boot_ValueError rfl) pa_nil))) pa_nil)))))))))
    (pss_one (ps_ret (pe_lst pa_nil)))), ?_⟩
    refine ⟨?_, ?_⟩
    · refine ⟨_, rfl, rfl, _, rfl, ite2 (fun hc => ?_) (fun hc => ?_)⟩
      · have hc : c = 0 := V.int.inj (of_decide_eq_true hc)
        subst hc
        exact ⟨_, rfl, _, rfl, i, j, rfl, hi, hj, hj2, fun H' s' => ⟨rfl, s'⟩⟩
      have n0 : c ≠ 0 := fun z => hc (decide_eq_true (congrArg V.int z))
      refine ⟨_, rfl, rfl, _, rfl, ite2 (fun hc => ?_) (fun hc => ?_)⟩
      · have hc : c = 1 := V.int.inj (of_decide_eq_true hc)
        subst hc
        exact ⟨_, rfl, _, rfl, i, j, rfl, hi, hj, hj2, fun H' s' => ⟨rfl, s'⟩⟩
      have n1 : c ≠ 1 := fun z => hc (decide_eq_true (congrArg V.int z))
      refine ⟨_, rfl, rfl, _, rfl, ite2 (fun hc => ?_) (fun hc => ?_)⟩
      · have hc : c = 3 := V.int.inj (of_decide_eq_true hc)
        subst hc
        exact ⟨_, rfl, _, rfl, i, j, rfl, hi, hj, hj2, fun H' s' => ⟨rfl, s'⟩⟩
      have n3 : c ≠ 3 := fun z => hc (decide_eq_true (congrArg V.int z))
      refine ⟨_, rfl, _, rfl, _, rfl, c, i, j, _, rfl, hi, hj, hj2, ?_, fun H' s' => ⟨rfl, s'⟩⟩
      have h : c = 2 ∨ c = 4 ∨ c = 5 := by omega
      rcases h with rfl | rfl | rfl
      · exact .inl ⟨rfl, rfl⟩
      · exact .inr (.inl ⟨rfl, rfl⟩)
      · exact .inr (.inr ⟨rfl, rfl⟩)
    rintro cls H1 ⟨rfl, s1⟩
    have C6 := cl6_of T h0 h6
    have z1 : 1 ≤ sizeLine := by decide
    have z3 : 3 ≤ sizeLine := by decide
    have z6 : 6 ≤ sizeLine := by decide
    have z7 : 7 ≤ sizeLine := by decide
    refine ⟨C6.h, fun a ha => ?_⟩
    have he : upd H1 a (excO a (.ref (cl6 A c))) a = some (excO a (.ref (cl6 A c))) := upd_same
    have sA := s1.trans (same_upd (o := excO a (.ref (cl6 A c))) ha)
    generalize upd H1 a (excO a (.ref (cl6 A c))) = H2 at he sA
    refine ⟨_, rfl, a, _, _, _, _, rfl, .own _, he, C6.E, C6.i0, ?_⟩
    refine ⟨_, rfl, a, _, _, _, _, rfl, .own _, he, C6.E, C6.i1, ?_⟩
    refine ⟨_, rfl, a, _, _, _, _, rfl, .own _, he, C6.E, C6.i2, ?_⟩
    refine ⟨z3, fun l hl => ?_⟩
    have sB := same_upd (o := HO.lst [.bl (decide (c = 0)), .bl (decide (c = 1)), .bl (decide (c = 2))]) hl
    have el : upd H2 l (HO.lst [.bl (decide (c = 0)), .bl (decide (c = 1)), .bl (decide (c = 2))]) l = _ := upd_same
    have he1 := sB _ _ he
    have sB := sA.trans sB
    generalize upd H2 l (HO.lst [.bl (decide (c = 0)), .bl (decide (c = 1)), .bl (decide (c = 2))]) = H3 at sB el he1
    dsimp only [gName, tSeq, tAsg]
    refine ⟨_, rfl, ?_⟩
    refine ⟨_, rfl, a, _, _, _, _, rfl, .own _, he1, C6.E, C6.i3, ?_⟩
    refine ⟨_, rfl, a, _, _, _, _, rfl, .own _, he1, C6.E, C6.i4, ?_⟩
    refine ⟨_, rfl, a, _, _, _, _, rfl, .own _, he1, C6.E, C6.i5, ?_⟩
    refine ⟨z3, fun l2 hl2 => ⟨l, l2, _, _, rfl, rfl, SqL.of (same_upd hl2 _ _ el), SqL.of upd_same, z6, fun l3 hl3 => ?_⟩⟩
    have sC := (same_upd (o := HO.lst [.bl (decide (c = 3)), .bl (decide (c = 4)), .bl (decide (c = 5))]) hl2).trans (same_upd (o := HO.lst ([.bl (decide (c = 0)), .bl (decide (c = 1)), .bl (decide (c = 2))] ++ [.bl (decide (c = 3)), .bl (decide (c = 4)), .bl (decide (c = 5))])) hl3)
    have he2 := sC _ _ he1
    have el3 : upd (upd H3 l2 (HO.lst [.bl (decide (c = 3)), .bl (decide (c = 4)), .bl (decide (c = 5))])) l3 (HO.lst ([.bl (decide (c = 0)), .bl (decide (c = 1)), .bl (decide (c = 2))] ++ [.bl (decide (c = 3)), .bl (decide (c = 4)), .bl (decide (c = 5))])) l3 = _ := upd_same
    have sC := sB.trans sC
    generalize upd (upd H3 l2 _) l3 _ = H4 at sC he2 el3
    dsimp only [gName, tSeq, tAsg]
    refine ⟨_, rfl, _, rfl, a, _, _, _, _, rfl, .ty _, he2, C6.E, C6.iV, ?_⟩
    refine ⟨z1, fun l4 hl4 => ⟨l3, l4, _, _, rfl, rfl, SqL.of (same_upd hl4 _ _ el3), SqL.of upd_same, z7, fun l5 hl5 => ?_⟩⟩
    have sD := sC.trans (same_upd (o := HO.lst [.bl true]) hl4)
    exact k l5 _ (sD.free hl5) (sD.upd (sD.free hl5) rfl) upd_same
end
end K09
set_option Elab.async false
set_option linter.all false
set_option maxRecDepth 100000
set_option maxHeartbeats 4000000
namespace K09
open PySem PySem.Spec PyProof.Rows L2 UM UT
section
variable {P : Program} {w : World} {K : PySem.W.Frag} {mg : Str → Option Value} {base : Heap} {A : Adr}
def sp_law (K : PySem.W.Frag) : Sp := fun vs H Q _ => ∃ (a : Addr) (ns : List Int), vs = [.ref a] ∧ SqL K H a (ns.map V.int) ∧ ns.length ≤ 63 ∧ ∀ H', Q (.bl true) H'
theorem rt_e : V.str (Str.ofString "") = .str (rt []) := by decide +kernel
theorem rt_ud : V.str (Str.ofString "ud") = .str (rt [true, false]) := by decide +kernel
theorem ok_law (T : Txt P w K mg A) : FnOk P w K mg base CX0 11 A.a_law A.d_law ["_law_script"] (sp_law K) := by
  have G_law_told : FnOk P w K mg base CX0 10 A.a_law_told A.d_law_told ["_law_kind", "_law_which", "_law_more"] sp_law_told := ok_law_told T
  have G_heights : FnOk P w K mg base (CXf P w) 3 A.a_heights A.d_heights ["ridge"] (sp_heights K A.c_BadRidge) := ok_heights T
  have G_upside_down : FnOk P w K mg base (CXf P w) 3 A.a_upside_down A.d_upside_down ["ridge"] (sp_upside_down K A.c_BadRidge) := ok_upside_down T
  have G_about : FnOk P w K mg base (CXf P w) 4 A.a_about A.d_about ["ridge"] (sp_about K A.c_BadRidge) := ok_about T
  have G_thinned : FnOk P w K mg base (CXf P w) 3 A.a_thinned A.d_thinned ["moves"] (sp_thinned K A.c_BadMoves) := ok_thinned T
  have G_moves_at : FnOk P w K mg base (CXf P w) 4 A.a_moves_at A.d_moves_at ["one", "other", "first", "second"] (sp_moves_at K A.c_BadRidge A.c_BadPlaces) := ok_moves_at T
  have G_meeting : FnOk P w K mg base (CXf P w) 7 A.a_meeting A.d_meeting ["ridge"] (sp_meeting K A.c_BadRidge A.c_BadRange) := ok_meeting T
  have G_reached : FnOk P w K mg base (CXf P w) 5 A.a_reached A.d_reached ["one", "other", "first", "second"] (sp_reached K A.c_BadRidge A.c_BadPlaces A.c_Way) := ok_reached T
  refine T.F_law.ok sc_law (fun vs H Q E h => ?_) (fun cdv Ar outer s H vs Q E hr h => ?_)
  · obtain ⟨a, ns, rfl, _⟩ := h
    rfl
  · obtain ⟨a, ns, rfl, hx, hl, k⟩ := h
    have hu := hu_of hr
    refine ⟨_, (pss_cons (ps_for PassesOwn.never rfl (pi_list (pv 0)) (pg_name (i := 1) sc_law.nd rfl (Or.inl rfl))
      (pss_cons (ps_set (i := 2) sc_law.nd rfl (Or.inl rfl) (pe_op op_mod (pv 1) pe_int))
      (pss_cons (ps_set (i := 3) sc_law.nd rfl (Or.inl rfl) (pe_lst (pa_cons (pe_cmpR op_eq (pv 2) pe_int (nomark _)) (pa_cons (pe_cmpR op_eq (pv 2) pe_int (nomark _)) (pa_cons (pe_cmpR op_eq (pv 2) pe_int (nomark _)) (pa_cons (pe_cmpR op_eq (pv 2) pe_int (nomark _)) (pa_cons (pe_cmpR op_eq (pv 2) pe_int (nomark _)) (pa_cons (pe_cmpR op_eq (pv 2) pe_int (nomark _)) (pa_cons pe_bl pa_nil)))))))))
      (pss_one (ps_if (pt_cmpR (op_neF hr.units0) (pe_call G_law_told (hr.mono (by decide)) rfl T.m_law_told T.k_law_told T.B_law_told .nil pass0 (pa_cons (pv 2) (pa_cons (pe_op op_mod (pe_op op_fdiv (pv 1) pe_int) pe_int) (pa_cons (pe_op op_mod (pe_op op_fdiv (pv 1) pe_int) pe_int) pa_nil)))) (pv 3) (nomark _))
        (pss_one (ps_ret pe_bl))
        pss_nil)))))
    (pss_cons (ps_if (PW.pt (pw_or (pt_cmpR (op_neF hr.units0) (pe_call G_heights (hr.mono (by decide)) rfl T.m_heights T.k_heights T.B_heights .nil passN (pa_cons pe_str pa_nil)) (pe_lst (pa_cons pe_int pa_nil)) (nomark _)) (pw_or (pt_cmpR op_ne (pe_call G_upside_down (hr.mono (by decide)) rfl T.m_upside_down T.k_upside_down T.B_upside_down .nil passN (pa_cons pe_str pa_nil)) pe_str (nomark _)) (pw_or (pt_cmpR op_ne (pe_call G_about (hr.mono (by decide)) rfl T.m_about T.k_about T.B_about .nil passN (pa_cons pe_str pa_nil)) pe_str (nomark _)) (pw_or1 (pt_cmpR (op_neF hr.units0) (pe_call G_thinned (hr.mono (by decide)) rfl T.m_thinned T.k_thinned T.B_thinned .nil passN (pa_cons (pe_lst pa_nil) pa_nil)) (pe_lst pa_nil) (nomark _)))))))
      (pss_one (ps_ret pe_bl))
      pss_nil)
    (pss_one (ps_ret (pe_and (pe_cmpR (op_eqF hr.units0) (pe_call G_moves_at (hr.mono (by decide)) rfl T.m_moves_at T.k_moves_at T.B_moves_at .nil passN (pa_cons pe_str (pa_cons pe_str (pa_cons pe_int (pa_cons pe_int pa_nil))))) (pe_lst pa_nil) (nomark _)) (pe_and (pe_cmpR (op_neF hr.units0) (pe_call G_meeting (hr.mono (by decide)) rfl T.m_meeting T.k_meeting T.B_meeting .nil passN (pa_cons pe_str pa_nil)) (pe_lst pa_nil) (nomark _)) (pe_one (pe_cmpR op_notN (pe_call G_reached (hr.mono (by decide)) rfl T.m_reached T.k_reached T.B_reached .nil passN (pa_cons pe_str (pa_cons pe_str (pa_cons pe_int (pa_cons pe_int pa_nil))))) pe_non (nomark _))))))))), ?_⟩
    have z7 : 7 ≤ sizeLine := by decide
    refine ⟨_, rfl, a, rfl, ⟨_, hx⟩, for_each (ItOf.list K a (ns.map V.int)) (fun rest σ H2 => ∃ (r : List Int) (y1 y2 y3 : Option V), rest = r.map V.int ∧ σ = [some (.ref a), y1, y2, y3] ∧ Same H H2) ⟨ns, none, none, none, rfl, rfl, Same.refl _⟩ (fun _ _ H2 ⟨_, _, _, _, _, _, s2⟩ => s2.seq hx) ?_ ?_⟩
    · rintro x rest σ H2 ⟨r, y1, y2, y3, e, rfl, s2⟩
      cases r with
      | nil => cases e
      | cons n r =>
        obtain ⟨rfl, rfl⟩ := List.cons.inj e
        refine ⟨_, rfl, _, _, rfl, rfl, (by show (0 : Int) < 6; decide), ?_⟩
        have hc : 0 ≤ n % 6 ∧ n % 6 < 6 := by omega
        dsimp only [gName, tSeq, tAsg]
        refine ⟨_, rfl, rfl, _, rfl, rfl, _, rfl, rfl, _, rfl, rfl, _, rfl, rfl, _, rfl, rfl, z7, fun l hl2 => ?_⟩
        have ee : [V.bl (decide (V.int (n % 6) = V.int 0)), .bl (decide (V.int (n % 6) = V.int 1)), .bl (decide (V.int (n % 6) = V.int 2)), .bl (decide (V.int (n % 6) = V.int 3)), .bl (decide (V.int (n % 6) = V.int 4)), .bl (decide (V.int (n % 6) = V.int 5)), .bl true] = (due6 (n % 6)).map V.bl := by
          rw [dcI, dcI, dcI, dcI, dcI, dcI]
          rfl
        rw [ee]
        have el := upd_same (H := H2) (a := l) (o := HO.lst ((due6 (n % 6)).map V.bl))
        have s3 := same_upd (o := HO.lst ((due6 (n % 6)).map V.bl)) hl2
        generalize upd H2 l _ = H3 at el s3
        dsimp only [gName, tSeq, tAsg]
        have d0 : 0 ≤ n / 6 % 100000 ∧ 0 ≤ n / 600000 % 1000 ∧ n / 600000 % 1000 < 1000 := by omega
        refine ⟨_, rfl, _, rfl, _, _, rfl, rfl, ⟨by show (0 : Int) < 6; decide, by show (6 : Int) < 1073741824; decide⟩, _, _, rfl, rfl, (by show (0 : Int) < 100000; decide), _, rfl, _, _, rfl, rfl, ⟨by show (0 : Int) < 600000; decide, by show (600000 : Int) < 1073741824; decide⟩, _, _, rfl, rfl, (by show (0 : Int) < 1000; decide), n % 6, n / 6 % 100000, n / 600000 % 1000, rfl, hc.1, hc.2, d0.1, d0.2.1, d0.2.2, fun p H4 hp s4 e4 => ?_⟩
        refine ⟨_, rfl, p, l, _, _, rfl, rfl, SqL.of e4, SqL.of (s4 _ _ el), flat_bls _, flat_bls _, _, rfl, ?_⟩
        rw [eqL_self (flat_bls _)]
        exact iteF ⟨r, _, _, _, rfl, rfl, (s2.trans s3).trans s4⟩
    · rintro σ H2 ⟨r, y1, y2, y3, e, rfl, s2⟩
      clear e s2
      have z1 : 1 ≤ sizeLine := by decide
      have z0 : 0 ≤ sizeLine := by decide
      have ve : ∀ {x y : V}, x = y → [x] = [y] := fun h => by rw [h]
      refine .inl ⟨[], ve rt_e, by decide, fun p1 H3 h1 s3 e3 => ⟨z1, fun q1 g1 => ⟨p1, q1, _, _, rfl, rfl, SqL.of (same_upd g1 _ _ e3), SqL.of upd_same, flat_ints _, rfl, _, rfl, iteF ?_⟩⟩⟩
      generalize upd H3 q1 _ = H4
      refine .inl ⟨[], ve rt_e, by decide, fun H5 s5 => ⟨rfl, _, rfl, iteF ?_⟩⟩
      refine .inl ⟨[], ve rt_e, by decide, fun H6 s6 => ⟨rfl, _, rfl, iteF ?_⟩⟩
      refine ⟨z0, fun p2 h2 => .inl ⟨p2, rfl, upd_same, fun p3 H7 h3 s7 e7 => ⟨z0, fun q2 g2 => ⟨p3, q2, _, _, rfl, rfl, SqL.of (same_upd g2 _ _ e7), SqL.of upd_same, rfl, rfl, _, rfl, iteF ?_⟩⟩⟩⟩
      generalize upd H7 q2 _ = H8
      have m0 : mvs (hts 0 []) (hts 0 []) 0 0 = [] := by decide +kernel
      have v4 : [V.str (Str.ofString ""), V.str (Str.ofString ""), .int 0, .int 0] = [.str (rt []), .str (rt []), .int 0, .int 0] := by rw [rt_e]
      refine .inl ⟨[], [], 0, 0, v4, by decide, by decide, by decide +kernel, fun p4 H9 h4 s9 e9 => ?_⟩
      rw [m0] at e9
      refine ⟨z0, fun q3 g3 => ⟨p4, q3, _, _, rfl, rfl, SqL.of (same_upd g3 _ _ e9), SqL.of upd_same, rfl, rfl, _, rfl, iteT ?_⟩⟩
      generalize upd H9 q3 _ = H10
      refine .inl ⟨ve rt_ud, fun l ms H11 hl s11 e11 hne => ⟨z0, fun q g => ⟨l, q, _, _, rfl, rfl, SqL.of (same_upd g _ _ e11), SqL.of upd_same, ?_, rfl, _, rfl, ?_⟩⟩⟩
      · rw [List.all_map]
        exact List.all_eq_true.mpr fun _ _ => rfl
      have ne : eqL (ms.map mvV) [] = false := by
        cases ms with
        | nil => exact absurd rfl hne
        | cons m ms => rfl
      rw [ne]
      refine iteT ?_
      generalize upd H11 q _ = H12
      have v5 : [V.str (Str.ofString ""), V.str (Str.ofString "ud"), .int 0, .int 2] = [.str (rt []), .str (rt [true, false]), .int 0, .int 2] := by rw [rt_e, rt_ud]
      refine .inl ⟨[], [true, false], 0, 2, v5, by decide, by decide, by decide +kernel, by decide +kernel, fun p dx l ms H' hl s' ep el hw => ?_, fun p Kp H' h0 hc hn => ?_⟩
      · exact ⟨rfl, k H'⟩
      · exact ⟨rfl, k H'⟩
end
end K09
set_option Elab.async false
set_option linter.all false
set_option maxRecDepth 100000
set_option maxHeartbeats 0
namespace K09
open PySem PySem.W PySem.Spec PyProof.Rows L2
abbrev N : Value := .none
abbrev B (b : Bool) : Value := .bool b
abbrev I (i : Int) (t : Tok) : Value := .int i t
abbrev S (x : String) (t : Tok) : Value := .str (Str.ofString x) t
abbrev Y (n : String) : Value := .type n
abbrev U (n : String) : Value := .builtin n
abbrev R (a : Addr) : Value := .ref a
abbrev E (P : Params) (x : String) (t : Tok) (v : Value) : DictEntry := ⟨PyData.keyHash P (Str.ofString x), .str (Str.ofString x) t, v⟩
abbrev D (n : Nat) (es : List DictEntry) : Data := .dict es.toArray n
abbrev Q (n : Nat) (vs : List Value) : Data := .seq vs.toArray n
abbrev Z (vs : List Value) : Data := .fields vs.toArray
abbrev F (name qual : String) (s : Stmt) (dV kV doc pm : Value) (an : Option Addr) (cd ct : Value) : Data := .func (PySem.W.fnOf (Str.ofString name) (Str.ofString qual) (defArgs s) (defBody s) (defScope s) dV kV doc pm an cd ct)
abbrev F0 (name qual : String) (s : Stmt) (dV kV doc pm : Value) (an : Option Addr) (cd ct : Value) : Data := .func { name := Str.ofString name, qualname := Str.ofString qual, params := defArgs s, body := .stmts (defBody s), scope := defScope s, globals := 0, closure := [], defaults := dV, kwdefaults := kV, doc := doc, pyModule := pm, annotations := an, code := cd, closureTuple := ct, builtins := 0 }
abbrev O (c : Value) (d : Data) : Obj := ⟨c, none, d, #[]⟩
def b11 (P : Params) : Obj := O (Y "tuple") (Q 0 [])
def b12_0 (P : Params) : Obj := O N (Z [])
def b13 (P : Params) : Obj := O (Y "code") (Z [(S "<module>" 182), (S "<module>" 183), (S "/claim/cut.py" 184), (I 1 0), (I 0 0), (I 0 0), (I 0 0), (I 0 0), (R 11), (B false), (I 181 0), (R 12), N, N, N, N, (I 185 0), (I 1 0), (S "/claim/cut.py" 186)])
def b14 (P : Params) : Obj := ⟨(Y "frame"), none, .plain, ⟨[(some (R 13)), (some (R 3)), (some (R 3)), none, (some (S "__main__" 164)), none, (some (R 0))]⟩⟩
def b3_0 (P : Params) : Obj := O (Y "dict") (D 13 [E P "__name__" 165 (S "unison.errors" 194), E P "__doc__" 166 N, E P "__package__" 167 N, E P "__loader__" 168 (U "__main__.__loader__#opaque"), E P "__spec__" 169 N, E P "__annotations__" 170 (R 6), E P "__builtins__" 171 (R 4), E P "__file__" 173 (S "/claim/cut.py" 172), E P "__cached__" 174 N, E P "_wall" 193 (R 21), E P "RidgeError" 213 (R 31), E P "BadRidge" 229 (R 44), E P "BadClimb" 245 (R 56)])
def b12_1 (P : Params) : Obj := O N (Z [(I 1 0), (I 0 0), (R 20), (I 5 0), (I 0 0), (R 27), (I 7 0), (I 0 0), (R 40), (I 9 0), (I 0 0), (R 52)])
def b15 (P : Params) : Obj := O (Y "tuple") (Q 0 [])
def b16 (P : Params) : Obj := O N (Z [])
def b17 (P : Params) : Obj := O (Y "tuple") (Q 0 [(S "k" 190)])
def b18 (P : Params) : Obj := O (Y "tuple") (Q 0 [])
def b19 (P : Params) : Obj := O N (F0 "_wall" "_wall" (top 0) N N N N none N N)
def b20 (P : Params) : Obj := O (Y "code") (Z [(S "_wall" 187), (S "_wall" 188), (S "/claim/cut.py" 189), (I 1 0), (I 1 0), (I 0 0), (I 0 0), (I 3 0), (R 15), (B true), (I 181 0), (R 16), N, (R 17), (R 18), (R 19), (I 191 0), (I 1 0), (S "/claim/cut.py" 192)])
def b21 (P : Params) : Obj := O (Y "function") (F "_wall" "_wall" (top 0) N N N (S "__main__" 164) none (R 20) N)
def b22 (P : Params) : Obj := O (Y "tuple") (Q 0 [(Y "ValueError")])
def b23 (P : Params) : Obj := O (Y "builtin_function_or_method") (Z [(U "type.__prepare__"), (Y "type")])
def b24 (P : Params) : Obj := O (Y "dict") (D 4 [E P "__module__" 203 (S "unison.errors" 194), E P "__qualname__" 205 (S "RidgeError" 204), E P "__firstlineno__" 207 (I 5 206), E P "__static_attributes__" 208 (R 29)])
def b25 (P : Params) : Obj := O (Y "tuple") (Q 0 [])
def b26 (P : Params) : Obj := O N (Z [])
def b27 (P : Params) : Obj := O (Y "code") (Z [(S "RidgeError" 198), (S "RidgeError" 199), (S "/claim/cut.py" 200), (I 5 0), (I 0 0), (I 0 0), (I 0 0), (I 0 0), (R 25), (B false), (I 181 0), (R 26), N, N, N, N, (I 201 0), (I 5 0), (S "/claim/cut.py" 202)])
def b28 (P : Params) : Obj := ⟨(Y "frame"), none, .plain, ⟨[(some (R 27)), (some (R 3)), (some (R 24)), none, (some (S "unison.errors" 194)), none, (some (R 0))]⟩⟩
def b29 (P : Params) : Obj := O (Y "tuple") (Q 0 [])
def b30 (P : Params) : Obj := O (Y "dict") (D 3 [E P "__module__" 203 (S "unison.errors" 194), E P "__firstlineno__" 207 (I 5 206), E P "__static_attributes__" 208 (R 29), E P "__weakref__" 210 (R 32), E P "__doc__" 211 N])
def b31_0 (P : Params) : Obj := ⟨(Y "type"), none, (.cls ⟨"RidgeError", [(Y "ValueError")], [(R 31), (Y "ValueError"), (Y "Exception"), (Y "BaseException"), (Y "object")], 30, "RidgeError", true, [], [(R 44), (R 56)], false, none, false⟩), ⟨[(some (R 22)), none, (some (S "RidgeError" 196)), (some (S "RidgeError" 204)), (some (U "ValueError.__new__")), (some (B true))]⟩⟩
def b32 (P : Params) : Obj := O (Y "getset_descriptor") (Z [(S "__weakref__" 209), (R 31), (U "ExceptionGroup.__weakref__"), N])
def b33 (P : Params) : Obj := O (Y "super") (Z [(R 31), (R 31), (R 31)])
def b34 (P : Params) : Obj := O (Y "builtin_function_or_method") (Z [(U "object.__init_subclass__"), (R 31)])
def b35 (P : Params) : Obj := O (Y "tuple") (Q 0 [(R 31)])
def b36 (P : Params) : Obj := O (Y "builtin_function_or_method") (Z [(U "type.__prepare__"), (Y "type")])
def b37 (P : Params) : Obj := O (Y "dict") (D 4 [E P "__module__" 221 (S "unison.errors" 194), E P "__qualname__" 223 (S "BadRidge" 222), E P "__firstlineno__" 225 (I 7 224), E P "__static_attributes__" 226 (R 42)])
def b38 (P : Params) : Obj := O (Y "tuple") (Q 0 [])
def b39 (P : Params) : Obj := O N (Z [])
def b40 (P : Params) : Obj := O (Y "code") (Z [(S "BadRidge" 216), (S "BadRidge" 217), (S "/claim/cut.py" 218), (I 7 0), (I 0 0), (I 0 0), (I 0 0), (I 0 0), (R 38), (B false), (I 181 0), (R 39), N, N, N, N, (I 219 0), (I 7 0), (S "/claim/cut.py" 220)])
def b41 (P : Params) : Obj := ⟨(Y "frame"), none, .plain, ⟨[(some (R 40)), (some (R 3)), (some (R 37)), none, (some (S "unison.errors" 194)), none, (some (R 0))]⟩⟩
def b42 (P : Params) : Obj := O (Y "tuple") (Q 0 [])
def b43 (P : Params) : Obj := O (Y "dict") (D 2 [E P "__module__" 221 (S "unison.errors" 194), E P "__firstlineno__" 225 (I 7 224), E P "__static_attributes__" 226 (R 42), E P "__doc__" 227 N])
def b44 (P : Params) : Obj := ⟨(Y "type"), none, (.cls ⟨"BadRidge", [(R 31)], [(R 44), (R 31), (Y "ValueError"), (Y "Exception"), (Y "BaseException"), (Y "object")], 43, "BadRidge", true, [], [], false, none, false⟩), ⟨[(some (R 35)), none, (some (S "BadRidge" 214)), (some (S "BadRidge" 222)), (some (U "ValueError.__new__")), (some (B true))]⟩⟩
def b45 (P : Params) : Obj := O (Y "super") (Z [(R 44), (R 44), (R 44)])
def b46 (P : Params) : Obj := O (Y "builtin_function_or_method") (Z [(U "object.__init_subclass__"), (R 44)])
def b47 (P : Params) : Obj := O (Y "tuple") (Q 0 [(R 31)])
def b48 (P : Params) : Obj := O (Y "builtin_function_or_method") (Z [(U "type.__prepare__"), (Y "type")])
def b49 (P : Params) : Obj := O (Y "dict") (D 4 [E P "__module__" 237 (S "unison.errors" 194), E P "__qualname__" 239 (S "BadClimb" 238), E P "__firstlineno__" 241 (I 9 240), E P "__static_attributes__" 242 (R 54)])
def b50 (P : Params) : Obj := O (Y "tuple") (Q 0 [])
def b51 (P : Params) : Obj := O N (Z [])
def b52 (P : Params) : Obj := O (Y "code") (Z [(S "BadClimb" 232), (S "BadClimb" 233), (S "/claim/cut.py" 234), (I 9 0), (I 0 0), (I 0 0), (I 0 0), (I 0 0), (R 50), (B false), (I 181 0), (R 51), N, N, N, N, (I 235 0), (I 9 0), (S "/claim/cut.py" 236)])
def b53 (P : Params) : Obj := ⟨(Y "frame"), none, .plain, ⟨[(some (R 52)), (some (R 3)), (some (R 49)), none, (some (S "unison.errors" 194)), none, (some (R 0))]⟩⟩
def b54 (P : Params) : Obj := O (Y "tuple") (Q 0 [])
def b55 (P : Params) : Obj := O (Y "dict") (D 2 [E P "__module__" 237 (S "unison.errors" 194), E P "__firstlineno__" 241 (I 9 240), E P "__static_attributes__" 242 (R 54), E P "__doc__" 243 N])
def b56 (P : Params) : Obj := ⟨(Y "type"), none, (.cls ⟨"BadClimb", [(R 31)], [(R 56), (R 31), (Y "ValueError"), (Y "Exception"), (Y "BaseException"), (Y "object")], 55, "BadClimb", true, [], [], false, none, false⟩), ⟨[(some (R 47)), none, (some (S "BadClimb" 230)), (some (S "BadClimb" 238)), (some (U "ValueError.__new__")), (some (B true))]⟩⟩
def b57 (P : Params) : Obj := O (Y "super") (Z [(R 56), (R 56), (R 56)])
def b58 (P : Params) : Obj := O (Y "builtin_function_or_method") (Z [(U "object.__init_subclass__"), (R 56)])
def b3_1 (P : Params) : Obj := O (Y "dict") (D 17 [E P "__name__" 165 (S "unison.errors" 194), E P "__doc__" 166 N, E P "__package__" 167 N, E P "__loader__" 168 (U "__main__.__loader__#opaque"), E P "__spec__" 169 N, E P "__annotations__" 170 (R 6), E P "__builtins__" 171 (R 4), E P "__file__" 173 (S "/claim/cut.py" 172), E P "__cached__" 174 N, E P "_wall" 193 (R 21), E P "RidgeError" 213 (R 31), E P "BadRidge" 229 (R 44), E P "BadClimb" 245 (R 56), E P "BadRange" 261 (R 68), E P "BadPlaces" 277 (R 80), E P "BadMoves" 293 (R 92), E P "Unlike" 309 (R 104)])
def b12_2 (P : Params) : Obj := O N (Z [(I 1 0), (I 0 0), (R 20), (I 5 0), (I 0 0), (R 27), (I 7 0), (I 0 0), (R 40), (I 9 0), (I 0 0), (R 52), (I 11 0), (I 0 0), (R 64), (I 13 0), (I 0 0), (R 76), (I 15 0), (I 0 0), (R 88), (I 17 0), (I 0 0), (R 100)])
def b31 (P : Params) : Obj := ⟨(Y "type"), none, (.cls ⟨"RidgeError", [(Y "ValueError")], [(R 31), (Y "ValueError"), (Y "Exception"), (Y "BaseException"), (Y "object")], 30, "RidgeError", true, [], [(R 44), (R 56), (R 68), (R 80), (R 92), (R 104)], false, none, false⟩), ⟨[(some (R 22)), none, (some (S "RidgeError" 196)), (some (S "RidgeError" 204)), (some (U "ValueError.__new__")), (some (B true))]⟩⟩
def b59 (P : Params) : Obj := O (Y "tuple") (Q 0 [(R 31)])
def b60 (P : Params) : Obj := O (Y "builtin_function_or_method") (Z [(U "type.__prepare__"), (Y "type")])
def b61 (P : Params) : Obj := O (Y "dict") (D 4 [E P "__module__" 253 (S "unison.errors" 194), E P "__qualname__" 255 (S "BadRange" 254), E P "__firstlineno__" 257 (I 11 256), E P "__static_attributes__" 258 (R 66)])
def b62 (P : Params) : Obj := O (Y "tuple") (Q 0 [])
def b63 (P : Params) : Obj := O N (Z [])
def b64 (P : Params) : Obj := O (Y "code") (Z [(S "BadRange" 248), (S "BadRange" 249), (S "/claim/cut.py" 250), (I 11 0), (I 0 0), (I 0 0), (I 0 0), (I 0 0), (R 62), (B false), (I 181 0), (R 63), N, N, N, N, (I 251 0), (I 11 0), (S "/claim/cut.py" 252)])
def b65 (P : Params) : Obj := ⟨(Y "frame"), none, .plain, ⟨[(some (R 64)), (some (R 3)), (some (R 61)), none, (some (S "unison.errors" 194)), none, (some (R 0))]⟩⟩
def b66 (P : Params) : Obj := O (Y "tuple") (Q 0 [])
def b67 (P : Params) : Obj := O (Y "dict") (D 2 [E P "__module__" 253 (S "unison.errors" 194), E P "__firstlineno__" 257 (I 11 256), E P "__static_attributes__" 258 (R 66), E P "__doc__" 259 N])
def b68 (P : Params) : Obj := ⟨(Y "type"), none, (.cls ⟨"BadRange", [(R 31)], [(R 68), (R 31), (Y "ValueError"), (Y "Exception"), (Y "BaseException"), (Y "object")], 67, "BadRange", true, [], [], false, none, false⟩), ⟨[(some (R 59)), none, (some (S "BadRange" 246)), (some (S "BadRange" 254)), (some (U "ValueError.__new__")), (some (B true))]⟩⟩
def b69 (P : Params) : Obj := O (Y "super") (Z [(R 68), (R 68), (R 68)])
def b70 (P : Params) : Obj := O (Y "builtin_function_or_method") (Z [(U "object.__init_subclass__"), (R 68)])
def b71 (P : Params) : Obj := O (Y "tuple") (Q 0 [(R 31)])
def b72 (P : Params) : Obj := O (Y "builtin_function_or_method") (Z [(U "type.__prepare__"), (Y "type")])
def b73 (P : Params) : Obj := O (Y "dict") (D 4 [E P "__module__" 269 (S "unison.errors" 194), E P "__qualname__" 271 (S "BadPlaces" 270), E P "__firstlineno__" 273 (I 13 272), E P "__static_attributes__" 274 (R 78)])
def b74 (P : Params) : Obj := O (Y "tuple") (Q 0 [])
def b75 (P : Params) : Obj := O N (Z [])
def b76 (P : Params) : Obj := O (Y "code") (Z [(S "BadPlaces" 264), (S "BadPlaces" 265), (S "/claim/cut.py" 266), (I 13 0), (I 0 0), (I 0 0), (I 0 0), (I 0 0), (R 74), (B false), (I 181 0), (R 75), N, N, N, N, (I 267 0), (I 13 0), (S "/claim/cut.py" 268)])
def b77 (P : Params) : Obj := ⟨(Y "frame"), none, .plain, ⟨[(some (R 76)), (some (R 3)), (some (R 73)), none, (some (S "unison.errors" 194)), none, (some (R 0))]⟩⟩
def b78 (P : Params) : Obj := O (Y "tuple") (Q 0 [])
def b79 (P : Params) : Obj := O (Y "dict") (D 2 [E P "__module__" 269 (S "unison.errors" 194), E P "__firstlineno__" 273 (I 13 272), E P "__static_attributes__" 274 (R 78), E P "__doc__" 275 N])
def b80 (P : Params) : Obj := ⟨(Y "type"), none, (.cls ⟨"BadPlaces", [(R 31)], [(R 80), (R 31), (Y "ValueError"), (Y "Exception"), (Y "BaseException"), (Y "object")], 79, "BadPlaces", true, [], [], false, none, false⟩), ⟨[(some (R 71)), none, (some (S "BadPlaces" 262)), (some (S "BadPlaces" 270)), (some (U "ValueError.__new__")), (some (B true))]⟩⟩
def b81 (P : Params) : Obj := O (Y "super") (Z [(R 80), (R 80), (R 80)])
def b82 (P : Params) : Obj := O (Y "builtin_function_or_method") (Z [(U "object.__init_subclass__"), (R 80)])
def b83 (P : Params) : Obj := O (Y "tuple") (Q 0 [(R 31)])
def b84 (P : Params) : Obj := O (Y "builtin_function_or_method") (Z [(U "type.__prepare__"), (Y "type")])
def b85 (P : Params) : Obj := O (Y "dict") (D 4 [E P "__module__" 285 (S "unison.errors" 194), E P "__qualname__" 287 (S "BadMoves" 286), E P "__firstlineno__" 289 (I 15 288), E P "__static_attributes__" 290 (R 90)])
def b86 (P : Params) : Obj := O (Y "tuple") (Q 0 [])
def b87 (P : Params) : Obj := O N (Z [])
def b88 (P : Params) : Obj := O (Y "code") (Z [(S "BadMoves" 280), (S "BadMoves" 281), (S "/claim/cut.py" 282), (I 15 0), (I 0 0), (I 0 0), (I 0 0), (I 0 0), (R 86), (B false), (I 181 0), (R 87), N, N, N, N, (I 283 0), (I 15 0), (S "/claim/cut.py" 284)])
def b89 (P : Params) : Obj := ⟨(Y "frame"), none, .plain, ⟨[(some (R 88)), (some (R 3)), (some (R 85)), none, (some (S "unison.errors" 194)), none, (some (R 0))]⟩⟩
def b90 (P : Params) : Obj := O (Y "tuple") (Q 0 [])
def b91 (P : Params) : Obj := O (Y "dict") (D 2 [E P "__module__" 285 (S "unison.errors" 194), E P "__firstlineno__" 289 (I 15 288), E P "__static_attributes__" 290 (R 90), E P "__doc__" 291 N])
def b92 (P : Params) : Obj := ⟨(Y "type"), none, (.cls ⟨"BadMoves", [(R 31)], [(R 92), (R 31), (Y "ValueError"), (Y "Exception"), (Y "BaseException"), (Y "object")], 91, "BadMoves", true, [], [], false, none, false⟩), ⟨[(some (R 83)), none, (some (S "BadMoves" 278)), (some (S "BadMoves" 286)), (some (U "ValueError.__new__")), (some (B true))]⟩⟩
def b93 (P : Params) : Obj := O (Y "super") (Z [(R 92), (R 92), (R 92)])
def b94 (P : Params) : Obj := O (Y "builtin_function_or_method") (Z [(U "object.__init_subclass__"), (R 92)])
def b95 (P : Params) : Obj := O (Y "tuple") (Q 0 [(R 31)])
def b96 (P : Params) : Obj := O (Y "builtin_function_or_method") (Z [(U "type.__prepare__"), (Y "type")])
def b97 (P : Params) : Obj := O (Y "dict") (D 4 [E P "__module__" 301 (S "unison.errors" 194), E P "__qualname__" 303 (S "Unlike" 302), E P "__firstlineno__" 305 (I 17 304), E P "__static_attributes__" 306 (R 102)])
def b98 (P : Params) : Obj := O (Y "tuple") (Q 0 [])
def b99 (P : Params) : Obj := O N (Z [])
def b100 (P : Params) : Obj := O (Y "code") (Z [(S "Unlike" 296), (S "Unlike" 297), (S "/claim/cut.py" 298), (I 17 0), (I 0 0), (I 0 0), (I 0 0), (I 0 0), (R 98), (B false), (I 181 0), (R 99), N, N, N, N, (I 299 0), (I 17 0), (S "/claim/cut.py" 300)])
def b101 (P : Params) : Obj := ⟨(Y "frame"), none, .plain, ⟨[(some (R 100)), (some (R 3)), (some (R 97)), none, (some (S "unison.errors" 194)), none, (some (R 0))]⟩⟩
def b102 (P : Params) : Obj := O (Y "tuple") (Q 0 [])
def b103 (P : Params) : Obj := O (Y "dict") (D 2 [E P "__module__" 301 (S "unison.errors" 194), E P "__firstlineno__" 305 (I 17 304), E P "__static_attributes__" 306 (R 102), E P "__doc__" 307 N])
def b104 (P : Params) : Obj := ⟨(Y "type"), none, (.cls ⟨"Unlike", [(R 31)], [(R 104), (R 31), (Y "ValueError"), (Y "Exception"), (Y "BaseException"), (Y "object")], 103, "Unlike", true, [], [], false, none, false⟩), ⟨[(some (R 95)), none, (some (S "Unlike" 294)), (some (S "Unlike" 302)), (some (U "ValueError.__new__")), (some (B true))]⟩⟩
def b105 (P : Params) : Obj := O (Y "super") (Z [(R 104), (R 104), (R 104)])
def b106 (P : Params) : Obj := O (Y "builtin_function_or_method") (Z [(U "object.__init_subclass__"), (R 104)])
def b3_2 (P : Params) : Obj := O (Y "dict") (D 26 [E P "__name__" 165 (S "unison.moves" 356), E P "__doc__" 166 N, E P "__package__" 167 N, E P "__loader__" 168 (U "__main__.__loader__#opaque"), E P "__spec__" 169 N, E P "__annotations__" 170 (R 6), E P "__builtins__" 171 (R 4), E P "__file__" 173 (S "/claim/cut.py" 172), E P "__cached__" 174 N, E P "_wall" 193 (R 21), E P "RidgeError" 213 (R 31), E P "BadRidge" 229 (R 44), E P "BadClimb" 245 (R 56), E P "BadRange" 261 (R 68), E P "BadPlaces" 277 (R 80), E P "BadMoves" 293 (R 92), E P "Unlike" 309 (R 104), E P "EXCHANGED" 318 (R 107), E P "is_ridge" 325 (R 114), E P "check_ridge" 332 (R 121), E P "heights" 342 (R 128), E P "upside_down" 348 (R 133), E P "about" 355 (R 140), E P "MOVES" 362 (R 141), E P "TAKEN_BACK" 375 (R 142), E P "STEPS" 383 (R 143)])
def b12_3 (P : Params) : Obj := O N (Z [(I 1 0), (I 0 0), (R 20), (I 5 0), (I 0 0), (R 27), (I 7 0), (I 0 0), (R 40), (I 9 0), (I 0 0), (R 52), (I 11 0), (I 0 0), (R 64), (I 13 0), (I 0 0), (R 76), (I 15 0), (I 0 0), (R 88), (I 17 0), (I 0 0), (R 100), (I 21 0), (I 0 0), (R 113), (I 23 0), (I 0 0), (R 120), (I 26 0), (I 0 0), (R 127), (I 34 0), (I 0 0), (R 132), (I 37 0), (I 0 0), (R 139)])
def b107 (P : Params) : Obj := O (Y "dict") (D 2 [E P "u" 312 (S "d" 313), E P "d" 314 (S "u" 315)])
def b108 (P : Params) : Obj := O (Y "tuple") (Q 0 [])
def b109 (P : Params) : Obj := O N (Z [])
def b110 (P : Params) : Obj := O (Y "tuple") (Q 0 [(S "value" 322)])
def b111 (P : Params) : Obj := O (Y "tuple") (Q 0 [])
def b112 (P : Params) : Obj := O N (F0 "is_ridge" "is_ridge" (top 11) N N N N none N N)
def b113 (P : Params) : Obj := O (Y "code") (Z [(S "is_ridge" 319), (S "is_ridge" 320), (S "/claim/cut.py" 321), (I 21 0), (I 1 0), (I 0 0), (I 0 0), (I 3 0), (R 108), (B true), (I 181 0), (R 109), N, (R 110), (R 111), (R 112), (I 323 0), (I 21 0), (S "/claim/cut.py" 324)])
def b114 (P : Params) : Obj := O (Y "function") (F "is_ridge" "is_ridge" (top 11) N N N (S "unison.ridges" 310) none (R 113) N)
def b115 (P : Params) : Obj := O (Y "tuple") (Q 0 [])
def b116 (P : Params) : Obj := O N (Z [])
def b117 (P : Params) : Obj := O (Y "tuple") (Q 0 [(S "value" 329)])
def b118 (P : Params) : Obj := O (Y "tuple") (Q 0 [])
def b119 (P : Params) : Obj := O N (F0 "check_ridge" "check_ridge" (top 12) N N N N none N N)
def b120 (P : Params) : Obj := O (Y "code") (Z [(S "check_ridge" 326), (S "check_ridge" 327), (S "/claim/cut.py" 328), (I 23 0), (I 1 0), (I 0 0), (I 0 0), (I 3 0), (R 115), (B true), (I 181 0), (R 116), N, (R 117), (R 118), (R 119), (I 330 0), (I 23 0), (S "/claim/cut.py" 331)])
def b121 (P : Params) : Obj := O (Y "function") (F "check_ridge" "check_ridge" (top 12) N N N (S "unison.ridges" 310) none (R 120) N)
def b122 (P : Params) : Obj := O (Y "tuple") (Q 0 [])
def b123 (P : Params) : Obj := O N (Z [])
def b124 (P : Params) : Obj := O (Y "tuple") (Q 0 [(S "ridge" 336), (S "height" 337), (S "told" 338), (S "step" 339)])
def b125 (P : Params) : Obj := O (Y "tuple") (Q 0 [])
def b126 (P : Params) : Obj := O N (F0 "heights" "heights" (top 13) N N N N none N N)
def b127 (P : Params) : Obj := O (Y "code") (Z [(S "heights" 333), (S "heights" 334), (S "/claim/cut.py" 335), (I 26 0), (I 1 0), (I 0 0), (I 0 0), (I 3 0), (R 122), (B true), (I 181 0), (R 123), N, (R 124), (R 125), (R 126), (I 340 0), (I 26 0), (S "/claim/cut.py" 341)])
def b128 (P : Params) : Obj := O (Y "function") (F "heights" "heights" (top 13) N N N (S "unison.ridges" 310) none (R 127) N)
def b129 (P : Params) : Obj := O (Y "tuple") (Q 0 [])
def b130 (P : Params) : Obj := O N (Z [])
def b131 (P : Params) : Obj := O N (F0 "upside_down" "upside_down" (top 14) N N N N none N N)
def b132 (P : Params) : Obj := O (Y "code") (Z [(S "upside_down" 343), (S "upside_down" 344), (S "/claim/cut.py" 345), (I 34 0), (I 1 0), (I 0 0), (I 0 0), (I 3 0), (R 129), (B true), (I 181 0), (R 130), N, N, N, (R 131), (I 346 0), (I 34 0), (S "/claim/cut.py" 347)])
def b133 (P : Params) : Obj := O (Y "function") (F "upside_down" "upside_down" (top 14) N N N (S "unison.ridges" 310) none (R 132) N)
def b134 (P : Params) : Obj := O (Y "tuple") (Q 0 [])
def b135 (P : Params) : Obj := O N (Z [])
def b136 (P : Params) : Obj := O (Y "tuple") (Q 0 [(S "ridge" 352)])
def b137 (P : Params) : Obj := O (Y "tuple") (Q 0 [])
def b138 (P : Params) : Obj := O N (F0 "about" "about" (top 15) N N N N none N N)
def b139 (P : Params) : Obj := O (Y "code") (Z [(S "about" 349), (S "about" 350), (S "/claim/cut.py" 351), (I 37 0), (I 1 0), (I 0 0), (I 0 0), (I 3 0), (R 134), (B true), (I 181 0), (R 135), N, (R 136), (R 137), (R 138), (I 353 0), (I 37 0), (S "/claim/cut.py" 354)])
def b140 (P : Params) : Obj := O (Y "function") (F "about" "about" (top 15) N N N (S "unison.ridges" 310) none (R 139) N)
def b141 (P : Params) : Obj := O (Y "tuple") (Q 0 [(S "ff" 358), (S "fb" 359), (S "bf" 360), (S "bb" 361)])
def b142 (P : Params) : Obj := O (Y "dict") (D 4 [E P "ff" 363 (S "bb" 364), E P "fb" 365 (S "bf" 366), E P "bf" 367 (S "fb" 368), E P "bb" 369 (S "ff" 370)])
def b143 (P : Params) : Obj := O (Y "dict") (D 2 [E P "f" 376 (I 1 377), E P "b" 378 (I (-1) 380)])
def b3_3 (P : Params) : Obj := O (Y "dict") (D 35 [E P "__name__" 165 (S "unison.telling" 462), E P "__doc__" 166 N, E P "__package__" 167 N, E P "__loader__" 168 (U "__main__.__loader__#opaque"), E P "__spec__" 169 N, E P "__annotations__" 170 (R 6), E P "__builtins__" 171 (R 4), E P "__file__" 173 (S "/claim/cut.py" 172), E P "__cached__" 174 N, E P "_wall" 193 (R 21), E P "RidgeError" 213 (R 31), E P "BadRidge" 229 (R 44), E P "BadClimb" 245 (R 56), E P "BadRange" 261 (R 68), E P "BadPlaces" 277 (R 80), E P "BadMoves" 293 (R 92), E P "Unlike" 309 (R 104), E P "EXCHANGED" 318 (R 107), E P "is_ridge" 325 (R 114), E P "check_ridge" 332 (R 121), E P "heights" 342 (R 128), E P "upside_down" 348 (R 133), E P "about" 355 (R 140), E P "MOVES" 362 (R 141), E P "TAKEN_BACK" 375 (R 142), E P "STEPS" 383 (R 143), E P "is_place" 391 (R 150), E P "are_alike" 401 (R 157), E P "check_places" 412 (R 164), E P "led_to" 421 (R 171), E P "can_be_done" 433 (R 178), E P "moves_at" 439 (R 183), E P "is_move" 446 (R 190), E P "check_moves" 452 (R 195), E P "thinned" 461 (R 202)])
def b12_4 (P : Params) : Obj := O N (Z [(I 1 0), (I 0 0), (R 20), (I 5 0), (I 0 0), (R 27), (I 7 0), (I 0 0), (R 40), (I 9 0), (I 0 0), (R 52), (I 11 0), (I 0 0), (R 64), (I 13 0), (I 0 0), (R 76), (I 15 0), (I 0 0), (R 88), (I 17 0), (I 0 0), (R 100), (I 21 0), (I 0 0), (R 113), (I 23 0), (I 0 0), (R 120), (I 26 0), (I 0 0), (R 127), (I 34 0), (I 0 0), (R 132), (I 37 0), (I 0 0), (R 139), (I 43 0), (I 0 0), (R 149), (I 45 0), (I 0 0), (R 156), (I 49 0), (I 0 0), (R 163), (I 53 0), (I 0 0), (R 170), (I 55 0), (I 0 0), (R 177), (I 58 0), (I 0 0), (R 182), (I 63 0), (I 0 0), (R 189), (I 65 0), (I 0 0), (R 194), (I 68 0), (I 0 0), (R 201)])
def b144 (P : Params) : Obj := O (Y "tuple") (Q 0 [])
def b145 (P : Params) : Obj := O N (Z [])
def b146 (P : Params) : Obj := O (Y "tuple") (Q 0 [(S "levels" 387), (S "value" 388)])
def b147 (P : Params) : Obj := O (Y "tuple") (Q 0 [])
def b148 (P : Params) : Obj := O N (F0 "is_place" "is_place" (top 20) N N N N none N N)
def b149 (P : Params) : Obj := O (Y "code") (Z [(S "is_place" 384), (S "is_place" 385), (S "/claim/cut.py" 386), (I 43 0), (I 2 0), (I 0 0), (I 0 0), (I 3 0), (R 144), (B true), (I 181 0), (R 145), N, (R 146), (R 147), (R 148), (I 389 0), (I 43 0), (S "/claim/cut.py" 390)])
def b150 (P : Params) : Obj := O (Y "function") (F "is_place" "is_place" (top 20) N N N (S "unison.moves" 356) none (R 149) N)
def b151 (P : Params) : Obj := O (Y "tuple") (Q 0 [])
def b152 (P : Params) : Obj := O N (Z [])
def b153 (P : Params) : Obj := O (Y "tuple") (Q 0 [(S "levels" 395), (S "other_levels" 396), (S "first" 397), (S "second" 398)])
def b154 (P : Params) : Obj := O (Y "tuple") (Q 0 [])
def b155 (P : Params) : Obj := O N (F0 "are_alike" "are_alike" (top 21) N N N N none N N)
def b156 (P : Params) : Obj := O (Y "code") (Z [(S "are_alike" 392), (S "are_alike" 393), (S "/claim/cut.py" 394), (I 45 0), (I 4 0), (I 0 0), (I 0 0), (I 3 0), (R 151), (B true), (I 181 0), (R 152), N, (R 153), (R 154), (R 155), (I 399 0), (I 45 0), (S "/claim/cut.py" 400)])
def b157 (P : Params) : Obj := O (Y "function") (F "are_alike" "are_alike" (top 21) N N N (S "unison.moves" 356) none (R 156) N)
def b158 (P : Params) : Obj := O (Y "tuple") (Q 0 [])
def b159 (P : Params) : Obj := O N (Z [])
def b160 (P : Params) : Obj := O (Y "tuple") (Q 0 [(S "levels" 405), (S "other_levels" 406), (S "first" 407), (S "second" 408), (S "there" 409)])
def b161 (P : Params) : Obj := O (Y "tuple") (Q 0 [])
def b162 (P : Params) : Obj := O N (F0 "check_places" "check_places" (top 22) N N N N none N N)
def b163 (P : Params) : Obj := O (Y "code") (Z [(S "check_places" 402), (S "check_places" 403), (S "/claim/cut.py" 404), (I 49 0), (I 4 0), (I 0 0), (I 0 0), (I 3 0), (R 158), (B true), (I 181 0), (R 159), N, (R 160), (R 161), (R 162), (I 410 0), (I 49 0), (S "/claim/cut.py" 411)])
def b164 (P : Params) : Obj := O (Y "function") (F "check_places" "check_places" (top 22) N N N (S "unison.moves" 356) none (R 163) N)
def b165 (P : Params) : Obj := O (Y "tuple") (Q 0 [])
def b166 (P : Params) : Obj := O N (Z [])
def b167 (P : Params) : Obj := O (Y "tuple") (Q 0 [(S "first" 416), (S "second" 417), (S "move" 418)])
def b168 (P : Params) : Obj := O (Y "tuple") (Q 0 [])
def b169 (P : Params) : Obj := O N (F0 "led_to" "led_to" (top 23) N N N N none N N)
def b170 (P : Params) : Obj := O (Y "code") (Z [(S "led_to" 413), (S "led_to" 414), (S "/claim/cut.py" 415), (I 53 0), (I 3 0), (I 0 0), (I 0 0), (I 3 0), (R 165), (B true), (I 181 0), (R 166), N, (R 167), (R 168), (R 169), (I 419 0), (I 53 0), (S "/claim/cut.py" 420)])
def b171 (P : Params) : Obj := O (Y "function") (F "led_to" "led_to" (top 23) N N N (S "unison.moves" 356) none (R 170) N)
def b172 (P : Params) : Obj := O (Y "tuple") (Q 0 [])
def b173 (P : Params) : Obj := O N (Z [])
def b174 (P : Params) : Obj := O (Y "tuple") (Q 0 [(S "levels" 425), (S "other_levels" 426), (S "first" 427), (S "second" 428), (S "move" 429), (S "pair" 430)])
def b175 (P : Params) : Obj := O (Y "tuple") (Q 0 [])
def b176 (P : Params) : Obj := O N (F0 "can_be_done" "can_be_done" (top 24) N N N N none N N)
def b177 (P : Params) : Obj := O (Y "code") (Z [(S "can_be_done" 422), (S "can_be_done" 423), (S "/claim/cut.py" 424), (I 55 0), (I 5 0), (I 0 0), (I 0 0), (I 3 0), (R 172), (B true), (I 181 0), (R 173), N, (R 174), (R 175), (R 176), (I 431 0), (I 55 0), (S "/claim/cut.py" 432)])
def b178 (P : Params) : Obj := O (Y "function") (F "can_be_done" "can_be_done" (top 24) N N N (S "unison.moves" 356) none (R 177) N)
def b179 (P : Params) : Obj := O (Y "tuple") (Q 0 [])
def b180 (P : Params) : Obj := O N (Z [])
def b181 (P : Params) : Obj := O N (F0 "moves_at" "moves_at" (top 25) N N N N none N N)
def b182 (P : Params) : Obj := O (Y "code") (Z [(S "moves_at" 434), (S "moves_at" 435), (S "/claim/cut.py" 436), (I 58 0), (I 4 0), (I 0 0), (I 0 0), (I 3 0), (R 179), (B true), (I 181 0), (R 180), N, N, N, (R 181), (I 437 0), (I 58 0), (S "/claim/cut.py" 438)])
def b183 (P : Params) : Obj := O (Y "function") (F "moves_at" "moves_at" (top 25) N N N (S "unison.moves" 356) none (R 182) N)
def b184 (P : Params) : Obj := O (Y "tuple") (Q 0 [])
def b185 (P : Params) : Obj := O N (Z [])
def b186 (P : Params) : Obj := O (Y "tuple") (Q 0 [(S "value" 443)])
def b187 (P : Params) : Obj := O (Y "tuple") (Q 0 [])
def b188 (P : Params) : Obj := O N (F0 "is_move" "is_move" (top 26) N N N N none N N)
def b189 (P : Params) : Obj := O (Y "code") (Z [(S "is_move" 440), (S "is_move" 441), (S "/claim/cut.py" 442), (I 63 0), (I 1 0), (I 0 0), (I 0 0), (I 3 0), (R 184), (B true), (I 181 0), (R 185), N, (R 186), (R 187), (R 188), (I 444 0), (I 63 0), (S "/claim/cut.py" 445)])
def b190 (P : Params) : Obj := O (Y "function") (F "is_move" "is_move" (top 26) N N N (S "unison.moves" 356) none (R 189) N)
def b191 (P : Params) : Obj := O (Y "tuple") (Q 0 [])
def b192 (P : Params) : Obj := O N (Z [])
def b193 (P : Params) : Obj := O N (F0 "check_moves" "check_moves" (top 27) N N N N none N N)
def b194 (P : Params) : Obj := O (Y "code") (Z [(S "check_moves" 447), (S "check_moves" 448), (S "/claim/cut.py" 449), (I 65 0), (I 1 0), (I 0 0), (I 0 0), (I 3 0), (R 191), (B true), (I 181 0), (R 192), N, N, N, (R 193), (I 450 0), (I 65 0), (S "/claim/cut.py" 451)])
def b195 (P : Params) : Obj := O (Y "function") (F "check_moves" "check_moves" (top 27) N N N (S "unison.moves" 356) none (R 194) N)
def b196 (P : Params) : Obj := O (Y "tuple") (Q 0 [])
def b197 (P : Params) : Obj := O N (Z [])
def b198 (P : Params) : Obj := O (Y "tuple") (Q 0 [(S "moves" 456), (S "kept" 457), (S "move" 458)])
def b199 (P : Params) : Obj := O (Y "tuple") (Q 0 [])
def b200 (P : Params) : Obj := O N (F0 "thinned" "thinned" (top 28) N N N N none N N)
def b201 (P : Params) : Obj := O (Y "code") (Z [(S "thinned" 453), (S "thinned" 454), (S "/claim/cut.py" 455), (I 68 0), (I 1 0), (I 0 0), (I 0 0), (I 3 0), (R 196), (B true), (I 181 0), (R 197), N, (R 198), (R 199), (R 200), (I 459 0), (I 68 0), (S "/claim/cut.py" 460)])
def b202 (P : Params) : Obj := O (Y "function") (F "thinned" "thinned" (top 28) N N N (S "unison.moves" 356) none (R 201) N)
def b3_4 (P : Params) : Obj := O (Y "dict") (D 37 [E P "__name__" 165 (S "unison.telling" 462), E P "__doc__" 166 N, E P "__package__" 167 N, E P "__loader__" 168 (U "__main__.__loader__#opaque"), E P "__spec__" 169 N, E P "__annotations__" 170 (R 6), E P "__builtins__" 171 (R 4), E P "__file__" 173 (S "/claim/cut.py" 172), E P "__cached__" 174 N, E P "_wall" 193 (R 21), E P "RidgeError" 213 (R 31), E P "BadRidge" 229 (R 44), E P "BadClimb" 245 (R 56), E P "BadRange" 261 (R 68), E P "BadPlaces" 277 (R 80), E P "BadMoves" 293 (R 92), E P "Unlike" 309 (R 104), E P "EXCHANGED" 318 (R 107), E P "is_ridge" 325 (R 114), E P "check_ridge" 332 (R 121), E P "heights" 342 (R 128), E P "upside_down" 348 (R 133), E P "about" 355 (R 140), E P "MOVES" 362 (R 141), E P "TAKEN_BACK" 375 (R 142), E P "STEPS" 383 (R 143), E P "is_place" 391 (R 150), E P "are_alike" 401 (R 157), E P "check_places" 412 (R 164), E P "led_to" 421 (R 171), E P "can_be_done" 433 (R 178), E P "moves_at" 439 (R 183), E P "is_move" 446 (R 190), E P "check_moves" 452 (R 195), E P "thinned" 461 (R 202), E P "Answer" 483 (R 212), E P "Way" 519 (R 240)])
def b12_5 (P : Params) : Obj := O N (Z [(I 1 0), (I 0 0), (R 20), (I 5 0), (I 0 0), (R 27), (I 7 0), (I 0 0), (R 40), (I 9 0), (I 0 0), (R 52), (I 11 0), (I 0 0), (R 64), (I 13 0), (I 0 0), (R 76), (I 15 0), (I 0 0), (R 88), (I 17 0), (I 0 0), (R 100), (I 21 0), (I 0 0), (R 113), (I 23 0), (I 0 0), (R 120), (I 26 0), (I 0 0), (R 127), (I 34 0), (I 0 0), (R 132), (I 37 0), (I 0 0), (R 139), (I 43 0), (I 0 0), (R 149), (I 45 0), (I 0 0), (R 156), (I 49 0), (I 0 0), (R 163), (I 53 0), (I 0 0), (R 170), (I 55 0), (I 0 0), (R 177), (I 58 0), (I 0 0), (R 182), (I 63 0), (I 0 0), (R 189), (I 65 0), (I 0 0), (R 194), (I 68 0), (I 0 0), (R 201), (I 78 0), (I 0 0), (R 208), (I 80 0), (I 0 0), (R 222)])
def b203 (P : Params) : Obj := O (Y "tuple") (Q 0 [])
def b204 (P : Params) : Obj := O (Y "builtin_function_or_method") (Z [(U "type.__prepare__"), (Y "type")])
def b205 (P : Params) : Obj := O (Y "dict") (D 4 [E P "__module__" 471 (S "unison.telling" 462), E P "__qualname__" 473 (S "Answer" 472), E P "__firstlineno__" 475 (I 78 474), E P "__static_attributes__" 476 (R 210)])
def b206 (P : Params) : Obj := O (Y "tuple") (Q 0 [])
def b207 (P : Params) : Obj := O N (Z [])
def b208 (P : Params) : Obj := O (Y "code") (Z [(S "Answer" 466), (S "Answer" 467), (S "/claim/cut.py" 468), (I 78 0), (I 0 0), (I 0 0), (I 0 0), (I 0 0), (R 206), (B false), (I 181 0), (R 207), N, N, N, N, (I 469 0), (I 78 0), (S "/claim/cut.py" 470)])
def b209 (P : Params) : Obj := ⟨(Y "frame"), none, .plain, ⟨[(some (R 208)), (some (R 3)), (some (R 205)), none, (some (S "unison.telling" 462)), none, (some (R 0))]⟩⟩
def b210 (P : Params) : Obj := O (Y "tuple") (Q 0 [])
def b211 (P : Params) : Obj := O (Y "dict") (D 4 [E P "__module__" 471 (S "unison.telling" 462), E P "__firstlineno__" 475 (I 78 474), E P "__static_attributes__" 476 (R 210), E P "__dict__" 478 (R 213), E P "__weakref__" 480 (R 214), E P "__doc__" 481 N])
def b212_0 (P : Params) : Obj := ⟨(Y "type"), none, (.cls ⟨"Answer", [(Y "object")], [(R 212), (Y "object")], 211, "Answer", true, [], [(R 240)], false, none, false⟩), ⟨[none, none, (some (S "Answer" 464)), (some (S "Answer" 472)), (some (U "object.__new__")), (some (B true))]⟩⟩
def b213 (P : Params) : Obj := O (Y "getset_descriptor") (Z [(S "__dict__" 477), (R 212), (U "function.__dict__"), (U "function.__dict__#set")])
def b214 (P : Params) : Obj := O (Y "getset_descriptor") (Z [(S "__weakref__" 479), (R 212), (U "ExceptionGroup.__weakref__"), N])
def b215 (P : Params) : Obj := O (Y "super") (Z [(R 212), (R 212), (R 212)])
def b216 (P : Params) : Obj := O (Y "builtin_function_or_method") (Z [(U "object.__init_subclass__"), (R 212)])
def b217 (P : Params) : Obj := O (Y "tuple") (Q 0 [(R 212)])
def b218 (P : Params) : Obj := O (Y "builtin_function_or_method") (Z [(U "type.__prepare__"), (Y "type")])
def b219 (P : Params) : Obj := O (Y "dict") (D 6 [E P "__module__" 491 (S "unison.telling" 462), E P "__qualname__" 493 (S "Way" 492), E P "__firstlineno__" 495 (I 80 494), E P "__init__" 503 (R 230), E P "shows" 514 (R 237), E P "__static_attributes__" 516 (R 238)])
def b220 (P : Params) : Obj := O (Y "tuple") (Q 0 [])
def b221 (P : Params) : Obj := O N (Z [(I 82 0), (I 4 0), (R 229), (I 85 0), (I 4 0), (R 236)])
def b222 (P : Params) : Obj := O (Y "code") (Z [(S "Way" 486), (S "Way" 487), (S "/claim/cut.py" 488), (I 80 0), (I 0 0), (I 0 0), (I 0 0), (I 0 0), (R 220), (B false), (I 181 0), (R 221), N, N, N, N, (I 489 0), (I 80 0), (S "/claim/cut.py" 490)])
def b223 (P : Params) : Obj := ⟨(Y "frame"), none, .plain, ⟨[(some (R 222)), (some (R 3)), (some (R 219)), none, (some (S "unison.telling" 462)), none, (some (R 0))]⟩⟩
def b224 (P : Params) : Obj := O (Y "tuple") (Q 0 [])
def b225 (P : Params) : Obj := O N (Z [])
def b226 (P : Params) : Obj := O (Y "tuple") (Q 0 [(S "self" 499), (S "moves" 500)])
def b227 (P : Params) : Obj := O (Y "tuple") (Q 0 [])
def b228 (P : Params) : Obj := O N (F0 "__init__" "Way.__init__" (inClass (top 31) 0) N N N N none N N)
def b229 (P : Params) : Obj := O (Y "code") (Z [(S "__init__" 496), (S "Way.__init__" 497), (S "/claim/cut.py" 498), (I 82 0), (I 2 0), (I 0 0), (I 0 0), (I 3 0), (R 224), (B true), (I 181 0), (R 225), N, (R 226), (R 227), (R 228), (I 501 0), (I 82 0), (S "/claim/cut.py" 502)])
def b230 (P : Params) : Obj := O (Y "function") (F "__init__" "Way.__init__" (inClass (top 31) 0) N N N (S "unison.telling" 462) none (R 229) N)
def b231 (P : Params) : Obj := O (Y "tuple") (Q 0 [])
def b232 (P : Params) : Obj := O N (Z [])
def b233 (P : Params) : Obj := O (Y "tuple") (Q 0 [(S "self" 507), (S "one" 508), (S "other" 509), (S "first" 510), (S "second" 511)])
def b234 (P : Params) : Obj := O (Y "tuple") (Q 0 [])
def b235 (P : Params) : Obj := O N (F0 "shows" "Way.shows" (inClass (top 31) 1) N N N N none N N)
def b236 (P : Params) : Obj := O (Y "code") (Z [(S "shows" 504), (S "Way.shows" 505), (S "/claim/cut.py" 506), (I 85 0), (I 5 0), (I 0 0), (I 0 0), (I 3 0), (R 231), (B true), (I 181 0), (R 232), N, (R 233), (R 234), (R 235), (I 512 0), (I 85 0), (S "/claim/cut.py" 513)])
def b237 (P : Params) : Obj := O (Y "function") (F "shows" "Way.shows" (inClass (top 31) 1) N N N (S "unison.telling" 462) none (R 236) N)
def b238 (P : Params) : Obj := O (Y "tuple") (Q 0 [(S "moves" 515)])
def b239 (P : Params) : Obj := O (Y "dict") (D 2 [E P "__module__" 491 (S "unison.telling" 462), E P "__firstlineno__" 495 (I 80 494), E P "__init__" 503 (R 230), E P "shows" 514 (R 237), E P "__static_attributes__" 516 (R 238), E P "__doc__" 517 N])
def b240 (P : Params) : Obj := ⟨(Y "type"), none, (.cls ⟨"Way", [(R 212)], [(R 240), (R 212), (Y "object")], 239, "Way", true, [], [], false, none, false⟩), ⟨[(some (R 217)), none, (some (S "Way" 484)), (some (S "Way" 492)), (some (U "object.__new__")), (some (B true))]⟩⟩
def b241 (P : Params) : Obj := O (Y "super") (Z [(R 240), (R 240), (R 240)])
def b242 (P : Params) : Obj := O (Y "builtin_function_or_method") (Z [(U "object.__init_subclass__"), (R 240)])
def b3_5 (P : Params) : Obj := O (Y "dict") (D 42 [E P "__name__" 165 (S "unison.telling" 462), E P "__doc__" 166 N, E P "__package__" 167 N, E P "__loader__" 168 (U "__main__.__loader__#opaque"), E P "__spec__" 169 N, E P "__annotations__" 170 (R 6), E P "__builtins__" 171 (R 4), E P "__file__" 173 (S "/claim/cut.py" 172), E P "__cached__" 174 N, E P "_wall" 193 (R 21), E P "RidgeError" 213 (R 31), E P "BadRidge" 229 (R 44), E P "BadClimb" 245 (R 56), E P "BadRange" 261 (R 68), E P "BadPlaces" 277 (R 80), E P "BadMoves" 293 (R 92), E P "Unlike" 309 (R 104), E P "EXCHANGED" 318 (R 107), E P "is_ridge" 325 (R 114), E P "check_ridge" 332 (R 121), E P "heights" 342 (R 128), E P "upside_down" 348 (R 133), E P "about" 355 (R 140), E P "MOVES" 362 (R 141), E P "TAKEN_BACK" 375 (R 142), E P "STEPS" 383 (R 143), E P "is_place" 391 (R 150), E P "are_alike" 401 (R 157), E P "check_places" 412 (R 164), E P "led_to" 421 (R 171), E P "can_be_done" 433 (R 178), E P "moves_at" 439 (R 183), E P "is_move" 446 (R 190), E P "check_moves" 452 (R 195), E P "thinned" 461 (R 202), E P "Answer" 483 (R 212), E P "Way" 519 (R 240), E P "Shut" 555 (R 266), E P "explored" 566 (R 275), E P "explored_next" 580 (R 282), E P "moves_to" 591 (R 289), E P "reached" 604 (R 296)])
def b12_6 (P : Params) : Obj := O N (Z [(I 1 0), (I 0 0), (R 20), (I 5 0), (I 0 0), (R 27), (I 7 0), (I 0 0), (R 40), (I 9 0), (I 0 0), (R 52), (I 11 0), (I 0 0), (R 64), (I 13 0), (I 0 0), (R 76), (I 15 0), (I 0 0), (R 88), (I 17 0), (I 0 0), (R 100), (I 21 0), (I 0 0), (R 113), (I 23 0), (I 0 0), (R 120), (I 26 0), (I 0 0), (R 127), (I 34 0), (I 0 0), (R 132), (I 37 0), (I 0 0), (R 139), (I 43 0), (I 0 0), (R 149), (I 45 0), (I 0 0), (R 156), (I 49 0), (I 0 0), (R 163), (I 53 0), (I 0 0), (R 170), (I 55 0), (I 0 0), (R 177), (I 58 0), (I 0 0), (R 182), (I 63 0), (I 0 0), (R 189), (I 65 0), (I 0 0), (R 194), (I 68 0), (I 0 0), (R 201), (I 78 0), (I 0 0), (R 208), (I 80 0), (I 0 0), (R 222), (I 87 0), (I 0 0), (R 248), (I 94 0), (I 0 0), (R 274), (I 100 0), (I 0 0), (R 281), (I 109 0), (I 0 0), (R 288), (I 117 0), (I 0 0), (R 295)])
def b212 (P : Params) : Obj := ⟨(Y "type"), none, (.cls ⟨"Answer", [(Y "object")], [(R 212), (Y "object")], 211, "Answer", true, [], [(R 240), (R 266)], false, none, false⟩), ⟨[none, none, (some (S "Answer" 464)), (some (S "Answer" 472)), (some (U "object.__new__")), (some (B true))]⟩⟩
def b243 (P : Params) : Obj := O (Y "tuple") (Q 0 [(R 212)])
def b244 (P : Params) : Obj := O (Y "builtin_function_or_method") (Z [(U "type.__prepare__"), (Y "type")])
def b245 (P : Params) : Obj := O (Y "dict") (D 6 [E P "__module__" 527 (S "unison.telling" 462), E P "__qualname__" 529 (S "Shut" 528), E P "__firstlineno__" 531 (I 87 530), E P "__init__" 539 (R 256), E P "shows" 550 (R 263), E P "__static_attributes__" 552 (R 264)])
def b246 (P : Params) : Obj := O (Y "tuple") (Q 0 [])
def b247 (P : Params) : Obj := O N (Z [(I 89 0), (I 4 0), (R 255), (I 92 0), (I 4 0), (R 262)])
def b248 (P : Params) : Obj := O (Y "code") (Z [(S "Shut" 522), (S "Shut" 523), (S "/claim/cut.py" 524), (I 87 0), (I 0 0), (I 0 0), (I 0 0), (I 0 0), (R 246), (B false), (I 181 0), (R 247), N, N, N, N, (I 525 0), (I 87 0), (S "/claim/cut.py" 526)])
def b249 (P : Params) : Obj := ⟨(Y "frame"), none, .plain, ⟨[(some (R 248)), (some (R 3)), (some (R 245)), none, (some (S "unison.telling" 462)), none, (some (R 0))]⟩⟩
def b250 (P : Params) : Obj := O (Y "tuple") (Q 0 [])
def b251 (P : Params) : Obj := O N (Z [])
def b252 (P : Params) : Obj := O (Y "tuple") (Q 0 [(S "self" 535), (S "pairs" 536)])
def b253 (P : Params) : Obj := O (Y "tuple") (Q 0 [])
def b254 (P : Params) : Obj := O N (F0 "__init__" "Shut.__init__" (inClass (top 32) 0) N N N N none N N)
def b255 (P : Params) : Obj := O (Y "code") (Z [(S "__init__" 532), (S "Shut.__init__" 533), (S "/claim/cut.py" 534), (I 89 0), (I 2 0), (I 0 0), (I 0 0), (I 3 0), (R 250), (B true), (I 181 0), (R 251), N, (R 252), (R 253), (R 254), (I 537 0), (I 89 0), (S "/claim/cut.py" 538)])
def b256 (P : Params) : Obj := O (Y "function") (F "__init__" "Shut.__init__" (inClass (top 32) 0) N N N (S "unison.telling" 462) none (R 255) N)
def b257 (P : Params) : Obj := O (Y "tuple") (Q 0 [])
def b258 (P : Params) : Obj := O N (Z [])
def b259 (P : Params) : Obj := O (Y "tuple") (Q 0 [(S "self" 543), (S "one" 544), (S "other" 545), (S "first" 546), (S "second" 547)])
def b260 (P : Params) : Obj := O (Y "tuple") (Q 0 [])
def b261 (P : Params) : Obj := O N (F0 "shows" "Shut.shows" (inClass (top 32) 1) N N N N none N N)
def b262 (P : Params) : Obj := O (Y "code") (Z [(S "shows" 540), (S "Shut.shows" 541), (S "/claim/cut.py" 542), (I 92 0), (I 5 0), (I 0 0), (I 0 0), (I 3 0), (R 257), (B true), (I 181 0), (R 258), N, (R 259), (R 260), (R 261), (I 548 0), (I 92 0), (S "/claim/cut.py" 549)])
def b263 (P : Params) : Obj := O (Y "function") (F "shows" "Shut.shows" (inClass (top 32) 1) N N N (S "unison.telling" 462) none (R 262) N)
def b264 (P : Params) : Obj := O (Y "tuple") (Q 0 [(S "pairs" 551)])
def b265 (P : Params) : Obj := O (Y "dict") (D 2 [E P "__module__" 527 (S "unison.telling" 462), E P "__firstlineno__" 531 (I 87 530), E P "__init__" 539 (R 256), E P "shows" 550 (R 263), E P "__static_attributes__" 552 (R 264), E P "__doc__" 553 N])
def b266 (P : Params) : Obj := ⟨(Y "type"), none, (.cls ⟨"Shut", [(R 212)], [(R 266), (R 212), (Y "object")], 265, "Shut", true, [], [], false, none, false⟩), ⟨[(some (R 243)), none, (some (S "Shut" 520)), (some (S "Shut" 528)), (some (U "object.__new__")), (some (B true))]⟩⟩
def b267 (P : Params) : Obj := O (Y "super") (Z [(R 266), (R 266), (R 266)])
def b268 (P : Params) : Obj := O (Y "builtin_function_or_method") (Z [(U "object.__init_subclass__"), (R 266)])
def b269 (P : Params) : Obj := O (Y "tuple") (Q 0 [])
def b270 (P : Params) : Obj := O N (Z [])
def b271 (P : Params) : Obj := O (Y "tuple") (Q 0 [(S "levels" 559), (S "other_levels" 560), (S "goal" 561), (S "came_by" 562), (S "newest" 563)])
def b272 (P : Params) : Obj := O (Y "tuple") (Q 0 [])
def b273 (P : Params) : Obj := O N (F0 "explored" "explored" (top 33) N N N N none N N)
def b274 (P : Params) : Obj := O (Y "code") (Z [(S "explored" 556), (S "explored" 557), (S "/claim/cut.py" 558), (I 94 0), (I 3 0), (I 0 0), (I 0 0), (I 3 0), (R 269), (B true), (I 181 0), (R 270), N, (R 271), (R 272), (R 273), (I 564 0), (I 94 0), (S "/claim/cut.py" 565)])
def b275 (P : Params) : Obj := O (Y "function") (F "explored" "explored" (top 33) N N N (S "unison.telling" 462) none (R 274) N)
def b276 (P : Params) : Obj := O (Y "tuple") (Q 0 [])
def b277 (P : Params) : Obj := O N (Z [])
def b278 (P : Params) : Obj := O (Y "tuple") (Q 0 [(S "levels" 570), (S "other_levels" 571), (S "newest" 572), (S "came_by" 573), (S "found" 574), (S "pair" 575), (S "move" 576), (S "there" 577)])
def b279 (P : Params) : Obj := O (Y "tuple") (Q 0 [])
def b280 (P : Params) : Obj := O N (F0 "explored_next" "explored_next" (top 34) N N N N none N N)
def b281 (P : Params) : Obj := O (Y "code") (Z [(S "explored_next" 567), (S "explored_next" 568), (S "/claim/cut.py" 569), (I 100 0), (I 4 0), (I 0 0), (I 0 0), (I 3 0), (R 276), (B true), (I 181 0), (R 277), N, (R 278), (R 279), (R 280), (I 578 0), (I 100 0), (S "/claim/cut.py" 579)])
def b282 (P : Params) : Obj := O (Y "function") (F "explored_next" "explored_next" (top 34) N N N (S "unison.telling" 462) none (R 281) N)
def b283 (P : Params) : Obj := O (Y "tuple") (Q 0 [])
def b284 (P : Params) : Obj := O N (Z [])
def b285 (P : Params) : Obj := O (Y "tuple") (Q 0 [(S "goal" 584), (S "came_by" 585), (S "moves" 586), (S "pair" 587), (S "move" 588)])
def b286 (P : Params) : Obj := O (Y "tuple") (Q 0 [])
def b287 (P : Params) : Obj := O N (F0 "moves_to" "moves_to" (top 35) N N N N none N N)
def b288 (P : Params) : Obj := O (Y "code") (Z [(S "moves_to" 581), (S "moves_to" 582), (S "/claim/cut.py" 583), (I 109 0), (I 2 0), (I 0 0), (I 0 0), (I 3 0), (R 283), (B true), (I 181 0), (R 284), N, (R 285), (R 286), (R 287), (I 589 0), (I 109 0), (S "/claim/cut.py" 590)])
def b289 (P : Params) : Obj := O (Y "function") (F "moves_to" "moves_to" (top 35) N N N (S "unison.telling" 462) none (R 288) N)
def b290 (P : Params) : Obj := O (Y "tuple") (Q 0 [])
def b291 (P : Params) : Obj := O N (Z [])
def b292 (P : Params) : Obj := O (Y "tuple") (Q 0 [(S "one" 595), (S "other" 596), (S "first" 597), (S "second" 598), (S "levels" 599), (S "other_levels" 600), (S "came_by" 601)])
def b293 (P : Params) : Obj := O (Y "tuple") (Q 0 [])
def b294 (P : Params) : Obj := O N (F0 "reached" "reached" (top 36) N N N N none N N)
def b295 (P : Params) : Obj := O (Y "code") (Z [(S "reached" 592), (S "reached" 593), (S "/claim/cut.py" 594), (I 117 0), (I 4 0), (I 0 0), (I 0 0), (I 3 0), (R 290), (B true), (I 181 0), (R 291), N, (R 292), (R 293), (R 294), (I 602 0), (I 117 0), (S "/claim/cut.py" 603)])
def b296 (P : Params) : Obj := O (Y "function") (F "reached" "reached" (top 36) N N N (S "unison.telling" 462) none (R 295) N)
def b3_6 (P : Params) : Obj := O (Y "dict") (D 48 [E P "__name__" 165 (S "unison.climbs" 605), E P "__doc__" 166 N, E P "__package__" 167 N, E P "__loader__" 168 (U "__main__.__loader__#opaque"), E P "__spec__" 169 N, E P "__annotations__" 170 (R 6), E P "__builtins__" 171 (R 4), E P "__file__" 173 (S "/claim/cut.py" 172), E P "__cached__" 174 N, E P "_wall" 193 (R 21), E P "RidgeError" 213 (R 31), E P "BadRidge" 229 (R 44), E P "BadClimb" 245 (R 56), E P "BadRange" 261 (R 68), E P "BadPlaces" 277 (R 80), E P "BadMoves" 293 (R 92), E P "Unlike" 309 (R 104), E P "EXCHANGED" 318 (R 107), E P "is_ridge" 325 (R 114), E P "check_ridge" 332 (R 121), E P "heights" 342 (R 128), E P "upside_down" 348 (R 133), E P "about" 355 (R 140), E P "MOVES" 362 (R 141), E P "TAKEN_BACK" 375 (R 142), E P "STEPS" 383 (R 143), E P "is_place" 391 (R 150), E P "are_alike" 401 (R 157), E P "check_places" 412 (R 164), E P "led_to" 421 (R 171), E P "can_be_done" 433 (R 178), E P "moves_at" 439 (R 183), E P "is_move" 446 (R 190), E P "check_moves" 452 (R 195), E P "thinned" 461 (R 202), E P "Answer" 483 (R 212), E P "Way" 519 (R 240), E P "Shut" 555 (R 266), E P "explored" 566 (R 275), E P "explored_next" 580 (R 282), E P "moves_to" 591 (R 289), E P "reached" 604 (R 296), E P "UNDONE" 619 (R 297), E P "height_of_top" 627 (R 304), E P "check_alike" 634 (R 311), E P "together" 642 (R 318), E P "check_climbs" 648 (R 323), E P "gone_along" 659 (R 330)])
def b12_7 (P : Params) : Obj := O N (Z [(I 1 0), (I 0 0), (R 20), (I 5 0), (I 0 0), (R 27), (I 7 0), (I 0 0), (R 40), (I 9 0), (I 0 0), (R 52), (I 11 0), (I 0 0), (R 64), (I 13 0), (I 0 0), (R 76), (I 15 0), (I 0 0), (R 88), (I 17 0), (I 0 0), (R 100), (I 21 0), (I 0 0), (R 113), (I 23 0), (I 0 0), (R 120), (I 26 0), (I 0 0), (R 127), (I 34 0), (I 0 0), (R 132), (I 37 0), (I 0 0), (R 139), (I 43 0), (I 0 0), (R 149), (I 45 0), (I 0 0), (R 156), (I 49 0), (I 0 0), (R 163), (I 53 0), (I 0 0), (R 170), (I 55 0), (I 0 0), (R 177), (I 58 0), (I 0 0), (R 182), (I 63 0), (I 0 0), (R 189), (I 65 0), (I 0 0), (R 194), (I 68 0), (I 0 0), (R 201), (I 78 0), (I 0 0), (R 208), (I 80 0), (I 0 0), (R 222), (I 87 0), (I 0 0), (R 248), (I 94 0), (I 0 0), (R 274), (I 100 0), (I 0 0), (R 281), (I 109 0), (I 0 0), (R 288), (I 117 0), (I 0 0), (R 295), (I 127 0), (I 0 0), (R 303), (I 132 0), (I 0 0), (R 310), (I 135 0), (I 0 0), (R 317), (I 138 0), (I 0 0), (R 322), (I 142 0), (I 0 0), (R 329)])
def b297 (P : Params) : Obj := O (Y "dict") (D 4 [E P "u" 607 (S "d" 608), E P "d" 609 (S "u" 610), E P "f" 611 (S "b" 612), E P "b" 613 (S "f" 614)])
def b298 (P : Params) : Obj := O (Y "tuple") (Q 0 [])
def b299 (P : Params) : Obj := O N (Z [])
def b300 (P : Params) : Obj := O (Y "tuple") (Q 0 [(S "climb" 623), (S "levels" 624)])
def b301 (P : Params) : Obj := O (Y "tuple") (Q 0 [])
def b302 (P : Params) : Obj := O N (F0 "height_of_top" "height_of_top" (top 39) N N N N none N N)
def b303 (P : Params) : Obj := O (Y "code") (Z [(S "height_of_top" 620), (S "height_of_top" 621), (S "/claim/cut.py" 622), (I 127 0), (I 1 0), (I 0 0), (I 0 0), (I 3 0), (R 298), (B true), (I 181 0), (R 299), N, (R 300), (R 301), (R 302), (I 625 0), (I 127 0), (S "/claim/cut.py" 626)])
def b304 (P : Params) : Obj := O (Y "function") (F "height_of_top" "height_of_top" (top 39) N N N (S "unison.climbs" 605) none (R 303) N)
def b305 (P : Params) : Obj := O (Y "tuple") (Q 0 [])
def b306 (P : Params) : Obj := O N (Z [])
def b307 (P : Params) : Obj := O (Y "tuple") (Q 0 [(S "tops" 631)])
def b308 (P : Params) : Obj := O (Y "tuple") (Q 0 [])
def b309 (P : Params) : Obj := O N (F0 "check_alike" "check_alike" (top 40) N N N N none N N)
def b310 (P : Params) : Obj := O (Y "code") (Z [(S "check_alike" 628), (S "check_alike" 629), (S "/claim/cut.py" 630), (I 132 0), (I 1 0), (I 0 0), (I 0 0), (I 3 0), (R 305), (B true), (I 181 0), (R 306), N, (R 307), (R 308), (R 309), (I 632 0), (I 132 0), (S "/claim/cut.py" 633)])
def b311 (P : Params) : Obj := O (Y "function") (F "check_alike" "check_alike" (top 40) N N N (S "unison.climbs" 605) none (R 310) N)
def b312 (P : Params) : Obj := O (Y "tuple") (Q 0 [])
def b313 (P : Params) : Obj := O N (Z [])
def b314 (P : Params) : Obj := O (Y "tuple") (Q 0 [(S "one" 638), (S "other" 639)])
def b315 (P : Params) : Obj := O (Y "tuple") (Q 0 [])
def b316 (P : Params) : Obj := O N (F0 "together" "together" (top 41) N N N N none N N)
def b317 (P : Params) : Obj := O (Y "code") (Z [(S "together" 635), (S "together" 636), (S "/claim/cut.py" 637), (I 135 0), (I 2 0), (I 0 0), (I 0 0), (I 3 0), (R 312), (B true), (I 181 0), (R 313), N, (R 314), (R 315), (R 316), (I 640 0), (I 135 0), (S "/claim/cut.py" 641)])
def b318 (P : Params) : Obj := O (Y "function") (F "together" "together" (top 41) N N N (S "unison.climbs" 605) none (R 317) N)
def b319 (P : Params) : Obj := O (Y "tuple") (Q 0 [])
def b320 (P : Params) : Obj := O N (Z [])
def b321 (P : Params) : Obj := O N (F0 "check_climbs" "check_climbs" (top 42) N N N N none N N)
def b322 (P : Params) : Obj := O (Y "code") (Z [(S "check_climbs" 643), (S "check_climbs" 644), (S "/claim/cut.py" 645), (I 138 0), (I 1 0), (I 0 0), (I 0 0), (I 3 0), (R 319), (B true), (I 181 0), (R 320), N, N, N, (R 321), (I 646 0), (I 138 0), (S "/claim/cut.py" 647)])
def b323 (P : Params) : Obj := O (Y "function") (F "check_climbs" "check_climbs" (top 42) N N N (S "unison.climbs" 605) none (R 322) N)
def b324 (P : Params) : Obj := O (Y "tuple") (Q 0 [])
def b325 (P : Params) : Obj := O N (Z [])
def b326 (P : Params) : Obj := O (Y "tuple") (Q 0 [(S "line" 652), (S "word" 653), (S "place" 654), (S "gone" 655), (S "letter" 656)])
def b327 (P : Params) : Obj := O (Y "tuple") (Q 0 [])
def b328 (P : Params) : Obj := O N (F0 "gone_along" "gone_along" (top 43) N N N N none N N)
def b329 (P : Params) : Obj := O (Y "code") (Z [(S "gone_along" 649), (S "gone_along" 650), (S "/claim/cut.py" 651), (I 142 0), (I 2 0), (I 0 0), (I 0 0), (I 3 0), (R 324), (B true), (I 181 0), (R 325), N, (R 326), (R 327), (R 328), (I 657 0), (I 142 0), (S "/claim/cut.py" 658)])
def b330 (P : Params) : Obj := O (Y "function") (F "gone_along" "gone_along" (top 43) N N N (S "unison.climbs" 605) none (R 329) N)
def b3_7 (P : Params) : Obj := O (Y "dict") (D 52 [E P "__name__" 165 (S "law_unison_k09_refused" 690), E P "__doc__" 166 N, E P "__package__" 167 N, E P "__loader__" 168 (U "__main__.__loader__#opaque"), E P "__spec__" 169 N, E P "__annotations__" 170 (R 6), E P "__builtins__" 171 (R 4), E P "__file__" 173 (S "/claim/cut.py" 172), E P "__cached__" 174 N, E P "_wall" 193 (R 21), E P "RidgeError" 213 (R 31), E P "BadRidge" 229 (R 44), E P "BadClimb" 245 (R 56), E P "BadRange" 261 (R 68), E P "BadPlaces" 277 (R 80), E P "BadMoves" 293 (R 92), E P "Unlike" 309 (R 104), E P "EXCHANGED" 318 (R 107), E P "is_ridge" 325 (R 114), E P "check_ridge" 332 (R 121), E P "heights" 342 (R 128), E P "upside_down" 348 (R 133), E P "about" 355 (R 140), E P "MOVES" 362 (R 141), E P "TAKEN_BACK" 375 (R 142), E P "STEPS" 383 (R 143), E P "is_place" 391 (R 150), E P "are_alike" 401 (R 157), E P "check_places" 412 (R 164), E P "led_to" 421 (R 171), E P "can_be_done" 433 (R 178), E P "moves_at" 439 (R 183), E P "is_move" 446 (R 190), E P "check_moves" 452 (R 195), E P "thinned" 461 (R 202), E P "Answer" 483 (R 212), E P "Way" 519 (R 240), E P "Shut" 555 (R 266), E P "explored" 566 (R 275), E P "explored_next" 580 (R 282), E P "moves_to" 591 (R 289), E P "reached" 604 (R 296), E P "UNDONE" 619 (R 297), E P "height_of_top" 627 (R 304), E P "check_alike" 634 (R 311), E P "together" 642 (R 318), E P "check_climbs" 648 (R 323), E P "gone_along" 659 (R 330), E P "in_unison" 665 (R 335), E P "check_range" 674 (R 342), E P "meeting" 683 (R 349), E P "changed" 689 (R 354)])
def b12_8 (P : Params) : Obj := O N (Z [(I 1 0), (I 0 0), (R 20), (I 5 0), (I 0 0), (R 27), (I 7 0), (I 0 0), (R 40), (I 9 0), (I 0 0), (R 52), (I 11 0), (I 0 0), (R 64), (I 13 0), (I 0 0), (R 76), (I 15 0), (I 0 0), (R 88), (I 17 0), (I 0 0), (R 100), (I 21 0), (I 0 0), (R 113), (I 23 0), (I 0 0), (R 120), (I 26 0), (I 0 0), (R 127), (I 34 0), (I 0 0), (R 132), (I 37 0), (I 0 0), (R 139), (I 43 0), (I 0 0), (R 149), (I 45 0), (I 0 0), (R 156), (I 49 0), (I 0 0), (R 163), (I 53 0), (I 0 0), (R 170), (I 55 0), (I 0 0), (R 177), (I 58 0), (I 0 0), (R 182), (I 63 0), (I 0 0), (R 189), (I 65 0), (I 0 0), (R 194), (I 68 0), (I 0 0), (R 201), (I 78 0), (I 0 0), (R 208), (I 80 0), (I 0 0), (R 222), (I 87 0), (I 0 0), (R 248), (I 94 0), (I 0 0), (R 274), (I 100 0), (I 0 0), (R 281), (I 109 0), (I 0 0), (R 288), (I 117 0), (I 0 0), (R 295), (I 127 0), (I 0 0), (R 303), (I 132 0), (I 0 0), (R 310), (I 135 0), (I 0 0), (R 317), (I 138 0), (I 0 0), (R 322), (I 142 0), (I 0 0), (R 329), (I 153 0), (I 0 0), (R 334), (I 165 0), (I 0 0), (R 341), (I 168 0), (I 0 0), (R 348), (I 173 0), (I 0 0), (R 353)])
def b331 (P : Params) : Obj := O (Y "tuple") (Q 0 [])
def b332 (P : Params) : Obj := O N (Z [])
def b333 (P : Params) : Obj := O N (F0 "in_unison" "in_unison" (top 44) N N N N none N N)
def b334 (P : Params) : Obj := O (Y "code") (Z [(S "in_unison" 660), (S "in_unison" 661), (S "/claim/cut.py" 662), (I 153 0), (I 1 0), (I 0 0), (I 0 0), (I 3 0), (R 331), (B true), (I 181 0), (R 332), N, N, N, (R 333), (I 663 0), (I 153 0), (S "/claim/cut.py" 664)])
def b335 (P : Params) : Obj := O (Y "function") (F "in_unison" "in_unison" (top 44) N N N (S "unison.climbs" 605) none (R 334) N)
def b336 (P : Params) : Obj := O (Y "tuple") (Q 0 [])
def b337 (P : Params) : Obj := O N (Z [])
def b338 (P : Params) : Obj := O (Y "tuple") (Q 0 [(S "levels" 671)])
def b339 (P : Params) : Obj := O (Y "tuple") (Q 0 [])
def b340 (P : Params) : Obj := O N (F0 "check_range" "check_range" (top 46) N N N N none N N)
def b341 (P : Params) : Obj := O (Y "code") (Z [(S "check_range" 668), (S "check_range" 669), (S "/claim/cut.py" 670), (I 165 0), (I 1 0), (I 0 0), (I 0 0), (I 3 0), (R 336), (B true), (I 181 0), (R 337), N, (R 338), (R 339), (R 340), (I 672 0), (I 165 0), (S "/claim/cut.py" 673)])
def b342 (P : Params) : Obj := O (Y "function") (F "check_range" "check_range" (top 46) N N N (S "unison.ranges" 666) none (R 341) N)
def b343 (P : Params) : Obj := O (Y "tuple") (Q 0 [])
def b344 (P : Params) : Obj := O N (Z [])
def b345 (P : Params) : Obj := O (Y "tuple") (Q 0 [(S "ridge" 678), (S "levels" 679), (S "highest" 680)])
def b346 (P : Params) : Obj := O (Y "tuple") (Q 0 [])
def b347 (P : Params) : Obj := O N (F0 "meeting" "meeting" (top 47) N N N N none N N)
def b348 (P : Params) : Obj := O (Y "code") (Z [(S "meeting" 675), (S "meeting" 676), (S "/claim/cut.py" 677), (I 168 0), (I 1 0), (I 0 0), (I 0 0), (I 3 0), (R 343), (B true), (I 181 0), (R 344), N, (R 345), (R 346), (R 347), (I 681 0), (I 168 0), (S "/claim/cut.py" 682)])
def b349 (P : Params) : Obj := O (Y "function") (F "meeting" "meeting" (top 47) N N N (S "unison.ranges" 666) none (R 348) N)
def b350 (P : Params) : Obj := O (Y "tuple") (Q 0 [])
def b351 (P : Params) : Obj := O N (Z [])
def b352 (P : Params) : Obj := O N (F0 "changed" "changed" (top 48) N N N N none N N)
def b353 (P : Params) : Obj := O (Y "code") (Z [(S "changed" 684), (S "changed" 685), (S "/claim/cut.py" 686), (I 173 0), (I 1 0), (I 0 0), (I 0 0), (I 3 0), (R 350), (B true), (I 181 0), (R 351), N, N, N, (R 352), (I 687 0), (I 173 0), (S "/claim/cut.py" 688)])
def b354 (P : Params) : Obj := O (Y "function") (F "changed" "changed" (top 48) N N N (S "unison.ranges" 666) none (R 353) N)
def b3 (P : Params) : Obj := O (Y "dict") (D 58 [E P "__name__" 165 (S "law_unison_k09_refused" 690), E P "__doc__" 166 N, E P "__package__" 167 N, E P "__loader__" 168 (U "__main__.__loader__#opaque"), E P "__spec__" 169 N, E P "__annotations__" 170 (R 6), E P "__builtins__" 171 (R 4), E P "__file__" 173 (S "/claim/cut.py" 172), E P "__cached__" 174 N, E P "_wall" 193 (R 21), E P "RidgeError" 213 (R 31), E P "BadRidge" 229 (R 44), E P "BadClimb" 245 (R 56), E P "BadRange" 261 (R 68), E P "BadPlaces" 277 (R 80), E P "BadMoves" 293 (R 92), E P "Unlike" 309 (R 104), E P "EXCHANGED" 318 (R 107), E P "is_ridge" 325 (R 114), E P "check_ridge" 332 (R 121), E P "heights" 342 (R 128), E P "upside_down" 348 (R 133), E P "about" 355 (R 140), E P "MOVES" 362 (R 141), E P "TAKEN_BACK" 375 (R 142), E P "STEPS" 383 (R 143), E P "is_place" 391 (R 150), E P "are_alike" 401 (R 157), E P "check_places" 412 (R 164), E P "led_to" 421 (R 171), E P "can_be_done" 433 (R 178), E P "moves_at" 439 (R 183), E P "is_move" 446 (R 190), E P "check_moves" 452 (R 195), E P "thinned" 461 (R 202), E P "Answer" 483 (R 212), E P "Way" 519 (R 240), E P "Shut" 555 (R 266), E P "explored" 566 (R 275), E P "explored_next" 580 (R 282), E P "moves_to" 591 (R 289), E P "reached" 604 (R 296), E P "UNDONE" 619 (R 297), E P "height_of_top" 627 (R 304), E P "check_alike" 634 (R 311), E P "together" 642 (R 318), E P "check_climbs" 648 (R 323), E P "gone_along" 659 (R 330), E P "in_unison" 665 (R 335), E P "check_range" 674 (R 342), E P "meeting" 683 (R 349), E P "changed" 689 (R 354), E P "_law_ridge_asked" 702 (R 361), E P "_law_climb_asked" 712 (R 368), E P "_law_places_asked" 723 (R 375), E P "_law_others_asked" 734 (R 382), E P "_law_told" 745 (R 389), E P "law" 755 (R 396)])
def b12 (P : Params) : Obj := O N (Z [(I 1 0), (I 0 0), (R 20), (I 5 0), (I 0 0), (R 27), (I 7 0), (I 0 0), (R 40), (I 9 0), (I 0 0), (R 52), (I 11 0), (I 0 0), (R 64), (I 13 0), (I 0 0), (R 76), (I 15 0), (I 0 0), (R 88), (I 17 0), (I 0 0), (R 100), (I 21 0), (I 0 0), (R 113), (I 23 0), (I 0 0), (R 120), (I 26 0), (I 0 0), (R 127), (I 34 0), (I 0 0), (R 132), (I 37 0), (I 0 0), (R 139), (I 43 0), (I 0 0), (R 149), (I 45 0), (I 0 0), (R 156), (I 49 0), (I 0 0), (R 163), (I 53 0), (I 0 0), (R 170), (I 55 0), (I 0 0), (R 177), (I 58 0), (I 0 0), (R 182), (I 63 0), (I 0 0), (R 189), (I 65 0), (I 0 0), (R 194), (I 68 0), (I 0 0), (R 201), (I 78 0), (I 0 0), (R 208), (I 80 0), (I 0 0), (R 222), (I 87 0), (I 0 0), (R 248), (I 94 0), (I 0 0), (R 274), (I 100 0), (I 0 0), (R 281), (I 109 0), (I 0 0), (R 288), (I 117 0), (I 0 0), (R 295), (I 127 0), (I 0 0), (R 303), (I 132 0), (I 0 0), (R 310), (I 135 0), (I 0 0), (R 317), (I 138 0), (I 0 0), (R 322), (I 142 0), (I 0 0), (R 329), (I 153 0), (I 0 0), (R 334), (I 165 0), (I 0 0), (R 341), (I 168 0), (I 0 0), (R 348), (I 173 0), (I 0 0), (R 353), (I 177 0), (I 0 0), (R 360), (I 189 0), (I 0 0), (R 367), (I 201 0), (I 0 0), (R 374), (I 206 0), (I 0 0), (R 381), (I 216 0), (I 0 0), (R 388), (I 231 0), (I 0 0), (R 395)])
def b355 (P : Params) : Obj := O (Y "tuple") (Q 0 [])
def b356 (P : Params) : Obj := O N (Z [])
def b357 (P : Params) : Obj := O (Y "tuple") (Q 0 [(S "_law_which" 695), (S "_law_more" 696), (S "_law_bad" 697), (S "_law_door" 698), (S "_law_pair" 699)])
def b358 (P : Params) : Obj := O (Y "tuple") (Q 0 [])
def b359 (P : Params) : Obj := O N (F0 "_law_ridge_asked" "_law_ridge_asked" (top 50) N N N N none N N)
def b360 (P : Params) : Obj := O (Y "code") (Z [(S "_law_ridge_asked" 692), (S "_law_ridge_asked" 693), (S "/claim/cut.py" 694), (I 177 0), (I 2 0), (I 0 0), (I 0 0), (I 3 0), (R 355), (B true), (I 181 0), (R 356), N, (R 357), (R 358), (R 359), (I 700 0), (I 177 0), (S "/claim/cut.py" 701)])
def b361 (P : Params) : Obj := O (Y "function") (F "_law_ridge_asked" "_law_ridge_asked" (top 50) N N N (S "law_unison_k09_refused" 690) none (R 360) N)
def b362 (P : Params) : Obj := O (Y "tuple") (Q 0 [])
def b363 (P : Params) : Obj := O N (Z [])
def b364 (P : Params) : Obj := O (Y "tuple") (Q 0 [(S "_law_which" 706), (S "_law_more" 707), (S "_law_bad" 708), (S "_law_door" 709)])
def b365 (P : Params) : Obj := O (Y "tuple") (Q 0 [])
def b366 (P : Params) : Obj := O N (F0 "_law_climb_asked" "_law_climb_asked" (top 51) N N N N none N N)
def b367 (P : Params) : Obj := O (Y "code") (Z [(S "_law_climb_asked" 703), (S "_law_climb_asked" 704), (S "/claim/cut.py" 705), (I 189 0), (I 2 0), (I 0 0), (I 0 0), (I 3 0), (R 362), (B true), (I 181 0), (R 363), N, (R 364), (R 365), (R 366), (I 710 0), (I 189 0), (S "/claim/cut.py" 711)])
def b368 (P : Params) : Obj := O (Y "function") (F "_law_climb_asked" "_law_climb_asked" (top 51) N N N (S "law_unison_k09_refused" 690) none (R 367) N)
def b369 (P : Params) : Obj := O (Y "tuple") (Q 0 [])
def b370 (P : Params) : Obj := O N (Z [])
def b371 (P : Params) : Obj := O (Y "tuple") (Q 0 [(S "_law_which" 716), (S "_law_more" 717), (S "_law_bad" 718), (S "_law_first" 719), (S "_law_second" 720)])
def b372 (P : Params) : Obj := O (Y "tuple") (Q 0 [])
def b373 (P : Params) : Obj := O N (F0 "_law_places_asked" "_law_places_asked" (top 52) N N N N none N N)
def b374 (P : Params) : Obj := O (Y "code") (Z [(S "_law_places_asked" 713), (S "_law_places_asked" 714), (S "/claim/cut.py" 715), (I 201 0), (I 2 0), (I 0 0), (I 0 0), (I 3 0), (R 369), (B true), (I 181 0), (R 370), N, (R 371), (R 372), (R 373), (I 721 0), (I 201 0), (S "/claim/cut.py" 722)])
def b375 (P : Params) : Obj := O (Y "function") (F "_law_places_asked" "_law_places_asked" (top 52) N N N (S "law_unison_k09_refused" 690) none (R 374) N)
def b376 (P : Params) : Obj := O (Y "tuple") (Q 0 [])
def b377 (P : Params) : Obj := O N (Z [])
def b378 (P : Params) : Obj := O (Y "tuple") (Q 0 [(S "_law_kind" 727), (S "_law_which" 728), (S "_law_more" 729), (S "_law_some" 730), (S "_law_one" 731)])
def b379 (P : Params) : Obj := O (Y "tuple") (Q 0 [])
def b380 (P : Params) : Obj := O N (F0 "_law_others_asked" "_law_others_asked" (top 53) N N N N none N N)
def b381 (P : Params) : Obj := O (Y "code") (Z [(S "_law_others_asked" 724), (S "_law_others_asked" 725), (S "/claim/cut.py" 726), (I 206 0), (I 3 0), (I 0 0), (I 0 0), (I 3 0), (R 376), (B true), (I 181 0), (R 377), N, (R 378), (R 379), (R 380), (I 732 0), (I 206 0), (S "/claim/cut.py" 733)])
def b382 (P : Params) : Obj := O (Y "function") (F "_law_others_asked" "_law_others_asked" (top 53) N N N (S "law_unison_k09_refused" 690) none (R 381) N)
def b383 (P : Params) : Obj := O (Y "tuple") (Q 0 [])
def b384 (P : Params) : Obj := O N (Z [])
def b385 (P : Params) : Obj := O (Y "tuple") (Q 0 [(S "_law_kind" 738), (S "_law_which" 739), (S "_law_more" 740), (S "error" 741), (S "_law_found" 742)])
def b386 (P : Params) : Obj := O (Y "tuple") (Q 0 [])
def b387 (P : Params) : Obj := O N (F0 "_law_told" "_law_told" (top 54) N N N N none N N)
def b388 (P : Params) : Obj := O (Y "code") (Z [(S "_law_told" 735), (S "_law_told" 736), (S "/claim/cut.py" 737), (I 216 0), (I 3 0), (I 0 0), (I 0 0), (I 3 0), (R 383), (B true), (I 181 0), (R 384), N, (R 385), (R 386), (R 387), (I 743 0), (I 216 0), (S "/claim/cut.py" 744)])
def b389 (P : Params) : Obj := O (Y "function") (F "_law_told" "_law_told" (top 54) N N N (S "law_unison_k09_refused" 690) none (R 388) N)
def b390 (P : Params) : Obj := O (Y "tuple") (Q 0 [])
def b391 (P : Params) : Obj := O N (Z [])
def b392 (P : Params) : Obj := O (Y "tuple") (Q 0 [(S "_law_script" 749), (S "_law_cell" 750), (S "_law_kind" 751), (S "_law_due" 752)])
def b393 (P : Params) : Obj := O (Y "tuple") (Q 0 [])
def b394 (P : Params) : Obj := O N (F0 "law" "law" (top 55) N N N N none N N)
def b395 (P : Params) : Obj := O (Y "code") (Z [(S "law" 746), (S "law" 747), (S "/claim/cut.py" 748), (I 231 0), (I 1 0), (I 0 0), (I 0 0), (I 3 0), (R 390), (B true), (I 181 0), (R 391), N, (R 392), (R 393), (R 394), (I 753 0), (I 231 0), (S "/claim/cut.py" 754)])
def b396 (P : Params) : Obj := O (Y "function") (F "law" "law" (top 55) N N N (S "law_unison_k09_refused" 690) none (R 395) N)
noncomputable def h_pre (P : Params) : Heap := ⟨⟨[boot_o_0 P, boot_o_1 P, boot_o_2 P, boot_o_3 P, boot_o_4 P, boot_o_5 P, boot_o_6 P, boot_o_7 P, boot_o_8 P, boot_o_9 P, boot_o_10 P, b11 P, b12_0 P, b13 P, b14 P]⟩, {}⟩
noncomputable def h_4 (P : Params) : Heap := ⟨⟨[boot_o_0 P, boot_o_1 P, boot_o_2 P, b3_0 P, boot_o_4 P, boot_o_5 P, boot_o_6 P, boot_o_7 P, boot_o_8 P, boot_o_9 P, boot_o_10 P, b11 P, b12_1 P, b13 P, b14 P, b15 P, b16 P, b17 P, b18 P, b19 P, b20 P, b21 P, b22 P, b23 P, b24 P, b25 P, b26 P, b27 P, b28 P, b29 P, b30 P, b31_0 P, b32 P, b33 P, b34 P, b35 P, b36 P, b37 P, b38 P, b39 P, b40 P, b41 P, b42 P, b43 P, b44 P, b45 P, b46 P, b47 P, b48 P, b49 P, b50 P, b51 P, b52 P, b53 P, b54 P, b55 P, b56 P, b57 P, b58 P]⟩, {}⟩
noncomputable def h_8 (P : Params) : Heap := ⟨⟨[boot_o_0 P, boot_o_1 P, boot_o_2 P, b3_1 P, boot_o_4 P, boot_o_5 P, boot_o_6 P, boot_o_7 P, boot_o_8 P, boot_o_9 P, boot_o_10 P, b11 P, b12_2 P, b13 P, b14 P, b15 P, b16 P, b17 P, b18 P, b19 P, b20 P, b21 P, b22 P, b23 P, b24 P, b25 P, b26 P, b27 P, b28 P, b29 P, b30 P, b31 P, b32 P, b33 P, b34 P, b35 P, b36 P, b37 P, b38 P, b39 P, b40 P, b41 P, b42 P, b43 P, b44 P, b45 P, b46 P, b47 P, b48 P, b49 P, b50 P, b51 P, b52 P, b53 P, b54 P, b55 P, b56 P, b57 P, b58 P, b59 P, b60 P, b61 P, b62 P, b63 P, b64 P, b65 P, b66 P, b67 P, b68 P, b69 P, b70 P, b71 P, b72 P, b73 P, b74 P, b75 P, b76 P, b77 P, b78 P, b79 P, b80 P, b81 P, b82 P, b83 P, b84 P, b85 P, b86 P, b87 P, b88 P, b89 P, b90 P, b91 P, b92 P, b93 P, b94 P, b95 P, b96 P, b97 P, b98 P, b99 P, b100 P, b101 P, b102 P, b103 P, b104 P, b105 P, b106 P]⟩, {}⟩
noncomputable def h_19 (P : Params) : Heap := ⟨⟨[boot_o_0 P, boot_o_1 P, boot_o_2 P, b3_2 P, boot_o_4 P, boot_o_5 P, boot_o_6 P, boot_o_7 P, boot_o_8 P, boot_o_9 P, boot_o_10 P, b11 P, b12_3 P, b13 P, b14 P, b15 P, b16 P, b17 P, b18 P, b19 P, b20 P, b21 P, b22 P, b23 P, b24 P, b25 P, b26 P, b27 P, b28 P, b29 P, b30 P, b31 P, b32 P, b33 P, b34 P, b35 P, b36 P, b37 P, b38 P, b39 P, b40 P, b41 P, b42 P, b43 P, b44 P, b45 P, b46 P, b47 P, b48 P, b49 P, b50 P, b51 P, b52 P, b53 P, b54 P, b55 P, b56 P, b57 P, b58 P, b59 P, b60 P, b61 P, b62 P, b63 P, b64 P, b65 P, b66 P, b67 P, b68 P, b69 P, b70 P, b71 P, b72 P, b73 P, b74 P, b75 P, b76 P, b77 P, b78 P, b79 P, b80 P, b81 P, b82 P, b83 P, b84 P, b85 P, b86 P, b87 P, b88 P, b89 P, b90 P, b91 P, b92 P, b93 P, b94 P, b95 P, b96 P, b97 P, b98 P, b99 P, b100 P, b101 P, b102 P, b103 P, b104 P, b105 P, b106 P, b107 P, b108 P, b109 P, b110 P, b111 P, b112 P, b113 P, b114 P, b115 P, b116 P, b117 P, b118 P, b119 P, b120 P, b121 P, b122 P, b123 P, b124 P, b125 P, b126 P, b127 P, b128 P, b129 P, b130 P, b131 P, b132 P, b133 P, b134 P, b135 P, b136 P, b137 P, b138 P, b139 P, b140 P, b141 P, b142 P, b143 P]⟩, {}⟩
noncomputable def h_29 (P : Params) : Heap := ⟨⟨[boot_o_0 P, boot_o_1 P, boot_o_2 P, b3_3 P, boot_o_4 P, boot_o_5 P, boot_o_6 P, boot_o_7 P, boot_o_8 P, boot_o_9 P, boot_o_10 P, b11 P, b12_4 P, b13 P, b14 P, b15 P, b16 P, b17 P, b18 P, b19 P, b20 P, b21 P, b22 P, b23 P, b24 P, b25 P, b26 P, b27 P, b28 P, b29 P, b30 P, b31 P, b32 P, b33 P, b34 P, b35 P, b36 P, b37 P, b38 P, b39 P, b40 P, b41 P, b42 P, b43 P, b44 P, b45 P, b46 P, b47 P, b48 P, b49 P, b50 P, b51 P, b52 P, b53 P, b54 P, b55 P, b56 P, b57 P, b58 P, b59 P, b60 P, b61 P, b62 P, b63 P, b64 P, b65 P, b66 P, b67 P, b68 P, b69 P, b70 P, b71 P, b72 P, b73 P, b74 P, b75 P, b76 P, b77 P, b78 P, b79 P, b80 P, b81 P, b82 P, b83 P, b84 P, b85 P, b86 P, b87 P, b88 P, b89 P, b90 P, b91 P, b92 P, b93 P, b94 P, b95 P, b96 P, b97 P, b98 P, b99 P, b100 P, b101 P, b102 P, b103 P, b104 P, b105 P, b106 P, b107 P, b108 P, b109 P, b110 P, b111 P, b112 P, b113 P, b114 P, b115 P, b116 P, b117 P, b118 P, b119 P, b120 P, b121 P, b122 P, b123 P, b124 P, b125 P, b126 P, b127 P, b128 P, b129 P, b130 P, b131 P, b132 P, b133 P, b134 P, b135 P, b136 P, b137 P, b138 P, b139 P, b140 P, b141 P, b142 P, b143 P, b144 P, b145 P, b146 P, b147 P, b148 P, b149 P, b150 P, b151 P, b152 P, b153 P, b154 P, b155 P, b156 P, b157 P, b158 P, b159 P, b160 P, b161 P, b162 P, b163 P, b164 P, b165 P, b166 P, b167 P, b168 P, b169 P, b170 P, b171 P, b172 P, b173 P, b174 P, b175 P, b176 P, b177 P, b178 P, b179 P, b180 P, b181 P, b182 P, b183 P, b184 P, b185 P, b186 P, b187 P, b188 P, b189 P, b190 P, b191 P, b192 P, b193 P, b194 P, b195 P, b196 P, b197 P, b198 P, b199 P, b200 P, b201 P, b202 P]⟩, {}⟩
noncomputable def h_31 (P : Params) : Heap := ⟨⟨[boot_o_0 P, boot_o_1 P, boot_o_2 P, b3_4 P, boot_o_4 P, boot_o_5 P, boot_o_6 P, boot_o_7 P, boot_o_8 P, boot_o_9 P, boot_o_10 P, b11 P, b12_5 P, b13 P, b14 P, b15 P, b16 P, b17 P, b18 P, b19 P, b20 P, b21 P, b22 P, b23 P, b24 P, b25 P, b26 P, b27 P, b28 P, b29 P, b30 P, b31 P, b32 P, b33 P, b34 P, b35 P, b36 P, b37 P, b38 P, b39 P, b40 P, b41 P, b42 P, b43 P, b44 P, b45 P, b46 P, b47 P, b48 P, b49 P, b50 P, b51 P, b52 P, b53 P, b54 P, b55 P, b56 P, b57 P, b58 P, b59 P, b60 P, b61 P, b62 P, b63 P, b64 P, b65 P, b66 P, b67 P, b68 P, b69 P, b70 P, b71 P, b72 P, b73 P, b74 P, b75 P, b76 P, b77 P, b78 P, b79 P, b80 P, b81 P, b82 P, b83 P, b84 P, b85 P, b86 P, b87 P, b88 P, b89 P, b90 P, b91 P, b92 P, b93 P, b94 P, b95 P, b96 P, b97 P, b98 P, b99 P, b100 P, b101 P, b102 P, b103 P, b104 P, b105 P, b106 P, b107 P, b108 P, b109 P, b110 P, b111 P, b112 P, b113 P, b114 P, b115 P, b116 P, b117 P, b118 P, b119 P, b120 P, b121 P, b122 P, b123 P, b124 P, b125 P, b126 P, b127 P, b128 P, b129 P, b130 P, b131 P, b132 P, b133 P, b134 P, b135 P, b136 P, b137 P, b138 P, b139 P, b140 P, b141 P, b142 P, b143 P, b144 P, b145 P, b146 P, b147 P, b148 P, b149 P, b150 P, b151 P, b152 P, b153 P, b154 P, b155 P, b156 P, b157 P, b158 P, b159 P, b160 P, b161 P, b162 P, b163 P, b164 P, b165 P, b166 P, b167 P, b168 P, b169 P, b170 P, b171 P, b172 P, b173 P, b174 P, b175 P, b176 P, b177 P, b178 P, b179 P, b180 P, b181 P, b182 P, b183 P, b184 P, b185 P, b186 P, b187 P, b188 P, b189 P, b190 P, b191 P, b192 P, b193 P, b194 P, b195 P, b196 P, b197 P, b198 P, b199 P, b200 P, b201 P, b202 P, b203 P, b204 P, b205 P, b206 P, b207 P, b208 P, b209 P, b210 P, b211 P, b212_0 P, b213 P, b214 P, b215 P, b216 P, b217 P, b218 P, b219 P, b220 P, b221 P, b222 P, b223 P, b224 P, b225 P, b226 P, b227 P, b228 P, b229 P, b230 P, b231 P, b232 P, b233 P, b234 P, b235 P, b236 P, b237 P, b238 P, b239 P, b240 P, b241 P, b242 P]⟩, {}⟩
noncomputable def h_36 (P : Params) : Heap := ⟨⟨[boot_o_0 P, boot_o_1 P, boot_o_2 P, b3_5 P, boot_o_4 P, boot_o_5 P, boot_o_6 P, boot_o_7 P, boot_o_8 P, boot_o_9 P, boot_o_10 P, b11 P, b12_6 P, b13 P, b14 P, b15 P, b16 P, b17 P, b18 P, b19 P, b20 P, b21 P, b22 P, b23 P, b24 P, b25 P, b26 P, b27 P, b28 P, b29 P, b30 P, b31 P, b32 P, b33 P, b34 P, b35 P, b36 P, b37 P, b38 P, b39 P, b40 P, b41 P, b42 P, b43 P, b44 P, b45 P, b46 P, b47 P, b48 P, b49 P, b50 P, b51 P, b52 P, b53 P, b54 P, b55 P, b56 P, b57 P, b58 P, b59 P, b60 P, b61 P, b62 P, b63 P, b64 P, b65 P, b66 P, b67 P, b68 P, b69 P, b70 P, b71 P, b72 P, b73 P, b74 P, b75 P, b76 P, b77 P, b78 P, b79 P, b80 P, b81 P, b82 P, b83 P, b84 P, b85 P, b86 P, b87 P, b88 P, b89 P, b90 P, b91 P, b92 P, b93 P, b94 P, b95 P, b96 P, b97 P, b98 P, b99 P, b100 P, b101 P, b102 P, b103 P, b104 P, b105 P, b106 P, b107 P, b108 P, b109 P, b110 P, b111 P, b112 P, b113 P, b114 P, b115 P, b116 P, b117 P, b118 P, b119 P, b120 P, b121 P, b122 P, b123 P, b124 P, b125 P, b126 P, b127 P, b128 P, b129 P, b130 P, b131 P, b132 P, b133 P, b134 P, b135 P, b136 P, b137 P, b138 P, b139 P, b140 P, b141 P, b142 P, b143 P, b144 P, b145 P, b146 P, b147 P, b148 P, b149 P, b150 P, b151 P, b152 P, b153 P, b154 P, b155 P, b156 P, b157 P, b158 P, b159 P, b160 P, b161 P, b162 P, b163 P, b164 P, b165 P, b166 P, b167 P, b168 P, b169 P, b170 P, b171 P, b172 P, b173 P, b174 P, b175 P, b176 P, b177 P, b178 P, b179 P, b180 P, b181 P, b182 P, b183 P, b184 P, b185 P, b186 P, b187 P, b188 P, b189 P, b190 P, b191 P, b192 P, b193 P, b194 P, b195 P, b196 P, b197 P, b198 P, b199 P, b200 P, b201 P, b202 P, b203 P, b204 P, b205 P, b206 P, b207 P, b208 P, b209 P, b210 P, b211 P, b212 P, b213 P, b214 P, b215 P, b216 P, b217 P, b218 P, b219 P, b220 P, b221 P, b222 P, b223 P, b224 P, b225 P, b226 P, b227 P, b228 P, b229 P, b230 P, b231 P, b232 P, b233 P, b234 P, b235 P, b236 P, b237 P, b238 P, b239 P, b240 P, b241 P, b242 P, b243 P, b244 P, b245 P, b246 P, b247 P, b248 P, b249 P, b250 P, b251 P, b252 P, b253 P, b254 P, b255 P, b256 P, b257 P, b258 P, b259 P, b260 P, b261 P, b262 P, b263 P, b264 P, b265 P, b266 P, b267 P, b268 P, b269 P, b270 P, b271 P, b272 P, b273 P, b274 P, b275 P, b276 P, b277 P, b278 P, b279 P, b280 P, b281 P, b282 P, b283 P, b284 P, b285 P, b286 P, b287 P, b288 P, b289 P, b290 P, b291 P, b292 P, b293 P, b294 P, b295 P, b296 P]⟩, {}⟩
noncomputable def h_43 (P : Params) : Heap := ⟨⟨[boot_o_0 P, boot_o_1 P, boot_o_2 P, b3_6 P, boot_o_4 P, boot_o_5 P, boot_o_6 P, boot_o_7 P, boot_o_8 P, boot_o_9 P, boot_o_10 P, b11 P, b12_7 P, b13 P, b14 P, b15 P, b16 P, b17 P, b18 P, b19 P, b20 P, b21 P, b22 P, b23 P, b24 P, b25 P, b26 P, b27 P, b28 P, b29 P, b30 P, b31 P, b32 P, b33 P, b34 P, b35 P, b36 P, b37 P, b38 P, b39 P, b40 P, b41 P, b42 P, b43 P, b44 P, b45 P, b46 P, b47 P, b48 P, b49 P, b50 P, b51 P, b52 P, b53 P, b54 P, b55 P, b56 P, b57 P, b58 P, b59 P, b60 P, b61 P, b62 P, b63 P, b64 P, b65 P, b66 P, b67 P, b68 P, b69 P, b70 P, b71 P, b72 P, b73 P, b74 P, b75 P, b76 P, b77 P, b78 P, b79 P, b80 P, b81 P, b82 P, b83 P, b84 P, b85 P, b86 P, b87 P, b88 P, b89 P, b90 P, b91 P, b92 P, b93 P, b94 P, b95 P, b96 P, b97 P, b98 P, b99 P, b100 P, b101 P, b102 P, b103 P, b104 P, b105 P, b106 P, b107 P, b108 P, b109 P, b110 P, b111 P, b112 P, b113 P, b114 P, b115 P, b116 P, b117 P, b118 P, b119 P, b120 P, b121 P, b122 P, b123 P, b124 P, b125 P, b126 P, b127 P, b128 P, b129 P, b130 P, b131 P, b132 P, b133 P, b134 P, b135 P, b136 P, b137 P, b138 P, b139 P, b140 P, b141 P, b142 P, b143 P, b144 P, b145 P, b146 P, b147 P, b148 P, b149 P, b150 P, b151 P, b152 P, b153 P, b154 P, b155 P, b156 P, b157 P, b158 P, b159 P, b160 P, b161 P, b162 P, b163 P, b164 P, b165 P, b166 P, b167 P, b168 P, b169 P, b170 P, b171 P, b172 P, b173 P, b174 P, b175 P, b176 P, b177 P, b178 P, b179 P, b180 P, b181 P, b182 P, b183 P, b184 P, b185 P, b186 P, b187 P, b188 P, b189 P, b190 P, b191 P, b192 P, b193 P, b194 P, b195 P, b196 P, b197 P, b198 P, b199 P, b200 P, b201 P, b202 P, b203 P, b204 P, b205 P, b206 P, b207 P, b208 P, b209 P, b210 P, b211 P, b212 P, b213 P, b214 P, b215 P, b216 P, b217 P, b218 P, b219 P, b220 P, b221 P, b222 P, b223 P, b224 P, b225 P, b226 P, b227 P, b228 P, b229 P, b230 P, b231 P, b232 P, b233 P, b234 P, b235 P, b236 P, b237 P, b238 P, b239 P, b240 P, b241 P, b242 P, b243 P, b244 P, b245 P, b246 P, b247 P, b248 P, b249 P, b250 P, b251 P, b252 P, b253 P, b254 P, b255 P, b256 P, b257 P, b258 P, b259 P, b260 P, b261 P, b262 P, b263 P, b264 P, b265 P, b266 P, b267 P, b268 P, b269 P, b270 P, b271 P, b272 P, b273 P, b274 P, b275 P, b276 P, b277 P, b278 P, b279 P, b280 P, b281 P, b282 P, b283 P, b284 P, b285 P, b286 P, b287 P, b288 P, b289 P, b290 P, b291 P, b292 P, b293 P, b294 P, b295 P, b296 P, b297 P, b298 P, b299 P, b300 P, b301 P, b302 P, b303 P, b304 P, b305 P, b306 P, b307 P, b308 P, b309 P, b310 P, b311 P, b312 P, b313 P, b314 P, b315 P, b316 P, b317 P, b318 P, b319 P, b320 P, b321 P, b322 P, b323 P, b324 P, b325 P, b326 P, b327 P, b328 P, b329 P, b330 P]⟩, {}⟩
noncomputable def h_49 (P : Params) : Heap := ⟨⟨[boot_o_0 P, boot_o_1 P, boot_o_2 P, b3_7 P, boot_o_4 P, boot_o_5 P, boot_o_6 P, boot_o_7 P, boot_o_8 P, boot_o_9 P, boot_o_10 P, b11 P, b12_8 P, b13 P, b14 P, b15 P, b16 P, b17 P, b18 P, b19 P, b20 P, b21 P, b22 P, b23 P, b24 P, b25 P, b26 P, b27 P, b28 P, b29 P, b30 P, b31 P, b32 P, b33 P, b34 P, b35 P, b36 P, b37 P, b38 P, b39 P, b40 P, b41 P, b42 P, b43 P, b44 P, b45 P, b46 P, b47 P, b48 P, b49 P, b50 P, b51 P, b52 P, b53 P, b54 P, b55 P, b56 P, b57 P, b58 P, b59 P, b60 P, b61 P, b62 P, b63 P, b64 P, b65 P, b66 P, b67 P, b68 P, b69 P, b70 P, b71 P, b72 P, b73 P, b74 P, b75 P, b76 P, b77 P, b78 P, b79 P, b80 P, b81 P, b82 P, b83 P, b84 P, b85 P, b86 P, b87 P, b88 P, b89 P, b90 P, b91 P, b92 P, b93 P, b94 P, b95 P, b96 P, b97 P, b98 P, b99 P, b100 P, b101 P, b102 P, b103 P, b104 P, b105 P, b106 P, b107 P, b108 P, b109 P, b110 P, b111 P, b112 P, b113 P, b114 P, b115 P, b116 P, b117 P, b118 P, b119 P, b120 P, b121 P, b122 P, b123 P, b124 P, b125 P, b126 P, b127 P, b128 P, b129 P, b130 P, b131 P, b132 P, b133 P, b134 P, b135 P, b136 P, b137 P, b138 P, b139 P, b140 P, b141 P, b142 P, b143 P, b144 P, b145 P, b146 P, b147 P, b148 P, b149 P, b150 P, b151 P, b152 P, b153 P, b154 P, b155 P, b156 P, b157 P, b158 P, b159 P, b160 P, b161 P, b162 P, b163 P, b164 P, b165 P, b166 P, b167 P, b168 P, b169 P, b170 P, b171 P, b172 P, b173 P, b174 P, b175 P, b176 P, b177 P, b178 P, b179 P, b180 P, b181 P, b182 P, b183 P, b184 P, b185 P, b186 P, b187 P, b188 P, b189 P, b190 P, b191 P, b192 P, b193 P, b194 P, b195 P, b196 P, b197 P, b198 P, b199 P, b200 P, b201 P, b202 P, b203 P, b204 P, b205 P, b206 P, b207 P, b208 P, b209 P, b210 P, b211 P, b212 P, b213 P, b214 P, b215 P, b216 P, b217 P, b218 P, b219 P, b220 P, b221 P, b222 P, b223 P, b224 P, b225 P, b226 P, b227 P, b228 P, b229 P, b230 P, b231 P, b232 P, b233 P, b234 P, b235 P, b236 P, b237 P, b238 P, b239 P, b240 P, b241 P, b242 P, b243 P, b244 P, b245 P, b246 P, b247 P, b248 P, b249 P, b250 P, b251 P, b252 P, b253 P, b254 P, b255 P, b256 P, b257 P, b258 P, b259 P, b260 P, b261 P, b262 P, b263 P, b264 P, b265 P, b266 P, b267 P, b268 P, b269 P, b270 P, b271 P, b272 P, b273 P, b274 P, b275 P, b276 P, b277 P, b278 P, b279 P, b280 P, b281 P, b282 P, b283 P, b284 P, b285 P, b286 P, b287 P, b288 P, b289 P, b290 P, b291 P, b292 P, b293 P, b294 P, b295 P, b296 P, b297 P, b298 P, b299 P, b300 P, b301 P, b302 P, b303 P, b304 P, b305 P, b306 P, b307 P, b308 P, b309 P, b310 P, b311 P, b312 P, b313 P, b314 P, b315 P, b316 P, b317 P, b318 P, b319 P, b320 P, b321 P, b322 P, b323 P, b324 P, b325 P, b326 P, b327 P, b328 P, b329 P, b330 P, b331 P, b332 P, b333 P, b334 P, b335 P, b336 P, b337 P, b338 P, b339 P, b340 P, b341 P, b342 P, b343 P, b344 P, b345 P, b346 P, b347 P, b348 P, b349 P, b350 P, b351 P, b352 P, b353 P, b354 P]⟩, {}⟩
noncomputable def h_55 (P : Params) : Heap := ⟨⟨[boot_o_0 P, boot_o_1 P, boot_o_2 P, b3 P, boot_o_4 P, boot_o_5 P, boot_o_6 P, boot_o_7 P, boot_o_8 P, boot_o_9 P, boot_o_10 P, b11 P, b12 P, b13 P, b14 P, b15 P, b16 P, b17 P, b18 P, b19 P, b20 P, b21 P, b22 P, b23 P, b24 P, b25 P, b26 P, b27 P, b28 P, b29 P, b30 P, b31 P, b32 P, b33 P, b34 P, b35 P, b36 P, b37 P, b38 P, b39 P, b40 P, b41 P, b42 P, b43 P, b44 P, b45 P, b46 P, b47 P, b48 P, b49 P, b50 P, b51 P, b52 P, b53 P, b54 P, b55 P, b56 P, b57 P, b58 P, b59 P, b60 P, b61 P, b62 P, b63 P, b64 P, b65 P, b66 P, b67 P, b68 P, b69 P, b70 P, b71 P, b72 P, b73 P, b74 P, b75 P, b76 P, b77 P, b78 P, b79 P, b80 P, b81 P, b82 P, b83 P, b84 P, b85 P, b86 P, b87 P, b88 P, b89 P, b90 P, b91 P, b92 P, b93 P, b94 P, b95 P, b96 P, b97 P, b98 P, b99 P, b100 P, b101 P, b102 P, b103 P, b104 P, b105 P, b106 P, b107 P, b108 P, b109 P, b110 P, b111 P, b112 P, b113 P, b114 P, b115 P, b116 P, b117 P, b118 P, b119 P, b120 P, b121 P, b122 P, b123 P, b124 P, b125 P, b126 P, b127 P, b128 P, b129 P, b130 P, b131 P, b132 P, b133 P, b134 P, b135 P, b136 P, b137 P, b138 P, b139 P, b140 P, b141 P, b142 P, b143 P, b144 P, b145 P, b146 P, b147 P, b148 P, b149 P, b150 P, b151 P, b152 P, b153 P, b154 P, b155 P, b156 P, b157 P, b158 P, b159 P, b160 P, b161 P, b162 P, b163 P, b164 P, b165 P, b166 P, b167 P, b168 P, b169 P, b170 P, b171 P, b172 P, b173 P, b174 P, b175 P, b176 P, b177 P, b178 P, b179 P, b180 P, b181 P, b182 P, b183 P, b184 P, b185 P, b186 P, b187 P, b188 P, b189 P, b190 P, b191 P, b192 P, b193 P, b194 P, b195 P, b196 P, b197 P, b198 P, b199 P, b200 P, b201 P, b202 P, b203 P, b204 P, b205 P, b206 P, b207 P, b208 P, b209 P, b210 P, b211 P, b212 P, b213 P, b214 P, b215 P, b216 P, b217 P, b218 P, b219 P, b220 P, b221 P, b222 P, b223 P, b224 P, b225 P, b226 P, b227 P, b228 P, b229 P, b230 P, b231 P, b232 P, b233 P, b234 P, b235 P, b236 P, b237 P, b238 P, b239 P, b240 P, b241 P, b242 P, b243 P, b244 P, b245 P, b246 P, b247 P, b248 P, b249 P, b250 P, b251 P, b252 P, b253 P, b254 P, b255 P, b256 P, b257 P, b258 P, b259 P, b260 P, b261 P, b262 P, b263 P, b264 P, b265 P, b266 P, b267 P, b268 P, b269 P, b270 P, b271 P, b272 P, b273 P, b274 P, b275 P, b276 P, b277 P, b278 P, b279 P, b280 P, b281 P, b282 P, b283 P, b284 P, b285 P, b286 P, b287 P, b288 P, b289 P, b290 P, b291 P, b292 P, b293 P, b294 P, b295 P, b296 P, b297 P, b298 P, b299 P, b300 P, b301 P, b302 P, b303 P, b304 P, b305 P, b306 P, b307 P, b308 P, b309 P, b310 P, b311 P, b312 P, b313 P, b314 P, b315 P, b316 P, b317 P, b318 P, b319 P, b320 P, b321 P, b322 P, b323 P, b324 P, b325 P, b326 P, b327 P, b328 P, b329 P, b330 P, b331 P, b332 P, b333 P, b334 P, b335 P, b336 P, b337 P, b338 P, b339 P, b340 P, b341 P, b342 P, b343 P, b344 P, b345 P, b346 P, b347 P, b348 P, b349 P, b350 P, b351 P, b352 P, b353 P, b354 P, b355 P, b356 P, b357 P, b358 P, b359 P, b360 P, b361 P, b362 P, b363 P, b364 P, b365 P, b366 P, b367 P, b368 P, b369 P, b370 P, b371 P, b372 P, b373 P, b374 P, b375 P, b376 P, b377 P, b378 P, b379 P, b380 P, b381 P, b382 P, b383 P, b384 P, b385 P, b386 P, b387 P, b388 P, b389 P, b390 P, b391 P, b392 P, b393 P, b394 P, b395 P, b396 P]⟩, {}⟩
abbrev p9 : Program := PySem.Challenge.rw_unison_k09_refused.row.prog
def env9 : Env := { scope := p9.main.scope, locals := mainNs, globals := mainNs, cells := [], code := (R 13), frame := some 14 }
def code9 : Code := .body (behindTheImports p9) env9
abbrev B9 : List Frame := [topFrame ⟨0, 0, 0, 0⟩]
theorem t_pre (w : World) (os : OsState) : topGo treeTable p9 w 11 (some (R 6)) 12 ⟨boot_heap w.params, ⟨[]⟩, boot_drawn, boot_toks, os⟩ (topStub p9) = some (⟨h_pre w.params, ⟨[]⟩, boot_drawn, 187, os⟩, ⟨denote treeTable code9, code9, ⟨0, 0, 0, 0⟩, B9⟩) := by kernel_rfl
theorem t_block (w : World) (os : OsState) : segRun treeTable p9 w 11 (some (R 6)) 1 1 ⟨h_pre w.params, ⟨[]⟩, boot_drawn, 187, os⟩ (blockOf (behindTheImports p9) env9 code9 ⟨0, 0, 0, 0⟩ B9) = some (.next, ⟨h_pre w.params, ⟨[]⟩, boot_drawn, 187, os⟩, code9, ⟨0, 0, 0, 0⟩) := by kernel_rfl
def g4 : List Stmt := ((behindTheImports p9).drop 0).take 5
theorem t_g4 (w : World) : ∀ os : OsState, segRun treeTable p9 w 11 (some (R 6)) 1 651 ⟨h_pre w.params, ⟨[]⟩, boot_drawn, 187, os⟩ (piecesOf g4 env9 code9 ⟨0, 0, 0, 0⟩ B9) = some (.next, ⟨h_4 w.params, ⟨[]⟩, boot_drawn, 246, os⟩, code9, ⟨9, 0, 10, 8⟩) := by intro os; kernel_rfl
def g8 : List Stmt := ((behindTheImports p9).drop 5).take 4
theorem t_g8 (w : World) : ∀ os : OsState, segRun treeTable p9 w 11 (some (R 6)) 1 853 ⟨h_4 w.params, ⟨[]⟩, boot_drawn, 246, os⟩ (piecesOf g8 env9 code9 ⟨9, 0, 10, 8⟩ B9) = some (.next, ⟨h_8 w.params, ⟨[]⟩, boot_drawn, 310, os⟩, code9, ⟨17, 0, 18, 8⟩) := by intro os; kernel_rfl
def g19 : List Stmt := ((behindTheImports p9).drop 9).take 11
theorem t_g19F (w : World) : ∀ os : OsState, segRun treeTable p9 (w.withFollow "special-get-raises" false) 11 (some (R 6)) 1 333 ⟨h_8 (w.withFollow "special-get-raises" false).params, ⟨[]⟩, boot_drawn, 310, os⟩ (piecesOf g19 env9 code9 ⟨17, 0, 18, 8⟩ B9) = some (.next, ⟨h_19 (w.withFollow "special-get-raises" false).params, ⟨[]⟩, boot_drawn, 384, os⟩, code9, ⟨42, 0, 42, 5⟩) := by intro os; kernel_rfl
theorem t_g19T (w : World) : ∀ os : OsState, segRun treeTable p9 (w.withFollow "special-get-raises" true) 11 (some (R 6)) 1 333 ⟨h_8 (w.withFollow "special-get-raises" true).params, ⟨[]⟩, boot_drawn, 310, os⟩ (piecesOf g19 env9 code9 ⟨17, 0, 18, 8⟩ B9) = some (.next, ⟨h_19 (w.withFollow "special-get-raises" true).params, ⟨[]⟩, boot_drawn, 384, os⟩, code9, ⟨42, 0, 42, 5⟩) := by intro os; kernel_rfl
theorem t_g19 (w : World) : ∀ os : OsState, segRun treeTable p9 w 11 (some (R 6)) 1 333 ⟨h_8 w.params, ⟨[]⟩, boot_drawn, 310, os⟩ (piecesOf g19 env9 code9 ⟨17, 0, 18, 8⟩ B9) = some (.next, ⟨h_19 w.params, ⟨[]⟩, boot_drawn, 384, os⟩, code9, ⟨42, 0, 42, 5⟩) := byRow2 "special-get-raises" (P := fun w => ∀ os : OsState, segRun treeTable p9 w 11 (some (R 6)) 1 333 ⟨h_8 w.params, ⟨[]⟩, boot_drawn, 310, os⟩ (piecesOf g19 env9 code9 ⟨17, 0, 18, 8⟩ B9) = some (.next, ⟨h_19 w.params, ⟨[]⟩, boot_drawn, 384, os⟩, code9, ⟨42, 0, 42, 5⟩)) t_g19F t_g19T w
def g29 : List Stmt := ((behindTheImports p9).drop 20).take 10
theorem t_g29 (w : World) : ∀ os : OsState, segRun treeTable p9 w 11 (some (R 6)) 1 282 ⟨h_19 w.params, ⟨[]⟩, boot_drawn, 384, os⟩ (piecesOf g29 env9 code9 ⟨42, 0, 42, 5⟩ B9) = some (.next, ⟨h_29 w.params, ⟨[]⟩, boot_drawn, 464, os⟩, code9, ⟨77, 0, 77, 8⟩) := by intro os; kernel_rfl
def g31 : List Stmt := ((behindTheImports p9).drop 30).take 2
theorem t_g31 (w : World) : ∀ os : OsState, segRun treeTable p9 w 11 (some (R 6)) 1 471 ⟨h_29 w.params, ⟨[]⟩, boot_drawn, 464, os⟩ (piecesOf g31 env9 code9 ⟨77, 0, 77, 8⟩ B9) = some (.next, ⟨h_31 w.params, ⟨[]⟩, boot_drawn, 520, os⟩, code9, ⟨80, 0, 86, 16⟩) := by intro os; kernel_rfl
def g36 : List Stmt := ((behindTheImports p9).drop 32).take 5
theorem t_g36 (w : World) : ∀ os : OsState, segRun treeTable p9 w 11 (some (R 6)) 1 418 ⟨h_31 w.params, ⟨[]⟩, boot_drawn, 520, os⟩ (piecesOf g36 env9 code9 ⟨80, 0, 86, 16⟩ B9) = some (.next, ⟨h_36 w.params, ⟨[]⟩, boot_drawn, 605, os⟩, code9, ⟨117, 0, 124, 30⟩) := by intro os; kernel_rfl
def g43 : List Stmt := ((behindTheImports p9).drop 37).take 7
theorem t_g43F (w : World) : ∀ os : OsState, segRun treeTable p9 (w.withFollow "special-get-raises" false) 11 (some (R 6)) 1 228 ⟨h_36 (w.withFollow "special-get-raises" false).params, ⟨[]⟩, boot_drawn, 605, os⟩ (piecesOf g43 env9 code9 ⟨117, 0, 124, 30⟩ B9) = some (.next, ⟨h_43 (w.withFollow "special-get-raises" false).params, ⟨[]⟩, boot_drawn, 660, os⟩, code9, ⟨142, 0, 152, 24⟩) := by intro os; kernel_rfl
theorem t_g43T (w : World) : ∀ os : OsState, segRun treeTable p9 (w.withFollow "special-get-raises" true) 11 (some (R 6)) 1 228 ⟨h_36 (w.withFollow "special-get-raises" true).params, ⟨[]⟩, boot_drawn, 605, os⟩ (piecesOf g43 env9 code9 ⟨117, 0, 124, 30⟩ B9) = some (.next, ⟨h_43 (w.withFollow "special-get-raises" true).params, ⟨[]⟩, boot_drawn, 660, os⟩, code9, ⟨142, 0, 152, 24⟩) := by intro os; kernel_rfl
theorem t_g43 (w : World) : ∀ os : OsState, segRun treeTable p9 w 11 (some (R 6)) 1 228 ⟨h_36 w.params, ⟨[]⟩, boot_drawn, 605, os⟩ (piecesOf g43 env9 code9 ⟨117, 0, 124, 30⟩ B9) = some (.next, ⟨h_43 w.params, ⟨[]⟩, boot_drawn, 660, os⟩, code9, ⟨142, 0, 152, 24⟩) := byRow2 "special-get-raises" (P := fun w => ∀ os : OsState, segRun treeTable p9 w 11 (some (R 6)) 1 228 ⟨h_36 w.params, ⟨[]⟩, boot_drawn, 605, os⟩ (piecesOf g43 env9 code9 ⟨117, 0, 124, 30⟩ B9) = some (.next, ⟨h_43 w.params, ⟨[]⟩, boot_drawn, 660, os⟩, code9, ⟨142, 0, 152, 24⟩)) t_g43F t_g43T w
def g49 : List Stmt := ((behindTheImports p9).drop 44).take 6
theorem t_g49 (w : World) : ∀ os : OsState, segRun treeTable p9 w 11 (some (R 6)) 1 131 ⟨h_43 w.params, ⟨[]⟩, boot_drawn, 660, os⟩ (piecesOf g49 env9 code9 ⟨142, 0, 152, 24⟩ B9) = some (.next, ⟨h_49 w.params, ⟨[]⟩, boot_drawn, 692, os⟩, code9, ⟨176, 0, 176, 8⟩) := by intro os; kernel_rfl
def g55 : List Stmt := ((behindTheImports p9).drop 50).take 6
theorem t_g55 (w : World) : ∀ os : OsState, segRun treeTable p9 w 11 (some (R 6)) 1 197 ⟨h_49 w.params, ⟨[]⟩, boot_drawn, 692, os⟩ (piecesOf g55 env9 code9 ⟨176, 0, 176, 8⟩ B9) = some (.next, ⟨h_55 w.params, ⟨[]⟩, boot_drawn, 756, os⟩, code9, ⟨231, 0, 239, 105⟩) := by intro os; kernel_rfl
theorem body9 : behindTheImports p9 = g4 ++ (g8 ++ (g19 ++ (g29 ++ (g31 ++ (g36 ++ (g43 ++ (g49 ++ (g55 ++ [])))))))) := by kernel_rfl
theorem t_fin (w : World) (os : OsState) : topRun treeTable p9 w 11 (some (R 6)) 2 ⟨h_55 w.params, ⟨[]⟩, boot_drawn, 756, os⟩ ⟨doneF .next, code9, ⟨231, 0, 239, 105⟩, B9⟩ = some ⟨h_55 w.params, ⟨[]⟩, boot_drawn, 756, os⟩ := by kernel_rfl
theorem t_rest (w : World) (os : OsState) : topRun treeTable p9 w 11 (some (R 6)) (651 + (853 + (333 + (282 + (471 + (418 + (228 + (131 + (197 + 2))))))))) ⟨h_pre w.params, ⟨[]⟩, boot_drawn, 187, os⟩ (restOf (behindTheImports p9) env9 code9 ⟨0, 0, 0, 0⟩ B9) = some ⟨h_55 w.params, ⟨[]⟩, boot_drawn, 756, os⟩ := by
  have h := piece_app (t_g4 w os) (piece_app (t_g8 w os) (piece_app (t_g19 w os) (piece_app (t_g29 w os) (piece_app (t_g31 w os) (piece_app (t_g36 w os) (piece_app (t_g43 w os) (piece_app (t_g49 w os) (piece_app (t_g55 w os) (piece_nil (t_fin w os))))))))))
  rw [body9]
  exact h
theorem t_run (w : World) (os : OsState) : topRun treeTable p9 w 11 (some (R 6)) (12 + (1 + (651 + (853 + (333 + (282 + (471 + (418 + (228 + (131 + (197 + 2))))))))))) ⟨boot_heap w.params, ⟨[]⟩, boot_drawn, boot_toks, os⟩ (topStub p9) = some ⟨h_55 w.params, ⟨[]⟩, boot_drawn, 756, os⟩ := go_top (t_pre w os) (piece_block (t_block w os) (t_rest w os))
noncomputable def kfrag (P : Params) : PySem.W.Frag := [(2, boot_o_2 P), (3, b3 P), (20, b20 P), (30, b30 P), (31, b31 P), (32, b32 P), (43, b43 P), (44, b44 P), (55, b55 P), (56, b56 P), (67, b67 P), (68, b68 P), (79, b79 P), (80, b80 P), (91, b91 P), (92, b92 P), (103, b103 P), (104, b104 P), (107, b107 P), (113, b113 P), (114, b114 P), (120, b120 P), (121, b121 P), (127, b127 P), (128, b128 P), (132, b132 P), (133, b133 P), (139, b139 P), (140, b140 P), (141, b141 P), (142, b142 P), (143, b143 P), (149, b149 P), (150, b150 P), (156, b156 P), (157, b157 P), (163, b163 P), (164, b164 P), (170, b170 P), (171, b171 P), (177, b177 P), (178, b178 P), (182, b182 P), (183, b183 P), (189, b189 P), (190, b190 P), (194, b194 P), (195, b195 P), (201, b201 P), (202, b202 P), (211, b211 P), (212, b212 P), (213, b213 P), (214, b214 P), (229, b229 P), (230, b230 P), (236, b236 P), (239, b239 P), (240, b240 P), (255, b255 P), (256, b256 P), (262, b262 P), (265, b265 P), (266, b266 P), (274, b274 P), (275, b275 P), (281, b281 P), (282, b282 P), (288, b288 P), (289, b289 P), (295, b295 P), (296, b296 P), (297, b297 P), (303, b303 P), (304, b304 P), (310, b310 P), (311, b311 P), (317, b317 P), (318, b318 P), (322, b322 P), (323, b323 P), (329, b329 P), (330, b330 P), (334, b334 P), (335, b335 P), (341, b341 P), (342, b342 P), (348, b348 P), (349, b349 P), (353, b353 P), (354, b354 P), (360, b360 P), (361, b361 P), (367, b367 P), (368, b368 P), (374, b374 P), (375, b375 P), (381, b381 P), (382, b382 P), (388, b388 P), (389, b389 P), (395, b395 P), (396, b396 P)]
def kaddr : List Addr := [2, 3, 20, 30, 31, 32, 43, 44, 55, 56, 67, 68, 79, 80, 91, 92, 103, 104, 107, 113, 114, 120, 121, 127, 128, 132, 133, 139, 140, 141, 142, 143, 149, 150, 156, 157, 163, 164, 170, 171, 177, 178, 182, 183, 189, 190, 194, 195, 201, 202, 211, 212, 213, 214, 229, 230, 236, 239, 240, 255, 256, 262, 265, 266, 274, 275, 281, 282, 288, 289, 295, 296, 297, 303, 304, 310, 311, 317, 318, 322, 323, 329, 330, 334, 335, 341, 342, 348, 349, 353, 354, 360, 361, 367, 368, 374, 375, 381, 382, 388, 389, 395, 396]
theorem txt_k {P : Program} {w : World} {h : Heap} {mg : Str → Option Value} (X : (kfrag w.params).In h) (G : h.Ns mainGlobals mg) : ∃ A, Txt P w (kfrag w.params) mg A := by
  refine' txt_mk (f0 := 114) (oc0 := (Y "function")) (od0 := none) (sl0 := #[]) (kV0 := N) (dc0 := N) (pm0 := (S "unison.ridges" 310)) (an0 := none) (cd0 := (R 113)) (ct0 := N) (f1 := 121) (oc1 := (Y "function")) (od1 := none) (sl1 := #[]) (kV1 := N) (dc1 := N) (pm1 := (S "unison.ridges" 310)) (an1 := none) (cd1 := (R 120)) (ct1 := N) (f2 := 128) (oc2 := (Y "function")) (od2 := none) (sl2 := #[]) (kV2 := N) (dc2 := N) (pm2 := (S "unison.ridges" 310)) (an2 := none) (cd2 := (R 127)) (ct2 := N) (f3 := 133) (oc3 := (Y "function")) (od3 := none) (sl3 := #[]) (kV3 := N) (dc3 := N) (pm3 := (S "unison.ridges" 310)) (an3 := none) (cd3 := (R 132)) (ct3 := N) (f4 := 140) (oc4 := (Y "function")) (od4 := none) (sl4 := #[]) (kV4 := N) (dc4 := N) (pm4 := (S "unison.ridges" 310)) (an4 := none) (cd4 := (R 139)) (ct4 := N) (f5 := 150) (oc5 := (Y "function")) (od5 := none) (sl5 := #[]) (kV5 := N) (dc5 := N) (pm5 := (S "unison.moves" 356)) (an5 := none) (cd5 := (R 149)) (ct5 := N) (f6 := 157) (oc6 := (Y "function")) (od6 := none) (sl6 := #[]) (kV6 := N) (dc6 := N) (pm6 := (S "unison.moves" 356)) (an6 := none) (cd6 := (R 156)) (ct6 := N) (f7 := 164) (oc7 := (Y "function")) (od7 := none) (sl7 := #[]) (kV7 := N) (dc7 := N) (pm7 := (S "unison.moves" 356)) (an7 := none) (cd7 := (R 163)) (ct7 := N) (f8 := 171) (oc8 := (Y "function")) (od8 := none) (sl8 := #[]) (kV8 := N) (dc8 := N) (pm8 := (S "unison.moves" 356)) (an8 := none) (cd8 := (R 170)) (ct8 := N) (f9 := 178) (oc9 := (Y "function")) (od9 := none) (sl9 := #[]) (kV9 := N) (dc9 := N) (pm9 := (S "unison.moves" 356)) (an9 := none) (cd9 := (R 177)) (ct9 := N) (f10 := 183) (oc10 := (Y "function")) (od10 := none) (sl10 := #[]) (kV10 := N) (dc10 := N) (pm10 := (S "unison.moves" 356)) (an10 := none) (cd10 := (R 182)) (ct10 := N) (f11 := 190) (oc11 := (Y "function")) (od11 := none) (sl11 := #[]) (kV11 := N) (dc11 := N) (pm11 := (S "unison.moves" 356)) (an11 := none) (cd11 := (R 189)) (ct11 := N) (f12 := 195) (oc12 := (Y "function")) (od12 := none) (sl12 := #[]) (kV12 := N) (dc12 := N) (pm12 := (S "unison.moves" 356)) (an12 := none) (cd12 := (R 194)) (ct12 := N) (f13 := 202) (oc13 := (Y "function")) (od13 := none) (sl13 := #[]) (kV13 := N) (dc13 := N) (pm13 := (S "unison.moves" 356)) (an13 := none) (cd13 := (R 201)) (ct13 := N) (f14 := 275) (oc14 := (Y "function")) (od14 := none) (sl14 := #[]) (kV14 := N) (dc14 := N) (pm14 := (S "unison.telling" 462)) (an14 := none) (cd14 := (R 274)) (ct14 := N) (f15 := 282) (oc15 := (Y "function")) (od15 := none) (sl15 := #[]) (kV15 := N) (dc15 := N) (pm15 := (S "unison.telling" 462)) (an15 := none) (cd15 := (R 281)) (ct15 := N) (f16 := 289) (oc16 := (Y "function")) (od16 := none) (sl16 := #[]) (kV16 := N) (dc16 := N) (pm16 := (S "unison.telling" 462)) (an16 := none) (cd16 := (R 288)) (ct16 := N) (f17 := 296) (oc17 := (Y "function")) (od17 := none) (sl17 := #[]) (kV17 := N) (dc17 := N) (pm17 := (S "unison.telling" 462)) (an17 := none) (cd17 := (R 295)) (ct17 := N) (f18 := 304) (oc18 := (Y "function")) (od18 := none) (sl18 := #[]) (kV18 := N) (dc18 := N) (pm18 := (S "unison.climbs" 605)) (an18 := none) (cd18 := (R 303)) (ct18 := N) (f19 := 311) (oc19 := (Y "function")) (od19 := none) (sl19 := #[]) (kV19 := N) (dc19 := N) (pm19 := (S "unison.climbs" 605)) (an19 := none) (cd19 := (R 310)) (ct19 := N) (f20 := 318) (oc20 := (Y "function")) (od20 := none) (sl20 := #[]) (kV20 := N) (dc20 := N) (pm20 := (S "unison.climbs" 605)) (an20 := none) (cd20 := (R 317)) (ct20 := N) (f21 := 323) (oc21 := (Y "function")) (od21 := none) (sl21 := #[]) (kV21 := N) (dc21 := N) (pm21 := (S "unison.climbs" 605)) (an21 := none) (cd21 := (R 322)) (ct21 := N) (f22 := 330) (oc22 := (Y "function")) (od22 := none) (sl22 := #[]) (kV22 := N) (dc22 := N) (pm22 := (S "unison.climbs" 605)) (an22 := none) (cd22 := (R 329)) (ct22 := N) (f23 := 335) (oc23 := (Y "function")) (od23 := none) (sl23 := #[]) (kV23 := N) (dc23 := N) (pm23 := (S "unison.climbs" 605)) (an23 := none) (cd23 := (R 334)) (ct23 := N) (f24 := 342) (oc24 := (Y "function")) (od24 := none) (sl24 := #[]) (kV24 := N) (dc24 := N) (pm24 := (S "unison.ranges" 666)) (an24 := none) (cd24 := (R 341)) (ct24 := N) (f25 := 349) (oc25 := (Y "function")) (od25 := none) (sl25 := #[]) (kV25 := N) (dc25 := N) (pm25 := (S "unison.ranges" 666)) (an25 := none) (cd25 := (R 348)) (ct25 := N) (f26 := 354) (oc26 := (Y "function")) (od26 := none) (sl26 := #[]) (kV26 := N) (dc26 := N) (pm26 := (S "unison.ranges" 666)) (an26 := none) (cd26 := (R 353)) (ct26 := N) (f27 := 361) (oc27 := (Y "function")) (od27 := none) (sl27 := #[]) (kV27 := N) (dc27 := N) (pm27 := (S "law_unison_k09_refused" 690)) (an27 := none) (cd27 := (R 360)) (ct27 := N) (f28 := 368) (oc28 := (Y "function")) (od28 := none) (sl28 := #[]) (kV28 := N) (dc28 := N) (pm28 := (S "law_unison_k09_refused" 690)) (an28 := none) (cd28 := (R 367)) (ct28 := N) (f29 := 375) (oc29 := (Y "function")) (od29 := none) (sl29 := #[]) (kV29 := N) (dc29 := N) (pm29 := (S "law_unison_k09_refused" 690)) (an29 := none) (cd29 := (R 374)) (ct29 := N) (f30 := 382) (oc30 := (Y "function")) (od30 := none) (sl30 := #[]) (kV30 := N) (dc30 := N) (pm30 := (S "law_unison_k09_refused" 690)) (an30 := none) (cd30 := (R 381)) (ct30 := N) (f31 := 389) (oc31 := (Y "function")) (od31 := none) (sl31 := #[]) (kV31 := N) (dc31 := N) (pm31 := (S "law_unison_k09_refused" 690)) (an31 := none) (cd31 := (R 388)) (ct31 := N) (f32 := 396) (oc32 := (Y "function")) (od32 := none) (sl32 := #[]) (kV32 := N) (dc32 := N) (pm32 := (S "law_unison_k09_refused" 690)) (an32 := none) (cd32 := (R 395)) (ct32 := N) (fWay_init := 230) (ocWay_init := (Y "function")) (odWay_init := none) (slWay_init := #[]) (kVWay_init := N) (dcWay_init := N) (pmWay_init := (S "unison.telling" 462)) (anWay_init := none) (cdWay_init := (R 229)) (ctWay_init := N) (fShut_init := 256) (ocShut_init := (Y "function")) (odShut_init := none) (slShut_init := #[]) (kVShut_init := N) (dcShut_init := N) (pmShut_init := (S "unison.telling" 462)) (anShut_init := none) (cdShut_init := (R 255)) (ctShut_init := N) (eEXCHANGED := 107) (eMOVES := 141) (eTAKEN_BACK := 142) (eSTEPS := 143) (eUNDONE := 297) (eRidgeError := 31) (eBadRidge := 44) (eBadClimb := 56) (eBadRange := 68) (eBadPlaces := 80) (eBadMoves := 92) (eUnlike := 104) (eAnswer := 212) (eWay := 240) (eShut := 266) (odMOVES := none) (slMOVES := #[]) (itsMOVES := [(S "ff" 358), (S "fb" 359), (S "bf" 360), (S "bb" 361)].toArray) (nMOVES := 0) X G ?a0 ?l0 ?c0 ?k0 ?a1 ?l1 ?c1 ?k1 ?a2 ?l2 ?c2 ?k2 ?a3 ?l3 ?c3 ?k3 ?a4 ?l4 ?c4 ?k4 ?a5 ?l5 ?c5 ?k5 ?a6 ?l6 ?c6 ?k6 ?a7 ?l7 ?c7 ?k7 ?a8 ?l8 ?c8 ?k8 ?a9 ?l9 ?c9 ?k9 ?a10 ?l10 ?c10 ?k10 ?a11 ?l11 ?c11 ?k11 ?a12 ?l12 ?c12 ?k12 ?a13 ?l13 ?c13 ?k13 ?a14 ?l14 ?c14 ?k14 ?a15 ?l15 ?c15 ?k15 ?a16 ?l16 ?c16 ?k16 ?a17 ?l17 ?c17 ?k17 ?a18 ?l18 ?c18 ?k18 ?a19 ?l19 ?c19 ?k19 ?a20 ?l20 ?c20 ?k20 ?a21 ?l21 ?c21 ?k21 ?a22 ?l22 ?c22 ?k22 ?a23 ?l23 ?c23 ?k23 ?a24 ?l24 ?c24 ?k24 ?a25 ?l25 ?c25 ?k25 ?a26 ?l26 ?c26 ?k26 ?a27 ?l27 ?c27 ?k27 ?a28 ?l28 ?c28 ?k28 ?a29 ?l29 ?c29 ?k29 ?a30 ?l30 ?c30 ?k30 ?a31 ?l31 ?c31 ?k31 ?a32 ?l32 ?c32 ?k32 ?aEXCHANGED ?tEXCHANGED ?hEXCHANGED ?aMOVES ?lMOVES ?vMOVES ?zMOVES ?aTAKEN_BACK ?tTAKEN_BACK ?hTAKEN_BACK ?aSTEPS ?tSTEPS ?hSTEPS ?aUNDONE ?tUNDONE ?hUNDONE ?aRidgeError ?aBadRidge ?aBadClimb ?aBadRange ?aBadPlaces ?aBadMoves ?aUnlike ?xBadRidge ?yBadRidge ?iBadRidge_BadRidge ?iBadRidge_BadClimb ?iBadRidge_BadRange ?iBadRidge_BadPlaces ?iBadRidge_BadMoves ?iBadRidge_Unlike ?iBadRidge_ValueError ?hBadRidge_RidgeError ?xBadClimb ?yBadClimb ?iBadClimb_BadRidge ?iBadClimb_BadClimb ?iBadClimb_BadRange ?iBadClimb_BadPlaces ?iBadClimb_BadMoves ?iBadClimb_Unlike ?iBadClimb_ValueError ?hBadClimb_RidgeError ?xBadRange ?yBadRange ?iBadRange_BadRidge ?iBadRange_BadClimb ?iBadRange_BadRange ?iBadRange_BadPlaces ?iBadRange_BadMoves ?iBadRange_Unlike ?iBadRange_ValueError ?hBadRange_RidgeError ?xBadPlaces ?yBadPlaces ?iBadPlaces_BadRidge ?iBadPlaces_BadClimb ?iBadPlaces_BadRange ?iBadPlaces_BadPlaces ?iBadPlaces_BadMoves ?iBadPlaces_Unlike ?iBadPlaces_ValueError ?hBadPlaces_RidgeError ?xBadMoves ?yBadMoves ?iBadMoves_BadRidge ?iBadMoves_BadClimb ?iBadMoves_BadRange ?iBadMoves_BadPlaces ?iBadMoves_BadMoves ?iBadMoves_Unlike ?iBadMoves_ValueError ?hBadMoves_RidgeError ?xUnlike ?yUnlike ?iUnlike_BadRidge ?iUnlike_BadClimb ?iUnlike_BadRange ?iUnlike_BadPlaces ?iUnlike_BadMoves ?iUnlike_Unlike ?iUnlike_ValueError ?hUnlike_RidgeError ?z_ValueError ?z_all ?z_bool ?z_int ?z_isinstance ?z_len ?z_list ?z_max ?z_min ?z_reversed ?z_str ?aAnswer ?aWay ?aWay_init ?iWay_init ?lWay_init ?cWay_init ?kWay_init ?pgWay ?hdWay ?poWay ?saWay ?mkWay ?kcWay ?nWay_moves ?aShut ?aShut_init ?iShut_init ?lShut_init ?cShut_init ?kShut_init ?pgShut ?hdShut ?poShut ?saShut ?mkShut ?kcShut ?nShut_pairs
  case a0 => kernel_rfl
  case l0 => kernel_rfl
  case c0 => kernel_rfl
  case k0 => kernel_rfl
  case a1 => kernel_rfl
  case l1 => kernel_rfl
  case c1 => kernel_rfl
  case k1 => kernel_rfl
  case a2 => kernel_rfl
  case l2 => kernel_rfl
  case c2 => kernel_rfl
  case k2 => kernel_rfl
  case a3 => kernel_rfl
  case l3 => kernel_rfl
  case c3 => kernel_rfl
  case k3 => kernel_rfl
  case a4 => kernel_rfl
  case l4 => kernel_rfl
  case c4 => kernel_rfl
  case k4 => kernel_rfl
  case a5 => kernel_rfl
  case l5 => kernel_rfl
  case c5 => kernel_rfl
  case k5 => kernel_rfl
  case a6 => kernel_rfl
  case l6 => kernel_rfl
  case c6 => kernel_rfl
  case k6 => kernel_rfl
  case a7 => kernel_rfl
  case l7 => kernel_rfl
  case c7 => kernel_rfl
  case k7 => kernel_rfl
  case a8 => kernel_rfl
  case l8 => kernel_rfl
  case c8 => kernel_rfl
  case k8 => kernel_rfl
  case a9 => kernel_rfl
  case l9 => kernel_rfl
  case c9 => kernel_rfl
  case k9 => kernel_rfl
  case a10 => kernel_rfl
  case l10 => kernel_rfl
  case c10 => kernel_rfl
  case k10 => kernel_rfl
  case a11 => kernel_rfl
  case l11 => kernel_rfl
  case c11 => kernel_rfl
  case k11 => kernel_rfl
  case a12 => kernel_rfl
  case l12 => kernel_rfl
  case c12 => kernel_rfl
  case k12 => kernel_rfl
  case a13 => kernel_rfl
  case l13 => kernel_rfl
  case c13 => kernel_rfl
  case k13 => kernel_rfl
  case a14 => kernel_rfl
  case l14 => kernel_rfl
  case c14 => kernel_rfl
  case k14 => kernel_rfl
  case a15 => kernel_rfl
  case l15 => kernel_rfl
  case c15 => kernel_rfl
  case k15 => kernel_rfl
  case a16 => kernel_rfl
  case l16 => kernel_rfl
  case c16 => kernel_rfl
  case k16 => kernel_rfl
  case a17 => kernel_rfl
  case l17 => kernel_rfl
  case c17 => kernel_rfl
  case k17 => kernel_rfl
  case a18 => kernel_rfl
  case l18 => kernel_rfl
  case c18 => kernel_rfl
  case k18 => kernel_rfl
  case a19 => kernel_rfl
  case l19 => kernel_rfl
  case c19 => kernel_rfl
  case k19 => kernel_rfl
  case a20 => kernel_rfl
  case l20 => kernel_rfl
  case c20 => kernel_rfl
  case k20 => kernel_rfl
  case a21 => kernel_rfl
  case l21 => kernel_rfl
  case c21 => kernel_rfl
  case k21 => kernel_rfl
  case a22 => kernel_rfl
  case l22 => kernel_rfl
  case c22 => kernel_rfl
  case k22 => kernel_rfl
  case a23 => kernel_rfl
  case l23 => kernel_rfl
  case c23 => kernel_rfl
  case k23 => kernel_rfl
  case a24 => kernel_rfl
  case l24 => kernel_rfl
  case c24 => kernel_rfl
  case k24 => kernel_rfl
  case a25 => kernel_rfl
  case l25 => kernel_rfl
  case c25 => kernel_rfl
  case k25 => kernel_rfl
  case a26 => kernel_rfl
  case l26 => kernel_rfl
  case c26 => kernel_rfl
  case k26 => kernel_rfl
  case a27 => kernel_rfl
  case l27 => kernel_rfl
  case c27 => kernel_rfl
  case k27 => kernel_rfl
  case a28 => kernel_rfl
  case l28 => kernel_rfl
  case c28 => kernel_rfl
  case k28 => kernel_rfl
  case a29 => kernel_rfl
  case l29 => kernel_rfl
  case c29 => kernel_rfl
  case k29 => kernel_rfl
  case a30 => kernel_rfl
  case l30 => kernel_rfl
  case c30 => kernel_rfl
  case k30 => kernel_rfl
  case a31 => kernel_rfl
  case l31 => kernel_rfl
  case c31 => kernel_rfl
  case k31 => kernel_rfl
  case a32 => kernel_rfl
  case l32 => kernel_rfl
  case c32 => kernel_rfl
  case k32 => kernel_rfl
  case aEXCHANGED => kernel_rfl
  case tEXCHANGED => kernel_rfl
  case hEXCHANGED => kernel_rfl
  case aMOVES => kernel_rfl
  case lMOVES => kernel_rfl
  case vMOVES => repeat' first | exact .nil | refine .cons ⟨_, rfl⟩ ?_
  case zMOVES => decide
  case aTAKEN_BACK => kernel_rfl
  case tTAKEN_BACK => kernel_rfl
  case hTAKEN_BACK => kernel_rfl
  case aSTEPS => kernel_rfl
  case tSTEPS => kernel_rfl
  case hSTEPS => kernel_rfl
  case aUNDONE => kernel_rfl
  case tUNDONE => kernel_rfl
  case hUNDONE => kernel_rfl
  case aRidgeError => kernel_rfl
  case aBadRidge => kernel_rfl
  case aBadClimb => kernel_rfl
  case aBadRange => kernel_rfl
  case aBadPlaces => kernel_rfl
  case aBadMoves => kernel_rfl
  case aUnlike => kernel_rfl
  case xBadRidge => kernel_rfl
  case yBadRidge => kernel_rfl
  case iBadRidge_BadRidge => kernel_rfl
  case iBadRidge_BadClimb => kernel_rfl
  case iBadRidge_BadRange => kernel_rfl
  case iBadRidge_BadPlaces => kernel_rfl
  case iBadRidge_BadMoves => kernel_rfl
  case iBadRidge_Unlike => kernel_rfl
  case iBadRidge_ValueError => kernel_rfl
  case hBadRidge_RidgeError => kernel_rfl
  case xBadClimb => kernel_rfl
  case yBadClimb => kernel_rfl
  case iBadClimb_BadRidge => kernel_rfl
  case iBadClimb_BadClimb => kernel_rfl
  case iBadClimb_BadRange => kernel_rfl
  case iBadClimb_BadPlaces => kernel_rfl
  case iBadClimb_BadMoves => kernel_rfl
  case iBadClimb_Unlike => kernel_rfl
  case iBadClimb_ValueError => kernel_rfl
  case hBadClimb_RidgeError => kernel_rfl
  case xBadRange => kernel_rfl
  case yBadRange => kernel_rfl
  case iBadRange_BadRidge => kernel_rfl
  case iBadRange_BadClimb => kernel_rfl
  case iBadRange_BadRange => kernel_rfl
  case iBadRange_BadPlaces => kernel_rfl
  case iBadRange_BadMoves => kernel_rfl
  case iBadRange_Unlike => kernel_rfl
  case iBadRange_ValueError => kernel_rfl
  case hBadRange_RidgeError => kernel_rfl
  case xBadPlaces => kernel_rfl
  case yBadPlaces => kernel_rfl
  case iBadPlaces_BadRidge => kernel_rfl
  case iBadPlaces_BadClimb => kernel_rfl
  case iBadPlaces_BadRange => kernel_rfl
  case iBadPlaces_BadPlaces => kernel_rfl
  case iBadPlaces_BadMoves => kernel_rfl
  case iBadPlaces_Unlike => kernel_rfl
  case iBadPlaces_ValueError => kernel_rfl
  case hBadPlaces_RidgeError => kernel_rfl
  case xBadMoves => kernel_rfl
  case yBadMoves => kernel_rfl
  case iBadMoves_BadRidge => kernel_rfl
  case iBadMoves_BadClimb => kernel_rfl
  case iBadMoves_BadRange => kernel_rfl
  case iBadMoves_BadPlaces => kernel_rfl
  case iBadMoves_BadMoves => kernel_rfl
  case iBadMoves_Unlike => kernel_rfl
  case iBadMoves_ValueError => kernel_rfl
  case hBadMoves_RidgeError => kernel_rfl
  case xUnlike => kernel_rfl
  case yUnlike => kernel_rfl
  case iUnlike_BadRidge => kernel_rfl
  case iUnlike_BadClimb => kernel_rfl
  case iUnlike_BadRange => kernel_rfl
  case iUnlike_BadPlaces => kernel_rfl
  case iUnlike_BadMoves => kernel_rfl
  case iUnlike_Unlike => kernel_rfl
  case iUnlike_ValueError => kernel_rfl
  case hUnlike_RidgeError => kernel_rfl
  case z_ValueError => kernel_rfl
  case z_all => kernel_rfl
  case z_bool => kernel_rfl
  case z_int => kernel_rfl
  case z_isinstance => kernel_rfl
  case z_len => kernel_rfl
  case z_list => kernel_rfl
  case z_max => kernel_rfl
  case z_min => kernel_rfl
  case z_reversed => kernel_rfl
  case z_str => kernel_rfl
  case aAnswer => kernel_rfl
  case aWay => kernel_rfl
  case aWay_init => kernel_rfl
  case iWay_init => kernel_rfl
  case lWay_init => kernel_rfl
  case cWay_init => kernel_rfl
  case kWay_init => kernel_rfl
  case pgWay => kernel_rfl
  case hdWay => kernel_rfl
  case poWay => kernel_rfl
  case saWay => kernel_rfl
  case mkWay => kernel_rfl
  case kcWay => kernel_rfl
  case nWay_moves => kernel_rfl
  case aShut => kernel_rfl
  case aShut_init => kernel_rfl
  case iShut_init => kernel_rfl
  case lShut_init => kernel_rfl
  case cShut_init => kernel_rfl
  case kShut_init => kernel_rfl
  case pgShut => kernel_rfl
  case hdShut => kernel_rfl
  case poShut => kernel_rfl
  case saShut => kernel_rfl
  case mkShut => kernel_rfl
  case kcShut => kernel_rfl
  case nShut_pairs => kernel_rfl
end K09
open PySem PySem.W PyProof.Rows
def K09.kq : Program := view PySem.Challenge.pw_unison_k09_refused [0, 2, 3, 4, 5, 6, 7, 8, 10, 11, 12, 13, 14, 15, 17, 18, 19, 20, 21, 22, 23, 24, 25, 26, 27, 28, 30, 31, 32, 33, 34, 35, 36, 38, 39, 40, 41, 42, 43, 44, 46, 47, 48, 50, 51, 52, 53, 54, 55]
def K09.kl : List Str := [Str.ofString "EXCHANGED", Str.ofString "TAKEN_BACK", Str.ofString "STEPS", Str.ofString "UNDONE"]
noncomputable def K09.kH : Hook := kHook K09.kfrag K09.kaddr (fun _ => by rfl)
theorem K09.looks (w : World) : (fun os : OsState => ((staticsOk (importedModules K09.p9.main.body) (boot_heap w.params) (K09.h_55 w.params) && namesBound K09.p9 (K09.h_55 w.params) && gensDone ⟨K09.h_55 w.params, ⟨[]⟩, boot_drawn, 756, os⟩ && laidKept (boot_heap w.params) (K09.h_55 w.params)), openSeen K09.kq K09.kl (importedModules K09.p9.main.body) (fun s => xlAt K09.kq [] s && recOk (RowW.records (OpenRow.toRowW PySem.Challenge.rw_unison_k09_refused.row)) s) true ⟨K09.h_55 w.params, ⟨[]⟩, boot_drawn, 756, os⟩, Hook.obs K09.kH ⟨K09.h_55 w.params, ⟨[]⟩, boot_drawn, 756, os⟩)) = fun _ => (true, openGood K09.kq K09.kl, Hook.val K09.kH w) := by kernel_rfl
theorem K09.left : LeftO K09.p9 K09.kq K09.kl (fun s => xlAt K09.kq [] s && recOk (RowW.records (OpenRow.toRowW PySem.Challenge.rw_unison_k09_refused.row)) s) (Hook.obs K09.kH) (Hook.val K09.kH) 7236 :=
  LeftO.of_pieces (boot_open (by kernel_rfl) rfl (fun s => by kernel_rfl)) (fun w => by kernel_rfl) K09.t_run rfl K09.looks
set_option Elab.async false
set_option linter.all false
open PySem PySem.W PyProof.Rows
set_option maxRecDepth 100000 in
set_option maxHeartbeats 0 in
theorem K09.said : OpenLaw.wellSaid PySem.Challenge.rw_unison_k09_refused = true := by kernel_rfl
set_option maxRecDepth 100000 in
set_option maxHeartbeats 0 in
theorem PySem.Challenge.cw_unison_k09_refused_holds : PySem.Challenge.rw_unison_k09_refused.Holds := by
  refine holds_law K09.said fun said => ?_
  refine holds_open (q := K09.kq) (loose := K09.kl) (Xt := fun s => xlAt K09.kq [] s && recOk (RowW.records (OpenRow.toRowW PySem.Challenge.rw_unison_k09_refused.row)) s) (XP := XL K09.kq []) (Yf := Hook.obs K09.kH) (Ya := Hook.val K09.kH) (YP := Hook.says K09.kH) (N := 7236)
    K09.left (Hook.of K09.kH) (Hook.keeps K09.kH) (fun s e => xl_of s (Bool.and_eq_true_iff.mp e).1) XL.keeps (by rfl) (by rfl) (by rfl) (fun s e => recFacts_of (Bool.and_eq_true_iff.mp e).2) (by rfl) said (by decide +kernel) ⟨rfl, rfl, rfl, rfl, rfl, by decide +kernel⟩ ?hw ?hc
  case hw => w_witness2
  refine L2.walk_ofK (l := PySem.Challenge.rw_unison_k09_refused) (n := 63) (k := 11) (x := "_law_script") (CX := L2.CX0) (sp := K09.sp_law) rfl (by decide) rfl ⟨rfl, by decide, by decide⟩ (fun w h Y => PySem.W.kIn_of Y) ?F ?S ?C
  case F =>
    intro w mg fa h KX G hmg
    obtain ⟨A, T⟩ := K09.txt_k (P := PySem.Challenge.rw_unison_k09_refused.prog) KX G
    have e0 := hmg.symm.trans T.m_law
    cases e0
    obtain ⟨oc, od, kV, doc, pm, an, cdv, ct, osl, efd, lk, hcd⟩ := T.F_law.ex
    exact ⟨A.d_law, fun s u => efd ▸ .of_eq rfl, fun base kb nb => K09.ok_law T⟩
  case S => exact fun K H a ns hl hO hS => ⟨a, ns, rfl, hS, hl, fun _ => rfl⟩
  case C => exact fun _ _ _ _ z => z
#print axioms PySem.Challenge.cw_unison_k09_refused_holds
